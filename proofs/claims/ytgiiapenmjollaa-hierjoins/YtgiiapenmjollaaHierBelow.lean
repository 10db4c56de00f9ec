/-
  Package hier: whether one class is below another, and which class both are below.
-/
import Derived.Test.YtgiiapenmjollaaHierUp
import Derived.Test.YtgiiapenmjollaaHierRef
namespace Go.Proofs.Ytgiiapenmjollaa
open Go.RowKit Go.Shelf

attribute [local go_sem] Oper.semAt_some

set_option maxRecDepth 100000 in
set_option maxHeartbeats 4000000 in
theorem below_any (A : Option Addr) (c : Nat) (l : List Cl) (u d : Nat) (ht : Tree l) (hu : u < l.length) (w : World) (hl : ClsAt w A l) :
    Calls Try.prog 41 #[.slice A l.length c, .int .i64 u, .int .i64 d] w fun e w' => e = .returned (.bool (belN l u d)) ∧ Bl w w' := by
  have HT : Hid (Tree l) := ht
  have HL : Hid (ClsAt w A l) := hl
  clear ht hl
  refine (callsIn_wide (n := 3)).1 ?_
  refine callsIn_of_wp_marks Try.func41 rfl trivial ?_ rfl
  simp only [Try.ntmps41, List.size_toArray, List.length_cons, List.length_nil, Nat.reduceAdd, Nat.reduceSub, Array.replicate_succ, Array.replicate_zero, List.push_toArray, List.append_toArray, List.nil_append, List.cons_append]
  gi_wp2_with (refine ⟨trivial, ?_⟩; gi_at_call 60; refine (callsIn_wide.2 (upward_any _ _ _ _ _)).mono ?_; rintro e w' ⟨rfl, rfl⟩)
  have c0 := Boxed.new w 3 (.int .i64 (d : Int))
  have c1 := Boxed.new (w.alloc (.cells #[.int .i64 (d : Int)] 3)) 4 (.bool false)
  have c2 := Boxed.new ((w.alloc (.cells #[.int .i64 (d : Int)] 3)).alloc (.cells #[.bool false] 4)) 29 (.slice A l.length c)
  have c3 := Boxed.new (((w.alloc (.cells #[.int .i64 (d : Int)] 3)).alloc (.cells #[.bool false] 4)).alloc (.cells #[.slice A l.length c] 29)) 3 (.int .i64 (u : Int))
  simp only [World.size_alloc] at c1 c2 c3
  have hB0 : Bl w ((((w.alloc (.cells #[.int .i64 (d : Int)] 3)).alloc (.cells #[.bool false] 4)).alloc (.cells #[.slice A l.length c] 29)).alloc (.cells #[.int .i64 (u : Int)] 3)) := ((((Bl.refl w).alloc _).alloc _).alloc _).alloc _
  refine wpIn_rangeFunc_ownF (F := Fence.wide) rfl (by omega) (gf := 80) (lb := #[.pointer (some ⟨w.heap.size + 1 + 1 + 1, 0, none⟩), .pointer (some ⟨w.heap.size + 1 + 1, 0, none⟩)]) rfl trivial (enters_of Try.func80 (by kernel_rfl) rfl)
    (up_stops _ (by omega) (w.heap.size + 1 + 1 + 1) (w.heap.size + 1 + 1) A c l u HT.out hu _ (HL.out.bl hB0) c3.cell (c2.alloc _).cell) belowK_t (belowK_b (Nat.le_refl _)) (Below.refl _ _) (fun _ => rfl)
    (fun pre W => ((∀ y ∈ pre, y ≠ d) ∧ Boxed W w.heap.size 3 (.int .i64 (d : Int)) ∧ Boxed W (w.heap.size + 1) 4 (.bool false)) ∧ Below w.heap.size w W)
    (fun c pre W => (c = .ret ∧ d ∈ pre ∧ Boxed W (w.heap.size + 1) 4 (.bool true)) ∧ Below w.heap.size w W)
    (OwnFrom.and (Own.from (fun s X Y row hs hg hr => ⟨hs.1, boxed_own _ _ (fun _ => _) s X Y row hs.2.1 hg hr, boxed_own _ _ (fun _ => _) s X Y row hs.2.2 hg hr⟩) _) (ownFrom_below (Nat.le_refl _) hB0.size))
    (fun c => OwnFrom.and (Own.from (fun s X Y row hs hg hr => ⟨hs.1, hs.2.1, boxed_own _ _ (fun _ => _) s X Y row hs.2.2 hg hr⟩) _) (ownFrom_below (Nat.le_refl _) hB0.size))
    ⟨⟨by simp, ((c0.alloc _).alloc _).alloc _, (c1.alloc _).alloc _⟩, hB0⟩
    (fun x => { tmps := #[.slice A l.length c, .int .i64 u, .int .i64 d, undef, undef, .pointer (some ⟨w.heap.size, 0, none⟩), .pointer (some ⟨w.heap.size + 1, 0, none⟩), .int .i64 (x : Int), .slice A l.length c, .int .i64 u,
      .func (.func 80) #[] #[.pointer (some ⟨w.heap.size + 1 + 1 + 1, 0, none⟩), .pointer (some ⟨w.heap.size + 1 + 1, 0, none⟩)], .int .i64 (x : Int), undef, undef, undef], defers := [] }) ?assign ?body ?done ?stop
  case assign =>
    intro l x W K hK
    gi_wp2
    exact hK
  case body =>
    rintro lp pre x W ⟨⟨hp, hcw, hcr⟩, hB⟩ _
    have h1 := hcw.cell
    have h2 := hcr.cell
    have h3 := hcr.frozen
    have HB : Hid (Below w.heap.size w W) := hB
    have HC : Hid (Boxed W (w.heap.size + 1) 4 (.bool false)) := hcr
    have HW : Hid (Boxed W w.heap.size 3 (.int .i64 (d : Int))) := hcw
    clear hB hcr hcw c0 c1 c2 c3 hB0
    by_cases hx : x = d
    · subst hx
      gi_wp2
      exact ⟨KeepsOthers.setCell _ _ _, ⟨rfl, List.mem_append.2 (.inr (by simp)), HC.out.set _⟩, HB.out.setCell (p := ⟨w.heap.size + 1, 0, none⟩) (by simp) _⟩
    · have hx' : ((x : Int) == (d : Int)) = false := by simp; omega
      gi_wp2
      exact ⟨KeepsOthers.refl _, Below.refl _ _, ⟨fun y hy => (List.mem_append.1 hy).elim (hp y) (fun e => by simp at e; subst e; exact hx), HW, HC⟩, HB⟩
  case done =>
    rintro D ys W hD rfl ⟨⟨hne, _, hcr⟩, hB⟩ hK
    have h2 := hcr.cell
    have h3 := hcr.frozen
    gi_wp2
    have hK' := (KeepsOthers.setCell W ⟨w.heap.size + 1, 0, none⟩ (.bool false)).same D _ hK rfl
    refine ⟨by simp, .inl ⟨_, _, rfl, run_takeDeferred hK', ?_⟩⟩
    have hc5 := cell_kept (hcr.set (.bool false)).cell (grownBy_putObj' _ D (.deferred none)) (fun r e => by cases e; exact ⟨_, hK', rfl⟩)
    refine ⟨.bool false, ?_, by rw [show belN l u d = false from decide_eq_false (fun h => hne d h rfl)], (hB.setCell (p := ⟨w.heap.size + 1, 0, none⟩) (by simp) _).trans (belowK_b (w := w) (Nat.le_refl _) _ D _ _ (by simp at hD; omega) hK' rfl rfl)⟩
    simp [results, Try.f41, go_sem, hc5]
  case stop =>
    rintro D c pre W hD hpre ⟨⟨rfl, hin, hcr⟩, hB⟩ hK
    gi_wp2
    refine ⟨by simp, .inl ⟨_, _, rfl, run_takeDeferred hK, ?_⟩⟩
    have hc5 := cell_kept hcr.cell (grownBy_putObj' _ D (.deferred none)) (fun r e => by cases e; exact ⟨_, hK, rfl⟩)
    refine ⟨.bool true, ?_, by rw [bel_iff.2 (hpre.subset hin)], hB.trans (belowK_b (w := w) (Nat.le_refl _) W D _ _ (by simp at hD; omega) hK rfl rfl)⟩
    simp [results, Try.f41, go_sem, hc5]

end Go.Proofs.Ytgiiapenmjollaa
