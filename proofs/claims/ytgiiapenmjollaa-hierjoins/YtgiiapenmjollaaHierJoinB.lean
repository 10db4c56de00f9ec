/-
  Package hier: Join, of any classes and any numbers.
-/
import Derived.Test.YtgiiapenmjollaaHierJoin
namespace Go.Proofs.Ytgiiapenmjollaa
open Go.RowKit Go.Shelf

attribute [local go_sem] Oper.semAt_some

set_option maxRecDepth 100000 in
set_option maxHeartbeats 4000000 in
theorem join_any (A : Option Addr) (c : Nat) (l : List Cl) (u d : Nat) (ht : Tree l) (hu : u < l.length) (hd : d < l.length) (w : World) (hl : ClsAt w A l) :
    Calls Try.prog 42 #[.slice A l.length c, .int .i64 (u : Int), .int .i64 (d : Int)] w fun e w' => e = .returned (.int .i64 ((joinN l u d : Nat) : Int)) ∧ Bl w w' := by
  have HL : Hid (ClsAt w A l) := hl
  clear hl
  have b0 := Boxed.new w 29 (.slice A l.length c)
  have b1 := Boxed.new (w.alloc (.cells #[.slice A l.length c] 29)) 3 (.int .i64 (d : Int))
  have b2 := Boxed.new ((w.alloc (.cells #[.slice A l.length c] 29)).alloc (.cells #[.int .i64 (d : Int)] 3)) 3 (.int .i64 0)
  simp only [World.size_alloc] at b1 b2
  have HB0 : Hid (Boxed (((w.alloc (.cells #[.slice A l.length c] 29)).alloc (.cells #[.int .i64 (d : Int)] 3)).alloc (.cells #[.int .i64 0] 3)) w.heap.size 29 (.slice A l.length c)) := (b0.alloc _).alloc _
  have HB1 : Hid (Boxed (((w.alloc (.cells #[.slice A l.length c] 29)).alloc (.cells #[.int .i64 (d : Int)] 3)).alloc (.cells #[.int .i64 0] 3)) (w.heap.size + 1) 3 (.int .i64 (d : Int))) := b1.alloc _
  have HB2 : Hid (Boxed (((w.alloc (.cells #[.slice A l.length c] 29)).alloc (.cells #[.int .i64 (d : Int)] 3)).alloc (.cells #[.int .i64 0] 3)) (w.heap.size + 1 + 1) 3 (.int .i64 0)) := b2
  clear b0 b1 b2
  have HW : Hid (Bl w (((w.alloc (.cells #[.slice A l.length c] 29)).alloc (.cells #[.int .i64 (d : Int)] 3)).alloc (.cells #[.int .i64 0] 3))) := (((Bl.refl w).alloc _).alloc _).alloc _
  refine (callsIn_wide (n := 3)).1 ?_
  refine callsIn_of_wp_marks Try.func42 rfl trivial ?_ rfl
  simp only [Try.ntmps42, List.size_toArray, List.length_cons, List.length_nil, Nat.reduceAdd, Nat.reduceSub, Array.replicate_succ, Array.replicate_zero, List.push_toArray, List.append_toArray, List.nil_append, List.cons_append]
  have HT : Hid (Tree l) := ht
  clear ht
  gi_wp2_with (refine ⟨trivial, ?_⟩; gi_at_call 60; refine (callsIn_wide.2 (upward_any _ _ _ _ _)).mono ?_; rintro e w' ⟨rfl, rfl⟩)
  have s3 : (((w.alloc (.cells #[.slice A l.length c] 29)).alloc (.cells #[.int .i64 (d : Int)] 3)).alloc (.cells #[.int .i64 0] 3)).heap.size = w.heap.size + 1 + 1 + 1 := by simp
  have b0 := (HB0.out.alloc (.cells #[.slice A l.length c] 29)).alloc (.cells #[.int .i64 (u : Int)] 3)
  have b1 := (HB1.out.alloc (.cells #[.slice A l.length c] 29)).alloc (.cells #[.int .i64 (u : Int)] 3)
  have b2 := (HB2.out.alloc (.cells #[.slice A l.length c] 29)).alloc (.cells #[.int .i64 (u : Int)] 3)
  have b3 := (Boxed.new (((w.alloc (.cells #[.slice A l.length c] 29)).alloc (.cells #[.int .i64 (d : Int)] 3)).alloc (.cells #[.int .i64 0] 3)) 29 (.slice A l.length c)).alloc (.cells #[.int .i64 (u : Int)] 3)
  have b4 := Boxed.new ((((w.alloc (.cells #[.slice A l.length c] 29)).alloc (.cells #[.int .i64 (d : Int)] 3)).alloc (.cells #[.int .i64 0] 3)).alloc (.cells #[.slice A l.length c] 29)) 3 (.int .i64 (u : Int))
  rw [World.size_alloc, s3] at b4
  rw [s3] at b3
  have hWW : Bl w (((((w.alloc (.cells #[.slice A l.length c] 29)).alloc (.cells #[.int .i64 (d : Int)] 3)).alloc (.cells #[.int .i64 0] 3)).alloc (.cells #[.slice A l.length c] 29)).alloc (.cells #[.int .i64 (u : Int)] 3)) := (HW.out.alloc _).alloc _
  have hsz0 : w.heap.size + 1 + 1 + 1 ≤ (((((w.alloc (.cells #[.slice A l.length c] 29)).alloc (.cells #[.int .i64 (d : Int)] 3)).alloc (.cells #[.int .i64 0] 3)).alloc (.cells #[.slice A l.length c] 29)).alloc (.cells #[.int .i64 (u : Int)] 3)).heap.size := by simp
  obtain ⟨W0, hW0⟩ : ∃ W0, ((((w.alloc (.cells #[.slice A l.length c] 29)).alloc (.cells #[.int .i64 (d : Int)] 3)).alloc (.cells #[.int .i64 0] 3)).alloc (.cells #[.slice A l.length c] 29)).alloc (.cells #[.int .i64 (u : Int)] 3) = W0 := ⟨_, rfl⟩
  rw [hW0] at b0 b1 b2 b3 b4 hWW hsz0 ⊢
  clear hW0 HB0 HB1 HB2 HW s3
  refine wpIn_rangeFunc_ownF (F := Fence.wide) rfl (by omega) (gf := 80) (lb := #[.pointer (some ⟨w.heap.size + 1 + 1 + 1 + 1, 0, none⟩), .pointer (some ⟨w.heap.size + 1 + 1 + 1, 0, none⟩)]) rfl trivial (enters_of Try.func80 (by kernel_rfl) rfl)
    (up_stops _ (by omega) (w.heap.size + 1 + 1 + 1 + 1) (w.heap.size + 1 + 1 + 1) A c l u HT.out hu W0 (HL.out.bl hWW) b4.cell b3.cell) belowK_t (belowK_b (Nat.le_refl _)) (Below.refl _ _) (fun _ => rfl)
    (fun pre W => ((∀ y ∈ pre, y ∉ ups l d) ∧ Boxed W w.heap.size 29 (.slice A l.length c) ∧ Boxed W (w.heap.size + 1) 3 (.int .i64 (d : Int)) ∧ Boxed W (w.heap.size + 1 + 1) 3 (.int .i64 0)) ∧ (W0.heap.size ≤ W.heap.size) ∧ Below w.heap.size w W)
    (fun c pre W => (c = .ret ∧ ∃ pre' j, pre = pre' ++ [j] ∧ (∀ y ∈ pre', y ∉ ups l d) ∧ j ∈ ups l d ∧ Boxed W (w.heap.size + 1 + 1) 3 (.int .i64 (j : Nat))) ∧ Below w.heap.size w W)
    (OwnFrom.and (Own.from (fun s X Y row hs hg hr => ⟨hs.1, boxed_own _ _ (fun _ => _) s X Y row hs.2.1 hg hr, boxed_own _ _ (fun _ => _) s X Y row hs.2.2.1 hg hr, boxed_own _ _ (fun _ => _) s X Y row hs.2.2.2 hg hr⟩) _)
      (OwnFrom.and (fun _ _ _ _ hs hg _ => Nat.le_trans hs hg.size) (ownFrom_below (Nat.le_refl _) hWW.size)))
    (fun c => OwnFrom.and (Own.from (fun s X Y row hs hg hr => by
      obtain ⟨h1, p, j, h2, h3, h4, h5⟩ := hs
      exact ⟨h1, p, j, h2, h3, h4, boxed_own _ _ (fun _ => _) s X Y row h5 hg hr⟩) _) (ownFrom_below (Nat.le_refl _) hWW.size))
    ⟨⟨by simp, b0, b1, b2⟩, Nat.le_refl _, hWW⟩
    (fun x => { tmps := #[.slice A l.length c, .int .i64 u, .int .i64 d, .pointer (some ⟨w.heap.size, 0, none⟩), undef, .pointer (some ⟨w.heap.size + 1, 0, none⟩), .pointer (some ⟨w.heap.size + 1 + 1, 0, none⟩), .int .i64 (x : Int), .slice A l.length c, .int .i64 u, .func (.func 80) #[] #[.pointer (some ⟨w.heap.size + 1 + 1 + 1 + 1, 0, none⟩), .pointer (some ⟨w.heap.size + 1 + 1 + 1, 0, none⟩)], .int .i64 (x : Int), undef, undef, undef, undef, undef], defers := [] }) ?assign ?body ?done ?stop
  case assign =>
    intro l x W K hK
    gi_wp2
    exact hK
  case body =>
    rintro lp pre x W ⟨⟨hp, k0, k1, k2⟩, hS, hB⟩ _
    have h0 := k0.cell
    have h1 := k1.cell
    have h2 := k2.cell
    have h3 := k2.frozen
    have HB : Hid (Below w.heap.size w W) := hB
    have HK : Hid (Boxed W w.heap.size 29 (.slice A l.length c) ∧ Boxed W (w.heap.size + 1) 3 (.int .i64 (d : Int)) ∧ Boxed W (w.heap.size + 1 + 1) 3 (.int .i64 0)) := ⟨k0, k1, k2⟩
    have HLW : Hid (ClsAt W A l) := HL.out.bl hB
    have HS : Hid (W0.heap.size ≤ W.heap.size) := hS
    have HP : Hid (∀ y ∈ pre, y ∉ ups l d) := hp
    clear hB k0 k1 k2 b0 b1 b2 b3 b4 hWW hS hp
    cases hb : belN l d x
    · have HX : Hid (x ∉ ups l d) := by intro h; rw [bel_iff.2 h] at hb; exact absurd hb (by decide)
      gi_wp2_with (refine ⟨trivial, ?_⟩; gi_at_call 41; refine (CallsIn.inRound lp (callsIn_wide.2 (below_any _ _ _ _ _ HT.out hd _ HLW.out))).mono ?_; rintro e W2 ⟨he, hg2⟩; rw [hb] at he; subst he)
      refine ⟨hg2.keeps, Below.mono hg2 HS.out, ⟨fun y hy => (List.mem_append.1 hy).elim (HP.out y) (fun e => by simp at e; subst e; exact HX.out), hg2.boxed HK.out.1, hg2.boxed HK.out.2.1, hg2.boxed HK.out.2.2⟩, Nat.le_trans HS.out hg2.size, Bl.trans HB.out hg2⟩
    · have HX : Hid (x ∈ ups l d) := bel_iff.1 hb
      gi_wp2_with (refine ⟨trivial, ?_⟩; gi_at_call 41; refine (CallsIn.inRound lp (callsIn_wide.2 (below_any _ _ _ _ _ HT.out hd _ HLW.out))).mono ?_; rintro e W2 ⟨he, hg2⟩; rw [hb] at he; subst he; have m0 := (hg2.boxed HK.out.2.2).cell; have m1 := (hg2.boxed HK.out.2.2).frozen)
      exact ⟨hg2.keeps.trans (KeepsOthers.setCell _ _ _), ⟨rfl, pre, x, rfl, HP.out, HX.out, (hg2.boxed HK.out.2.2).set _⟩, (Bl.trans HB.out hg2).setCell (p := ⟨w.heap.size + 1 + 1, 0, none⟩) (by simp; omega) _⟩
  case done =>
    rintro D ys W hD rfl ⟨⟨hne, _, _, _⟩, _, _⟩ hK
    exact absurd (ups_root HT.out d hd) (hne 0 (ups_root HT.out u hu))
  case stop =>
    rintro D c pre W hD hpre ⟨⟨rfl, pre', j, rfl, hne, hj, hcr⟩, hB⟩ hK
    obtain ⟨post, hpost⟩ := hpre
    have HJ : Hid (joinN l u d = j) := join_is (join_cut HT.out hu (pre := pre') (post := post) (by rw [← hpost]; simp) hne hj)
    clear hpost
    gi_wp2
    refine ⟨by simp, .inl ⟨_, _, rfl, run_takeDeferred hK, ?_⟩⟩
    have hc5 := cell_kept hcr.cell (grownBy_putObj' _ D (.deferred none)) (fun r e => by cases e; exact ⟨_, hK, rfl⟩)
    refine ⟨.int .i64 (j : Nat), ?_, by rw [HJ.out], hB.trans (belowK_b (w := w) (Nat.le_refl _) W D _ _ (by omega) hK rfl rfl)⟩
    simp [results, Try.f42, go_sem, hc5]

end Go.Proofs.Ytgiiapenmjollaa
