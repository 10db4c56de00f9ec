/-
  Package hier: Below and Join, of any classes and any numbers.
-/
import Derived.Test.YtbkeccamcihhdaaHierBelow
namespace Go.Proofs.Ytbkeccamcihhdaa
open Go.RowKit Go.Shelf

attribute [local go_sem] Oper.semAt_some

theorem Bl.boxed {W W' : World} (h : Bl W W') {B : Nat} {t : TypeId} {v : Value} (hb : Boxed W B t v) : Boxed W' B t v := (Below.block h B hb.lt).trans hb

theorem Bl.keeps {W W' : World} (h : Bl W W') : KeepsOthers W W' := ⟨h.size, fun i _ hi _ => (Below.block h i (Array.getElem?_eq_some_iff.1 hi).1).trans hi⟩

set_option maxHeartbeats 2000000 in
theorem areClasses_any (A : Option Addr) (c : Nat) (l : List Cl) (x y : Int) (w : World) (hl : ClsAt w A l) :
    Calls Try.prog 40 #[.slice A l.length c, .int .i64 x, .int .i64 y] w fun e w' => e = .returned (.bool (mayB l && clsI l x y)) ∧ Bl w w' := by
  have HL : Hid (ClsAt w A l) := hl
  clear hl
  have hc : clsI l x y = (decide (0 ≤ x ∧ x < l.length) && decide (0 ≤ y ∧ y < l.length)) := by
    unfold clsI; rw [Bool.eq_iff_iff]; simp; omega
  rw [hc]
  clear hc
  cases hm : mayB l
  · go_enter Try.func40, Try.ntmps40
    go_wp2_with (go_at_call 21; refine (may_any _ _ _ _ HL.out).mono ?_; rintro e w1 ⟨he, hg⟩; rw [hm] at he; subst he)
    go_ret
    exact ⟨rfl, hg⟩
  · cases hx : decide (0 ≤ x ∧ x < l.length)
    · go_enter Try.func40, Try.ntmps40
      go_wp2_with (first
        | (go_at_call 21; refine (may_any _ _ _ _ HL.out).mono ?_; rintro e w1 ⟨he, hg⟩; rw [hm] at he; subst he)
        | (go_at_call 58; refine (numbers_any _ _ _).mono ?_; rintro e w2 ⟨he, rfl⟩; rw [hx] at he; subst he))
      go_ret
      exact ⟨rfl, hg⟩
    · go_enter Try.func40, Try.ntmps40
      go_wp2_with (first
        | (go_at_call 21; refine (may_any _ _ _ _ HL.out).mono ?_; rintro e w1 ⟨he, hg⟩; rw [hm] at he; subst he)
        | (go_at_call 58; refine (numbers_any _ _ _).mono ?_; rintro e w2 ⟨he, rfl⟩; (try rw [hx] at he); subst he))
      go_ret
      exact ⟨ret_bool (by rw [Bool.eq_iff_iff]; simp), hg⟩

set_option maxHeartbeats 2000000 in
theorem hbelow_any (A : Option Addr) (c : Nat) (l : List Cl) (x y : Int) (w : World) (hl : ClsAt w A l) :
    Calls Try.prog 22 #[.slice A l.length c, .int .i64 x, .int .i64 y] w fun e w' => e = .returned (.bool (belV l x y)) ∧ Bl w w' := by
  have HL : Hid (ClsAt w A l) := hl
  clear hl
  unfold belV
  cases hm : (mayB l && clsI l x y)
  · rw [Bool.false_and]
    go_enter Try.func22, Try.ntmps22
    go_wp2_with (go_at_call 40; refine (areClasses_any _ _ _ _ _ _ HL.out).mono ?_; rintro e w1 ⟨he, hg⟩; rw [hm] at he; subst he)
    go_ret
    exact ⟨rfl, hg⟩
  · rw [Bool.true_and]
    have hmm := Bool.and_eq_true_iff.1 hm
    have HT : Hid (Tree l) := (may_tree hmm.1).1
    have hin : 0 ≤ x ∧ x < l.length ∧ 0 ≤ y ∧ y < l.length := of_decide_eq_true hmm.2
    clear hmm
    obtain ⟨h1, h2, h3, h4⟩ := hin
    obtain ⟨u, rfl⟩ := Int.eq_ofNat_of_zero_le h1
    obtain ⟨d, rfl⟩ := Int.eq_ofNat_of_zero_le h3
    simp only [Int.toNat_natCast]
    have hu : u < l.length := by omega
    clear h1 h2 h3 h4
    go_enter Try.func22, Try.ntmps22
    go_wp2_with (first
      | (go_at_call 40; refine (areClasses_any _ _ _ _ _ _ HL.out).mono ?_; rintro e w1 ⟨he, hg⟩; rw [hm] at he; subst he)
      | (go_at_call 41; refine (below_any _ _ _ _ _ HT.out hu _ (HL.out.bl hg)).mono ?_; rintro e w2 ⟨rfl, hg2⟩))
    go_ret
    exact ⟨rfl, hg.trans hg2⟩

set_option maxRecDepth 100000 in
set_option maxHeartbeats 4000000 in
theorem hjoin_any (A : Option Addr) (c : Nat) (l : List Cl) (x y : Int) (w : World) (hl : ClsAt w A l) :
    Calls Try.prog 23 #[.slice A l.length c, .int .i64 x, .int .i64 y] w fun e w' => e = .returned (.int .i64 (joinV l x y)) ∧ Bl w w' := by
  have HL : Hid (ClsAt w A l) := hl
  clear hl
  unfold joinV
  have b0 := Boxed.new w 29 (.slice A l.length c)
  have b1 := Boxed.new (w.alloc (.cells #[.slice A l.length c] 29)) 3 (.int .i64 y)
  have b2 := Boxed.new ((w.alloc (.cells #[.slice A l.length c] 29)).alloc (.cells #[.int .i64 y] 3)) 3 (.int .i64 0)
  simp only [World.size_alloc] at b1 b2
  have HB0 : Hid (Boxed (((w.alloc (.cells #[.slice A l.length c] 29)).alloc (.cells #[.int .i64 y] 3)).alloc (.cells #[.int .i64 0] 3)) w.heap.size 29 (.slice A l.length c)) := (b0.alloc _).alloc _
  have HB1 : Hid (Boxed (((w.alloc (.cells #[.slice A l.length c] 29)).alloc (.cells #[.int .i64 y] 3)).alloc (.cells #[.int .i64 0] 3)) (w.heap.size + 1) 3 (.int .i64 y)) := b1.alloc _
  have HB2 : Hid (Boxed (((w.alloc (.cells #[.slice A l.length c] 29)).alloc (.cells #[.int .i64 y] 3)).alloc (.cells #[.int .i64 0] 3)) (w.heap.size + 1 + 1) 3 (.int .i64 0)) := b2
  clear b0 b1 b2
  have HW : Hid (Bl w (((w.alloc (.cells #[.slice A l.length c] 29)).alloc (.cells #[.int .i64 y] 3)).alloc (.cells #[.int .i64 0] 3))) := (((Bl.refl w).alloc _).alloc _).alloc _
  refine (callsIn_wide (n := 3)).1 ?_
  refine callsIn_of_wp_marks Try.func23 rfl trivial ?_ rfl
  simp only [Try.ntmps23, List.size_toArray, List.length_cons, List.length_nil, Nat.reduceAdd, Nat.reduceSub, Array.replicate_succ, Array.replicate_zero, List.push_toArray, List.append_toArray, List.nil_append, List.cons_append]
  cases hm : (mayB l && clsI l x y)
  · gi_wp2_with (refine ⟨trivial, ?_⟩; gi_at_call 40; refine (callsIn_wide.2 (areClasses_any _ _ _ _ _ _ (HL.out.bl HW.out))).mono ?_; rintro e w1 ⟨he, hg⟩; rw [hm] at he; subst he; have q0 := (hg.boxed HB2.out).cell; have q1 := (hg.boxed HB2.out).frozen)
    have hc5 := ((hg.boxed HB2.out).set (.int .i64 (-1))).cell
    exact ⟨_, by simp [results, Try.f23, go_sem, hc5], rfl, (HW.out.trans hg).setCell (p := ⟨w.heap.size + 1 + 1, 0, none⟩) (by simp; omega) _⟩
  · have hmm := Bool.and_eq_true_iff.1 hm
    have HT : Hid (Tree l) := (may_tree hmm.1).1
    have hin : 0 ≤ x ∧ x < l.length ∧ 0 ≤ y ∧ y < l.length := of_decide_eq_true hmm.2
    clear hmm
    rw [if_pos rfl]
    obtain ⟨h1, h2, h3, h4⟩ := hin
    obtain ⟨u, rfl⟩ := Int.eq_ofNat_of_zero_le h1
    obtain ⟨d, rfl⟩ := Int.eq_ofNat_of_zero_le h3
    simp only [Int.toNat_natCast]
    have hu : u < l.length := by omega
    have hd : d < l.length := by omega
    clear h1 h2 h3 h4
    gi_wp2_with (first
      | (refine ⟨trivial, ?_⟩; gi_at_call 40; refine (callsIn_wide.2 (areClasses_any _ _ _ _ _ _ (HL.out.bl HW.out))).mono ?_; rintro e w1 ⟨he, hg⟩; rw [hm] at he; subst he; have q0 := (hg.boxed HB0.out).cell; have q1 := (hg.boxed HB1.out).cell)
      | (refine ⟨trivial, ?_⟩; gi_at_call 42; refine (callsIn_wide.2 (upward_any _ _ _ _ _)).mono ?_; rintro e w' ⟨rfl, rfl⟩))
    have b0 := ((hg.boxed HB0.out).alloc (.cells #[.slice A l.length c] 29)).alloc (.cells #[.int .i64 (u : Int)] 3)
    have b1 := ((hg.boxed HB1.out).alloc (.cells #[.slice A l.length c] 29)).alloc (.cells #[.int .i64 (u : Int)] 3)
    have b2 := ((hg.boxed HB2.out).alloc (.cells #[.slice A l.length c] 29)).alloc (.cells #[.int .i64 (u : Int)] 3)
    have b3 := (Boxed.new w1 29 (.slice A l.length c)).alloc (.cells #[.int .i64 (u : Int)] 3)
    have b4 := Boxed.new (w1.alloc (.cells #[.slice A l.length c] 29)) 3 (.int .i64 (u : Int))
    rw [World.size_alloc] at b4
    have hWW : Bl w ((w1.alloc (.cells #[.slice A l.length c] 29)).alloc (.cells #[.int .i64 (u : Int)] 3)) := ((HW.out.trans hg).alloc _).alloc _
    have hsz : w.heap.size + 1 + 1 + 1 ≤ w1.heap.size := by have := hg.size; simpa using this
    obtain ⟨W0, hW0⟩ : ∃ W0, (w1.alloc (.cells #[.slice A l.length c] 29)).alloc (.cells #[.int .i64 (u : Int)] 3) = W0 := ⟨_, rfl⟩
    have hsz0 : w1.heap.size ≤ W0.heap.size := by rw [← hW0]; simp; omega
    rw [hW0] at b0 b1 b2 b3 b4 hWW ⊢
    clear hW0 q0 q1 HB0 HB1 HB2 HW
    refine wpIn_rangeFunc_ownF (F := Fence.wide) rfl (by omega) (gf := 60) (lb := #[.pointer (some ⟨w1.heap.size + 1, 0, none⟩), .pointer (some ⟨w1.heap.size, 0, none⟩)]) rfl trivial (enters_of Try.func60 (by kernel_rfl) rfl)
      (up_stops _ (by omega) (w1.heap.size + 1) w1.heap.size A c l u HT.out hu W0 (HL.out.bl hWW) b4.cell b3.cell) belowK_t (belowK_b (Nat.le_refl _)) (Below.refl _ _) (fun _ => rfl)
      (fun pre W => ((∀ y ∈ pre, y ∉ ups l d) ∧ Boxed W w.heap.size 29 (.slice A l.length c) ∧ Boxed W (w.heap.size + 1) 3 (.int .i64 (d : Int)) ∧ Boxed W (w.heap.size + 1 + 1) 3 (.int .i64 0)) ∧ (W0.heap.size ≤ W.heap.size) ∧ Below w.heap.size w W)
      (fun c pre W => (c = .ret ∧ ∃ pre' j, pre = pre' ++ [j] ∧ (∀ y ∈ pre', y ∉ ups l d) ∧ j ∈ ups l d ∧ Boxed W (w.heap.size + 1 + 1) 3 (.int .i64 (j : Nat))) ∧ Below w.heap.size w W)
      (OwnFrom.and (Own.from (fun s X Y row hs hg hr => ⟨hs.1, boxed_own _ _ (fun _ => _) s X Y row hs.2.1 hg hr, boxed_own _ _ (fun _ => _) s X Y row hs.2.2.1 hg hr, boxed_own _ _ (fun _ => _) s X Y row hs.2.2.2 hg hr⟩) _)
        (OwnFrom.and (fun _ _ _ _ hs hg _ => Nat.le_trans hs hg.size) (ownFrom_below (Nat.le_refl _) hWW.size)))
      (fun c => OwnFrom.and (Own.from (fun s X Y row hs hg hr => by
        obtain ⟨h1, p, j, h2, h3, h4, h5⟩ := hs
        exact ⟨h1, p, j, h2, h3, h4, boxed_own _ _ (fun _ => _) s X Y row h5 hg hr⟩) _) (ownFrom_below (Nat.le_refl _) hWW.size))
      ⟨⟨by simp, b0, b1, b2⟩, Nat.le_refl _, hWW⟩
      (fun x => { tmps := #[.slice A l.length c, .int .i64 u, .int .i64 d, .pointer (some ⟨w.heap.size, 0, none⟩), undef, .pointer (some ⟨w.heap.size + 1, 0, none⟩), .pointer (some ⟨w.heap.size + 1 + 1, 0, none⟩), .int .i64 (x : Int), .slice A l.length c, .int .i64 u, .int .i64 d, .bool true, .bool false,
        .slice A l.length c, .int .i64 u, .func (.func 60) #[] #[.pointer (some ⟨w1.heap.size + 1, 0, none⟩), .pointer (some ⟨w1.heap.size, 0, none⟩)], .int .i64 (x : Int), undef, undef, undef, undef, undef], defers := [] }) ?assign ?body ?done ?stop
    case assign =>
      intro l x W K hK
      gi_wp2
      exact hK
    case body =>
      rintro lp pre x W ⟨⟨hp, k0, k1, k2⟩, hS, hB⟩ _
      have h0 := k0.cell
      have h1 := k1.cell
      have h2 := k2.cell
      have h3 := k2.frozen
      have HB : Hid (Below w.heap.size w W) := hB
      have HK : Hid (Boxed W w.heap.size 29 (.slice A l.length c) ∧ Boxed W (w.heap.size + 1) 3 (.int .i64 (d : Int)) ∧ Boxed W (w.heap.size + 1 + 1) 3 (.int .i64 0)) := ⟨k0, k1, k2⟩
      have HLW : Hid (ClsAt W A l) := HL.out.bl hB
      have HS : Hid (W0.heap.size ≤ W.heap.size) := hS
      have HP : Hid (∀ y ∈ pre, y ∉ ups l d) := hp
      clear hB k0 k1 k2 b0 b1 b2 b3 b4 hWW hS hp
      cases hb : belN l d x
      · have HX : Hid (x ∉ ups l d) := by intro h; rw [bel_iff.2 h] at hb; exact absurd hb (by decide)
        gi_wp2_with (refine ⟨trivial, ?_⟩; gi_at_call 41; refine (CallsIn.inRound lp (callsIn_wide.2 (below_any _ _ _ _ _ HT.out hd _ HLW.out))).mono ?_; rintro e W2 ⟨he, hg2⟩; rw [hb] at he; subst he)
        refine ⟨hg2.keeps, Below.mono hg2 HS.out, ⟨fun y hy => (List.mem_append.1 hy).elim (HP.out y) (fun e => by simp at e; subst e; exact HX.out), hg2.boxed HK.out.1, hg2.boxed HK.out.2.1, hg2.boxed HK.out.2.2⟩, Nat.le_trans HS.out hg2.size, Bl.trans HB.out hg2⟩
      · have HX : Hid (x ∈ ups l d) := bel_iff.1 hb
        gi_wp2_with (refine ⟨trivial, ?_⟩; gi_at_call 41; refine (CallsIn.inRound lp (callsIn_wide.2 (below_any _ _ _ _ _ HT.out hd _ HLW.out))).mono ?_; rintro e W2 ⟨he, hg2⟩; rw [hb] at he; subst he; have m0 := (hg2.boxed HK.out.2.2).cell; have m1 := (hg2.boxed HK.out.2.2).frozen)
        exact ⟨hg2.keeps.trans (KeepsOthers.setCell _ _ _), ⟨rfl, pre, x, rfl, HP.out, HX.out, (hg2.boxed HK.out.2.2).set _⟩, (Bl.trans HB.out hg2).setCell (p := ⟨w.heap.size + 1 + 1, 0, none⟩) (by simp; omega) _⟩
    case done =>
      rintro D ys W hD rfl ⟨⟨hne, _, _, _⟩, _, _⟩ hK
      exact absurd (ups_root HT.out d hd) (hne 0 (ups_root HT.out u hu))
    case stop =>
      rintro D c pre W hD hpre ⟨⟨rfl, pre', j, rfl, hne, hj, hcr⟩, hB⟩ hK
      obtain ⟨post, hpost⟩ := hpre
      have HJ : Hid (joinN l u d = j) := join_is (join_cut HT.out hu (pre := pre') (post := post) (by rw [← hpost]; simp) hne hj)
      clear hpost
      gi_wp2
      refine ⟨by simp, .inl ⟨_, _, rfl, run_takeDeferred hK, ?_⟩⟩
      have hc5 := cell_kept hcr.cell (grownBy_putObj' _ D (.deferred none)) (fun r e => by cases e; exact ⟨_, hK, rfl⟩)
      refine ⟨.int .i64 (j : Nat), ?_, by rw [HJ.out], hB.trans (belowK_b (w := w) (Nat.le_refl _) W D _ _ (by omega) hK rfl rfl)⟩
      simp [results, Try.f23, go_sem, hc5]

end Go.Proofs.Ytbkeccamcihhdaa
