/-
  Package hier: Below, of any classes and any numbers.
-/
import Derived.Test.YtgiiapenmjollaaHierBelow
namespace Go.Proofs.Ytgiiapenmjollaa
open Go.RowKit Go.Shelf

attribute [local go_sem] Oper.semAt_some

theorem Bl.boxed {W W' : World} (h : Bl W W') {B : Nat} {t : TypeId} {v : Value} (hb : Boxed W B t v) : Boxed W' B t v := (Below.block h B hb.lt).trans hb

theorem Bl.keeps {W W' : World} (h : Bl W W') : KeepsOthers W W' := ⟨h.size, fun i _ hi _ => (Below.block h i (Array.getElem?_eq_some_iff.1 hi).1).trans hi⟩

set_option maxHeartbeats 2000000 in
theorem areClasses_any (A : Option Addr) (c : Nat) (l : List Cl) (x y : Int) (w : World) (hl : ClsAt w A l) :
    Calls Try.prog 40 #[.slice A l.length c, .int .i64 x, .int .i64 y] w fun e w' => e = .returned (.bool (mayB l && clsI l x y)) ∧ Bl w w' := by
  have HL : Hid (ClsAt w A l) := hl
  clear hl
  have hc : clsI l x y = (decide (0 ≤ x ∧ x < l.length) && decide (0 ≤ y ∧ y < l.length)) := by
    unfold clsI; rw [Bool.eq_iff_iff]; simp; omega
  rw [hc]
  clear hc
  cases hm : mayB l
  · go_enter Try.func40, Try.ntmps40
    go_wp2_with (go_at_call 21; refine (may_any _ _ _ _ HL.out).mono ?_; rintro e w1 ⟨he, hg⟩; rw [hm] at he; subst he)
    go_ret
    exact ⟨rfl, hg⟩
  · cases hx : decide (0 ≤ x ∧ x < l.length)
    · go_enter Try.func40, Try.ntmps40
      go_wp2_with (first
        | (go_at_call 21; refine (may_any _ _ _ _ HL.out).mono ?_; rintro e w1 ⟨he, hg⟩; rw [hm] at he; subst he)
        | (go_at_call 58; refine (numbers_any _ _ _).mono ?_; rintro e w2 ⟨he, rfl⟩; rw [hx] at he; subst he))
      go_ret
      exact ⟨rfl, hg⟩
    · go_enter Try.func40, Try.ntmps40
      go_wp2_with (first
        | (go_at_call 21; refine (may_any _ _ _ _ HL.out).mono ?_; rintro e w1 ⟨he, hg⟩; rw [hm] at he; subst he)
        | (go_at_call 58; refine (numbers_any _ _ _).mono ?_; rintro e w2 ⟨he, rfl⟩; (try rw [hx] at he); subst he))
      go_ret
      exact ⟨ret_bool (by rw [Bool.eq_iff_iff]; simp), hg⟩

set_option maxHeartbeats 2000000 in
theorem hbelow_any (A : Option Addr) (c : Nat) (l : List Cl) (x y : Int) (w : World) (hl : ClsAt w A l) :
    Calls Try.prog 22 #[.slice A l.length c, .int .i64 x, .int .i64 y] w fun e w' => e = .returned (.bool (belV l x y)) ∧ Bl w w' := by
  have HL : Hid (ClsAt w A l) := hl
  clear hl
  unfold belV
  cases hm : (mayB l && clsI l x y)
  · rw [Bool.false_and]
    go_enter Try.func22, Try.ntmps22
    go_wp2_with (go_at_call 40; refine (areClasses_any _ _ _ _ _ _ HL.out).mono ?_; rintro e w1 ⟨he, hg⟩; rw [hm] at he; subst he)
    go_ret
    exact ⟨rfl, hg⟩
  · rw [Bool.true_and]
    have hmm := Bool.and_eq_true_iff.1 hm
    have HT : Hid (Tree l) := (may_tree hmm.1).1
    have hin : 0 ≤ x ∧ x < l.length ∧ 0 ≤ y ∧ y < l.length := of_decide_eq_true hmm.2
    clear hmm
    obtain ⟨h1, h2, h3, h4⟩ := hin
    obtain ⟨u, rfl⟩ := Int.eq_ofNat_of_zero_le h1
    obtain ⟨d, rfl⟩ := Int.eq_ofNat_of_zero_le h3
    simp only [Int.toNat_natCast]
    have hu : u < l.length := by omega
    clear h1 h2 h3 h4
    go_enter Try.func22, Try.ntmps22
    go_wp2_with (first
      | (go_at_call 40; refine (areClasses_any _ _ _ _ _ _ HL.out).mono ?_; rintro e w1 ⟨he, hg⟩; rw [hm] at he; subst he)
      | (go_at_call 41; refine (below_any _ _ _ _ _ HT.out hu _ (HL.out.bl hg)).mono ?_; rintro e w2 ⟨rfl, hg2⟩))
    go_ret
    exact ⟨rfl, hg.trans hg2⟩

end Go.Proofs.Ytgiiapenmjollaa
