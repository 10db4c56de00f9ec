/-
  Package hier: Join, of any classes and any numbers.
-/
import Derived.Test.YtgiiapenmjollaaHierJoinB
namespace Go.Proofs.Ytgiiapenmjollaa
open Go.RowKit Go.Shelf

set_option maxHeartbeats 2000000 in
theorem hjoin_any (A : Option Addr) (c : Nat) (l : List Cl) (x y : Int) (w : World) (hl : ClsAt w A l) :
    Calls Try.prog 23 #[.slice A l.length c, .int .i64 x, .int .i64 y] w fun e w' => e = .returned (.int .i64 (joinV l x y)) ∧ Bl w w' := by
  have HL : Hid (ClsAt w A l) := hl
  clear hl
  unfold joinV
  cases hm : (mayB l && clsI l x y)
  · go_enter Try.func23, Try.ntmps23
    go_wp2_with (go_at_call 40; refine (areClasses_any _ _ _ _ _ _ HL.out).mono ?_; rintro e w1 ⟨he, hg⟩; rw [hm] at he; subst he)
    go_ret
    exact ⟨rfl, hg⟩
  · have hmm := Bool.and_eq_true_iff.1 hm
    have HT : Hid (Tree l) := (may_tree hmm.1).1
    have hin : 0 ≤ x ∧ x < l.length ∧ 0 ≤ y ∧ y < l.length := of_decide_eq_true hmm.2
    clear hmm
    rw [if_pos rfl]
    obtain ⟨h1, h2, h3, h4⟩ := hin
    obtain ⟨u, rfl⟩ := Int.eq_ofNat_of_zero_le h1
    obtain ⟨d, rfl⟩ := Int.eq_ofNat_of_zero_le h3
    simp only [Int.toNat_natCast]
    have hu : u < l.length := by omega
    have hd : d < l.length := by omega
    clear h1 h2 h3 h4
    go_enter Try.func23, Try.ntmps23
    go_wp2_with (first
      | (go_at_call 40; refine (areClasses_any _ _ _ _ _ _ HL.out).mono ?_; rintro e w1 ⟨he, hg⟩; rw [hm] at he; subst he)
      | (go_at_call 42; refine (join_any _ _ _ _ _ HT.out hu hd _ (HL.out.bl hg)).mono ?_; rintro e w2 ⟨rfl, hg2⟩))
    go_ret
    exact ⟨rfl, hg.trans hg2⟩

end Go.Proofs.Ytgiiapenmjollaa
