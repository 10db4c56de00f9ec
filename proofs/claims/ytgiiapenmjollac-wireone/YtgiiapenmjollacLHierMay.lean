/-
  Package hier, which classes may be: each function by a contract.
-/
import Derived.Test.YtgiiapenmjollacChecked
import Derived.Test.YtgiiapenmjollacLData
import Derived.Test.YtgiiapenmjollacLSpan
import Derived.Handy
namespace Go.Proofs.Ytgiiapenmjollac
open Go.RowKit

theorem maySuper_any (c s : Int) (w : World) :
    Calls Try.prog 22 #[.int .i64 c, .int .i64 s] w fun e w' => e = .returned (.bool (decide ((c = 0 ∧ s = -1) ∨ (c ≠ 0 ∧ 0 ≤ s ∧ s < c)))) ∧ w' = w := by
  by_cases h0 : c = 0
  · subst h0
    go_enter Try.func22, Try.ntmps22
    go_wp2
    all_goals
      go_ret
      refine ⟨ret_bool ?_, rfl⟩
      rw [Bool.eq_iff_iff]; simp
  · go_enter Try.func22, Try.ntmps22
    go_wp2_with (go_at_call 39; refine (numbers_any _ _ _).mono ?_; rintro e w' ⟨rfl, rfl⟩)
    all_goals
      go_ret
      refine ⟨ret_bool ?_, rfl⟩
      rw [Bool.eq_iff_iff]; simp; omega

theorem mayType_any (n : Nat) (k x : Int) (w : World) :
    Calls Try.prog 40 #[.agg #[.int .i64 k, .int .i64 x], .int .i64 n] w fun e w' => e = .returned (.bool (tyB n ⟨k, x⟩)) ∧ Bl w w' := by
  have hk : k = 1 ∨ k = 2 ∨ k = 3 ∨ (k ≠ 1 ∧ k ≠ 2 ∧ k ≠ 3) := by omega
  rcases hk with rfl | rfl | rfl | ⟨h1, h2, h3⟩
  all_goals
    go_enter Try.func40, Try.ntmps40
    go_wp2_with (go_at_call 39; refine (numbers_any _ _ _).mono ?_; rintro e w' ⟨rfl, rfl⟩)
    go_ret
    refine ⟨ret_bool ?_, (Bl.refl _).alloc _⟩
    unfold tyB
    rw [Bool.eq_iff_iff]; simp; try omega

def fldB (n : Nat) (f : List Ty) : Bool := decide (f.length ≤ 6) && f.all (tyB n)
theorem fld_long {n : Nat} {f : List Ty} (h : ¬ f.length ≤ 6) : fldB n f = false := by unfold fldB; rw [decide_eq_false h]; rfl
theorem all_ty_bad {n q : Nat} {f : List Ty} (hq : q < f.length) (h : tyB n (nth ty0 f q) = false) : f.all (tyB n) = false := by
  rw [List.all_eq_false]; exact ⟨nth ty0 f q, nth_mem hq, by rw [h]; decide⟩
theorem all_ty_good {n : Nat} {f : List Ty} (ht : ∀ k, k < f.length → tyB n (nth ty0 f k) = true) : f.all (tyB n) = true := by
  rw [List.all_eq_true]
  intro x hx
  obtain ⟨k, hk, rfl⟩ := List.getElem_of_mem hx
  rw [← nth_get hk]; exact ht k hk

set_option maxHeartbeats 2000000 in
theorem mayTypes_any (A : Option Addr) (n c : Nat) (F : List Ty) (w : World) (hl : TysAt w A F) :
    Calls Try.prog 24 #[.int .i64 n, .slice A F.length c] w fun e w' => e = .returned (.bool (F.all (tyB n))) ∧ Bl w w' := by
  obtain ⟨hm, hl⟩ := hl
  unfold maxLen at hm
  have HG : Hid ((∀ k, k < F.length → tyB n (nth ty0 F k) = true) → F.all (tyB n) = true) := all_ty_good
  have HT : Hid (∀ q, q < F.length → tyB n (nth ty0 F q) = false → F.all (tyB n) = false) := fun q => all_ty_bad
  obtain ⟨R, hR⟩ : ∃ R, F.all (tyB n) = R := ⟨_, rfl⟩
  rw [hR] at HG HT ⊢
  clear hR
  go_enter Try.func24, Try.ntmps24
  go_wp2
  go_loopw [9] (fun i wr => ∃ q : Nat, q ≤ F.length ∧ i = .int .i64 q ∧ Hid (∀ j, j < q → tyB n (nth ty0 F j) = true) ∧ Hid (Bl w wr)) (fun i _ => F.length - (intOf i).toNat)
  case atStart => exact ⟨0, Nat.zero_le _, rfl, fun j hj => absurd hj (Nat.not_lt_zero _), Bl.refl _⟩
  case round =>
    obtain ⟨q, hq, rfl, hgq, hg⟩ := hrel
    by_cases hql : q < F.length
    · rcases hl with h0 | ⟨b, off, rfl, hcell⟩
      · omega
      obtain ⟨ht1, ht2, -, -⟩ := hcell q hql
      replace ht1 := hg.out.cell ht1
      replace ht2 := hg.out.cell ht2
      clear hcell HG
      cases hT : tyB n (nth ty0 F q)
      · have hT' : tyB n ⟨(nth ty0 F q).kind, (nth ty0 F q).cls⟩ = false := hT
        have HF := HT.out q hql hT
        clear HT hT
        go_wp2_with (go_at_call 40; refine (mayType_any _ _ _ _).mono ?_; rintro e w1 ⟨rfl, hg1⟩)
        go_ret
        exact ⟨ret_bool HF.symm, (hg.out.alloc _).trans hg1⟩
      · have hT' : tyB n ⟨(nth ty0 F q).kind, (nth ty0 F q).cls⟩ = true := hT
        have HT1 : Hid (tyB n (nth ty0 F q) = true) := hT
        clear hT HT
        go_wp2_with (go_at_call 40; refine (mayType_any _ _ _ _).mono ?_; rintro e w1 ⟨rfl, hg1⟩)
        go_roundw
        case rel => exact ⟨q + 1, by omega, by go_num, fun j hj => if h : j < q then hgq.out j h else by have : j = q := by omega
                                                                                                         subst this; exact HT1.out, (hg.out.alloc _).trans hg1⟩
        case measure => simp [intOf]; omega
    · have hkk : q = F.length := by omega
      subst hkk
      have HF := HG.out hgq.out
      clear HG hl
      go_wp2
      go_ret
      exact ⟨ret_bool HF.symm, hg.out⟩

theorem mayFields_any (A : Option Addr) (n c : Nat) (F : List Ty) (w : World) (hl : TysAt w A F) :
    Calls Try.prog 23 #[.slice A F.length c, .int .i64 n] w fun e w' => e = .returned (.bool (fldB n F)) ∧ Bl w w' := by
  have hm := hl.1
  unfold maxLen at hm
  by_cases h6 : F.length ≤ 6
  · have hb : fldB n F = F.all (tyB n) := by unfold fldB; rw [decide_eq_true h6]; rfl
    rw [hb]
    go_enter Try.func23, Try.ntmps23
    go_wp2_with (go_at_call 24; refine (mayTypes_any _ _ _ _ _ hl).mono ?_; rintro e w1 ⟨rfl, hg1⟩)
    go_ret
    exact ⟨rfl, hg1⟩
  · have hb := fld_long (n := n) h6
    rw [hb]
    clear hb hl
    go_enter Try.func23, Try.ntmps23
    go_wp2
    go_ret
    exact ⟨rfl, Bl.refl _⟩

/-- Is the class i as it may be, class 0 too? -/
def supB (l : List Cl) (i : Nat) : Bool := decide (((i : Int) = 0 ∧ (nth cl0 l i).super = -1) ∨ ((i : Int) ≠ 0 ∧ 0 ≤ (nth cl0 l i).super ∧ (nth cl0 l i).super < i))
theorem may_sup {l : List Cl} {i : Nat} (hi : i < l.length) (h : supB l i = false) : mayB l = false := by
  unfold supB at h
  rw [decide_eq_false_iff_not] at h
  by_cases h0 : i = 0
  · subst h0; exact may_few (by omega)
  · exact may_cl hi (cl_bad (by omega))
theorem may_fld {l : List Cl} {i : Nat} (hi : i < l.length) (h : fldB l.length (nth cl0 l i).fields = false) : mayB l = false := by
  refine may_cl hi ?_
  by_cases h6 : (nth cl0 l i).fields.length ≤ 6
  · unfold fldB at h
    rw [decide_eq_true h6, Bool.true_and] at h
    unfold clB; rw [h, Bool.and_false]
  · exact cl_bad (by omega)
theorem may_both {l : List Cl} (h4 : 4 ≤ l.length) (h12 : l.length ≤ 12) (h : ∀ i, i < l.length → supB l i = true ∧ fldB l.length (nth cl0 l i).fields = true) : mayB l = true := by
  have h0 := (h 0 (by omega)).1
  unfold supB at h0
  rw [decide_eq_true_eq] at h0
  refine may_good ⟨h4, h12, by omega⟩ fun i hi => ?_
  obtain ⟨h1, h2⟩ := h i hi
  unfold supB at h1; unfold fldB at h2
  rw [decide_eq_true_eq] at h1
  rw [Bool.and_eq_true, decide_eq_true_eq] at h2
  unfold clB
  rw [h2.2, Bool.and_true, decide_eq_true_eq]
  exact ⟨by omega, h2.1⟩

set_option maxHeartbeats 4000000 in
theorem may_any (A : Option Addr) (c : Nat) (l : List Cl) (w : World) (hl : ClsAt w A l) :
    Calls Try.prog 12 #[.slice A l.length c] w fun e w' => e = .returned (.bool (mayB l)) ∧ Bl w w' := by
  obtain ⟨hm, hl⟩ := hl
  unfold maxLen at hm
  by_cases h4 : ¬ (4 ≤ (l.length : Int) ∧ (l.length : Int) ≤ 12)
  · have hb : mayB l = false := may_few (by omega)
    rw [hb]
    clear hb hl
    have hd : decide (4 ≤ (l.length : Int) ∧ (l.length : Int) ≤ 12) = false := decide_eq_false h4
    go_enter Try.func12, Try.ntmps12
    go_wp2_with (go_at_call 13; refine (span_any _ _ _ _).mono ?_; rintro e w1 ⟨he, rfl⟩; rw [hd] at he; subst he)
    go_ret
    exact ⟨rfl, Bl.refl _⟩
  replace h4 := Decidable.of_not_not h4
  have hd : decide (4 ≤ (l.length : Int) ∧ (l.length : Int) ≤ 12) = true := decide_eq_true h4
  rcases hl with hl | ⟨b, off, rfl, hc⟩
  · omega
  have HB : Hid ((∀ i, i < l.length → supB l i = true ∧ fldB l.length (nth cl0 l i).fields = true) → mayB l = true) := may_both (by omega) (by omega)
  go_enter Try.func12, Try.ntmps12
  go_wp2_with (go_at_call 13; refine (span_any _ _ _ _).mono ?_; rintro e w1 ⟨he, hw1⟩; rw [hd] at he; subst he; rw [hw1]; clear hw1 w1)
  go_loopw [11] (fun i wr => ∃ k : Nat, k ≤ l.length ∧ i = .int .i64 k ∧ Hid (∀ j, j < k → supB l j = true ∧ fldB l.length (nth cl0 l j).fields = true) ∧ Hid (Bl w wr)) (fun i _ => l.length - (intOf i).toNat)
  case atStart => exact ⟨0, Nat.zero_le _, rfl, fun j hj => absurd hj (Nat.not_lt_zero _), Bl.refl _⟩
  case round =>
    obtain ⟨k, hk, rfl, hgood, hg⟩ := hrel
    by_cases hlt : k < l.length
    · obtain ⟨hsup, hsb, A', c', hfl, hty⟩ := hc k hlt
      replace hsup := hg.out.cell hsup
      replace hfl := hg.out.cell hfl
      have HTY : Hid (TysAt wr A' (nth cl0 l k).fields) := hty.bl hg.out
      have HS : Hid (supB l k = false → mayB l = false) := may_sup hlt
      have HF : Hid (fldB l.length (nth cl0 l k).fields = false → mayB l = false) := may_fld hlt
      clear hc HB hty
      cases hS : supB l k
      · have HBAD := HS.out hS
        have hS' : decide (((k : Int) = 0 ∧ (nth cl0 l k).super = -1) ∨ ((k : Int) ≠ 0 ∧ 0 ≤ (nth cl0 l k).super ∧ (nth cl0 l k).super < k)) = false := hS
        clear hS
        go_wp2_with (go_at_call 22; refine (maySuper_any _ _ _).mono ?_; rintro e w1 ⟨he, rfl⟩; rw [hS'] at he; subst he)
        go_ret
        exact ⟨ret_bool HBAD.symm, hg.out.alloc _⟩
      · have HST : Hid (supB l k = true) := hS
        have hS' : decide (((k : Int) = 0 ∧ (nth cl0 l k).super = -1) ∨ ((k : Int) ≠ 0 ∧ 0 ≤ (nth cl0 l k).super ∧ (nth cl0 l k).super < k)) = true := hS
        clear hS
        cases hF : fldB l.length (nth cl0 l k).fields
        · have HBAD := HF.out hF
          go_wp2_with (first
            | (go_at_call 22; refine (maySuper_any _ _ _).mono ?_; rintro e w1 ⟨he, rfl⟩; rw [hS'] at he; subst he)
            | (go_at_call 23; refine (mayFields_any _ _ _ _ _ (HTY.out.bl ((Bl.refl _).alloc _))).mono ?_; rintro e w1 ⟨he, hg1⟩; rw [hF] at he; subst he))
          go_ret
          exact ⟨ret_bool HBAD.symm, (hg.out.alloc _).trans hg1⟩
        · have HFT : Hid (fldB l.length (nth cl0 l k).fields = true) := hF
          go_wp2_with (first
            | (go_at_call 22; refine (maySuper_any _ _ _).mono ?_; rintro e w1 ⟨he, rfl⟩; rw [hS'] at he; subst he)
            | (go_at_call 23; refine (mayFields_any _ _ _ _ _ (HTY.out.bl ((Bl.refl _).alloc _))).mono ?_; rintro e w1 ⟨he, hg1⟩; rw [hF] at he; subst he))
          go_roundw
          case rel => exact ⟨k + 1, by omega, by go_num, fun j hj => if h : j < k then hgood.out j h else by have : j = k := by omega
                                                                                                             subst this; exact ⟨HST.out, HFT.out⟩, (hg.out.alloc _).trans hg1⟩
          case measure => simp [intOf]; omega
    · have hkk : k = l.length := by omega
      subst hkk
      have HBB := HB.out hgood.out
      clear HB hc
      go_wp2
      go_ret
      exact ⟨ret_bool HBB.symm, hg.out⟩

end Go.Proofs.Ytgiiapenmjollac
