/-
  NumDivides answers true for every two longs (no condition): what is divided is what it comes to, times by what, and what is left over; an int that is narrowed again stays, and is within its bounds.
-/
import Derived.Test.YtgiiapenmjollaaRows
import Derived.Test.YtgiiapenmjollaaNumWalks
import Derived.WalkKit
import Derived.ProofKit
import Derived.OpenShut
namespace Go.Proofs.Ytgiiapenmjollaa
open Go.ChangeShapes Go.WideShapes Go.ChangeAt Go.RowKit
set_option linter.unusedVariables false

theorem nd_own : ownKnob Try.prog.godebug = none := by kernel_rfl

set_option maxHeartbeats 1000000 in
/- ### STEP 1: THE WALK: the Go text returns true. 'Grown w w'': the world has at most new blocks (Derived/RowKit3.lean). Part the cases AHEAD of 'go_enter' where a test parts the walk; take each callee by a contract of your own. -/
theorem nd_walk (a0 : Int) (a1 : Int) (w0 : (Lit.int .i64 a0).wf = true) (w1 : (Lit.int .i64 a1).wf = true) (w : World) :
    Calls Try.prog 4 #[.int .i64 a0, .int .i64 a1] w fun e w' => e = .returned (.bool true) ∧ Grown w w' := by
  have hb := w0
  simp only [Lit.wf, Bool.and_eq_true, decide_eq_true_eq] at hb
  have hlo : -9223372036854775808 ≤ a0 := hb.1
  have hhi : a0 ≤ 9223372036854775807 := hb.2
  clear hb w0 w1
  have hn := w32_bd a0
  have hnn := w32_w32 a0
  have hmm := w32_w32 (lngV 1 (wrap32 a0) (wrap32 a1))
  have hsub := sub_narrow a0
  have hall : lngB 1 (wrap32 a1) = true := by simp [lngB]
  by_cases h : a1 = 0
  · subst h
    have hq : lngV 4 a0 0 = 0 := by simp [lngV]
    have hr : lngV 5 a0 0 = 0 := by simp [lngV]
    have hi : lngB 4 0 = false := by simp [lngB]
    have ho : lngB 5 0 = false := by simp [lngB]
    go_enter Try.func4, Try.ntmps4
    go_wp2_with (first | (go_at_call 15; refine (narrow_any _ _).mono ?_; rintro e w' ⟨rfl, rfl⟩) | (go_at_call 12; refine (long_any _ _ _ _).mono ?_; rintro e w' ⟨rfl, rfl⟩) | (go_at_call 11; refine (int_any _ _ _ _).mono ?_; rintro e w' ⟨rfl, rfl⟩))
    go_ret
    exact ⟨rfl, Grown.refl _⟩
  · have hi : lngB 4 a1 = true := by simp [lngB, h]
    have ho : lngB 5 a1 = true := by simp [lngB, h]
    have hback := div_back a0 a1 hlo hhi
    have hsg := tmod_sign a0 a1
    have hrb := tmod_bd a0 a1 hlo hhi
    obtain ⟨q, hq, hq'⟩ : ∃ q, lngV 4 a0 a1 = q ∧ wrap64 (a0.tdiv a1) = q := ⟨_, rfl, by simp [lngV, h]⟩
    obtain ⟨r, hr, hr'⟩ : ∃ r, lngV 5 a0 a1 = r ∧ a0.tmod a1 = r := ⟨_, rfl, by simp [lngV, h]⟩
    rw [hq', hr'] at hback
    rw [hr'] at hsg hrb
    clear hq' hr' hrb hlo hhi
    by_cases hz : r = 0
    · clear hsg
      subst hz
      rw [Int.add_zero] at hback
      go_enter Try.func4, Try.ntmps4
      go_wp2_with (first | (go_at_call 15; refine (narrow_any _ _).mono ?_; rintro e w' ⟨rfl, rfl⟩) | (go_at_call 12; refine (long_any _ _ _ _).mono ?_; rintro e w' ⟨rfl, rfl⟩) | (go_at_call 11; refine (int_any _ _ _ _).mono ?_; rintro e w' ⟨rfl, rfl⟩))
      go_ret
      exact ⟨rfl, Grown.refl _⟩
    · have hs : (decide (r < 0) == decide (a0 < 0)) = true := by
        rcases hsg with hsg | hsg
        · exact absurd hsg hz
        · simp [hsg]
      clear hsg
      go_enter Try.func4, Try.ntmps4
      go_wp2_with (first | (go_at_call 15; refine (narrow_any _ _).mono ?_; rintro e w' ⟨rfl, rfl⟩) | (go_at_call 12; refine (long_any _ _ _ _).mono ?_; rintro e w' ⟨rfl, rfl⟩) | (go_at_call 11; refine (int_any _ _ _ _).mono ?_; rintro e w' ⟨rfl, rfl⟩))
      go_ret
      exact ⟨rfl, Grown.refl _⟩

/-! ### THE ROW's STEP: WRITTEN OUT: LEAVE IT -/
set_option maxRecDepth 100000 in
theorem nd_lifted (os : Os) (started : os.Started) (H : Type) (enc : TypeId × Value → H) :
    ReturnsInHanded {} Try.checked os 4 .any (Rows.numDividesSpec.pre6 enc Try.prog Try.f4 Rows.numDividesRow.domain false) (Rows.numDividesSpec.post enc Try.prog Try.f4 false true false false) := by
  refine returnsInHanded_of_change (C := Try.checked) nd_own started (by kernel_rfl) Try.func4
    (ChangeSpec.witness6 (enc := enc) (C := Try.checked) false ⟨#[], #[.int .i64 0, .int .i64 0], []⟩ 8 (by kernel_rfl) (by kernel_rfl) (by kernel_rfl) (by kernel_rfl)) ?_
  intro W base args ds gs before hval0 hW hcnd _
  have hval : ∀ (j : Nat) t v, Try.f4.params[j]? = some t → args[j]? = some v → Value.okWide Try.prog W .any base t v := hval0
  have hW' := hW
  obtain ⟨p, q, hA0, hV, rfl, hfz, hnd⟩ := hW
  have hA : DataW.TrodAll enc Try.prog W 0 (fun _ => true) true Try.f4.params.toList args.toList ds p := hA0
  rw [Try.params4] at hA hval
  obtain ⟨v0, vs0, d0, ds0, p0, q0, hargs, rfl, rfl, h0, r0⟩ := trodAll_cons hA
  obtain ⟨v1, vs1, d1, ds1, p1, q1, rfl, rfl, rfl, h1, r1⟩ := trodAll_cons r0
  obtain ⟨rfl, rfl, rfl⟩ := trodAll_nil r1
  obtain rfl : args = #[v0, v1] := by cases args; simp_all
  obtain ⟨rfl, rfl⟩ := trodVars_none hV
  obtain ⟨a0, rfl, rfl, rfl, w0⟩ := open_int Try.underlying2 (hval 0 2 v0 rfl rfl) h0
  obtain ⟨a1, rfl, rfl, rfl, w1⟩ := open_int Try.underlying2 (hval 1 2 v1 rfl rfl) h1
  clear hA0 hval0
  simp only [List.append_nil] at hW'
  refine (nd_walk a0 a1 w0 w1 W).mono fun e W' ⟨he, hg⟩ => ?_
  subst he
  exact ⟨_, rfl, post_of_same (pa := []) (pv := []) hW' (fun _ _ _ => (trodAll_cons_mk (shut_bool Try.underlying4 _) trodAll_mk0)) (fun sp _ => (trodAll_cons_mk (shut_int Try.underlying2 w0) (trodAll_cons_mk (shut_int Try.underlying2 w1) trodAll_mk0))) (fun _ _ => rfl) rfl
    (hg.frame _) hg.2.1 (ok_one (by kernel_rfl) rfl (okWide_bool_mk Try.underlying4 _))⟩

theorem nd_over : Rows.numDividesRow.holds Try.pinned (OpenSpec.ofChange Rows.numDividesSpec) :=
  OpenClaim.holds_of_wide 4 Try.f4 rfl rfl rfl rfl rfl rfl rfl ⟨rfl, rfl, rfl, rfl, rfl⟩ rfl rfl rfl rfl rfl (by kernel_rfl) Try.func4 (by kernel_rfl)
    (of_decide_eq_true (by kernel_rfl)) (by unfold Func.isWrapper; first | (rw [if_pos (by decide +kernel)]; kernel_rfl) | (rw [if_neg (by decide +kernel)]; exact ⟨rfl, rfl⟩))
    (fun os started H enc _ => nd_lifted os started H enc)

/-- ████ THE STATEMENT ████ -/
theorem numDivides_holds : Rows.NumDividesSaid :=
  nd_over
#print axioms numDivides_holds
end Go.Proofs.Ytgiiapenmjollaa
