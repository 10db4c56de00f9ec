/-
  WireOne: for every two files with the same bytes: they are the same. No condition.
-/
import Derived.Test.YtgiiapenmjollacLWireUse
import Derived.Test.YtgiiapenmjollacLWireSameF
import Derived.Test.YtgiiapenmjollacLOpenFile
import Derived.Test.YtgiiapenmjollacRows
import Derived.ProofKit
import Derived.Carry
namespace Go.Proofs.Ytgiiapenmjollac
open Go.ChangeShapes Go.WideShapes Go.ChangeAt Go.RowKit Go.Deep
set_option linter.unusedVariables false
set_option linter.unusedSimpArgs false

theorem wo_own : ownKnob Try.prog.godebug = none := by kernel_rfl
theorem wo_laidOut : laidOutB Try.prog = true := by kernel_rfl

set_option maxRecDepth 100000 in
set_option maxHeartbeats 8000000 in
theorem wo_walk (f h : Fi) (A B C D : Option Addr) (a b c d : Nat) (w : World) (hA : ClsAt w A f.classes) (hB : MesAt w B f.methods) (hC : ClsAt w C h.classes) (hD : MesAt w D h.methods) :
    Calls Try.prog 3 #[fiV f.classes.length f.methods.length A B a b, fiV h.classes.length h.methods.length C D c d] w fun e w' => e = .returned (.bool true) ∧ Bl w w' := by
  have HB0 := hidW ((FiBox.new w f.classes.length f.methods.length A B a b).bl ((Bl.refl _).alloc (fiO h.classes.length h.methods.length C D c d)))
  have HB1 := hidW (FiBox.new (w.alloc (fiO f.classes.length f.methods.length A B a b)) h.classes.length h.methods.length C D c d)
  have HW := hidW (((Bl.refl w).alloc (fiO f.classes.length f.methods.length A B a b)).alloc (fiO h.classes.length h.methods.length C D c d))
  have NF := hidW (nums_of hA hB)
  have NH := hidW (nums_of hC hD)
  have HA := hidW (hA.bl HW.out)
  have HM := hidW (hB.bl HW.out)
  have HC := hidW (hC.bl HW.out)
  have HD := hidW (hD.bl HW.out)
  clear hA hB hC hD
  cases hf : putP f with
  | none =>
    have PF := hidW hf
    clear hf
    cases hh : putP h with
    | none =>
      have PH := hidW hh
      clear hh
      go_enter Try.func3, Try.ntmps3
      go_wp2_with (first
        | (have := G1; go_at_call 4; refine (put_none h _ _ _ _ _ (HC.out.bl G1.out) (HD.out.bl G1.out) PH.out).mono ?_; rintro e w2 ⟨rfl, g2⟩)
        | (go_at_call 4; refine (put_none f _ _ _ _ _ HA.out HM.out PF.out).mono ?_; rintro e w1 ⟨rfl, g1⟩; obtain ⟨v2, v3⟩ := HB1.out.bl g1; simp only [Nat.zero_add, World.size_alloc] at v2 v3; have G1 := hidW g1; clear g1))
      go_ret
      exact ⟨rfl, (HW.out.trans G1.out).trans g2⟩
    | some t =>
      have PH := hidW hh
      clear hh
      go_enter Try.func3, Try.ntmps3
      go_wp2_with (first
        | (have := G1; go_at_call 4; refine (put_some h _ _ _ _ _ (HC.out.bl G1.out) (HD.out.bl G1.out) t PH.out).mono ?_; rintro e w2 ⟨g, cap, rfl, r2⟩)
        | (go_at_call 4; refine (put_none f _ _ _ _ _ HA.out HM.out PF.out).mono ?_; rintro e w1 ⟨rfl, g1⟩; obtain ⟨v2, v3⟩ := HB1.out.bl g1; simp only [Nat.zero_add, World.size_alloc] at v2 v3; have G1 := hidW g1; clear g1))
      go_ret
      exact ⟨rfl, (HW.out.trans G1.out).trans r2.bl⟩
  | some s =>
    have PF := hidW hf
    clear hf
    cases hh : putP h with
    | none =>
      have PH := hidW hh
      clear hh
      go_enter Try.func3, Try.ntmps3
      go_wp2_with (first
        | (have := G1; go_at_call 4; refine (put_none h _ _ _ _ _ (HC.out.bl G1.out) (HD.out.bl G1.out) PH.out).mono ?_; rintro e w2 ⟨rfl, g2⟩)
        | (go_at_call 4; refine (put_some f _ _ _ _ _ HA.out HM.out s PF.out).mono ?_; rintro e w1 ⟨g, cap, rfl, r1⟩; obtain ⟨v2, v3⟩ := HB1.out.bl r1.bl; simp only [Nat.zero_add, World.size_alloc] at v2 v3; have G1 := hidW r1.bl; have R1 := hidW r1; clear r1))
      go_ret
      exact ⟨rfl, (HW.out.trans G1.out).trans g2⟩
    | some t =>
      have PH := hidW hh
      clear hh
      have hsp := putP_pos PF.out
      have hsl := putP_le PF.out
      by_cases hst : s = t
      · subst hst
        obtain rfl : f = h := putP_one PF.out PH.out NF.out NH.out
        go_enter Try.func3, Try.ntmps3
        go_wp2_with (first
          | (have := G1; go_at_call 4; refine (put_some f _ _ _ _ _ (HC.out.bl G1.out) (HD.out.bl G1.out) s PH.out).mono ?_; rintro e w2 ⟨g2, cap2, rfl, r2⟩; have q1 := (R1.out.later r2.bl).conv rfl; have q2 := r2.conv rfl; have G2 := hidW (G1.out.trans r2.bl); clear r2; obtain ⟨u0, u1⟩ := HB0.out.bl G2.out; obtain ⟨u2, u3⟩ := HB1.out.bl G2.out; simp only [Nat.zero_add, World.size_alloc] at u1 u2 u3)
          | (go_at_call 4; refine (put_some f _ _ _ _ _ HA.out HM.out s PF.out).mono ?_; rintro e w1 ⟨g, cap, rfl, r1⟩; obtain ⟨v2, v3⟩ := HB1.out.bl r1.bl; simp only [Nat.zero_add, World.size_alloc] at v2 v3; have G1 := hidW r1.bl; have R1 := hidW r1; clear r1)
          | (go_at_call 5; refine (same_any f _ _ _ _ _ _ _ _ _ (HA.out.bl G2.out) (HM.out.bl G2.out) (HC.out.bl G2.out) (HD.out.bl G2.out)).mono ?_; rintro e w3 ⟨rfl, g3⟩))
        go_ret
        exact ⟨rfl, (HW.out.trans G2.out).trans g3⟩
      · have hne := strB_ne (putP_by PF.out) (putP_by PH.out) hst
        clear hst
        go_enter Try.func3, Try.ntmps3
        go_wp2_with (first
          | (have := G1; go_at_call 4; refine (put_some h _ _ _ _ _ (HC.out.bl G1.out) (HD.out.bl G1.out) t PH.out).mono ?_; rintro e w2 ⟨g2, cap2, rfl, r2⟩; have q1 := (R1.out.later r2.bl).conv rfl; have q2 := r2.conv rfl; have G2 := hidW (G1.out.trans r2.bl); clear r2)
          | (go_at_call 4; refine (put_some f _ _ _ _ _ HA.out HM.out s PF.out).mono ?_; rintro e w1 ⟨g, cap, rfl, r1⟩; obtain ⟨v2, v3⟩ := HB1.out.bl r1.bl; simp only [Nat.zero_add, World.size_alloc] at v2 v3; have G1 := hidW r1.bl; have R1 := hidW r1; clear r1))
        go_ret
        exact ⟨rfl, HW.out.trans G2.out⟩

set_option maxRecDepth 100000 in
theorem wo_lifted (os : Os) (started : os.Started) (H : Type) (enc : TypeId × Value → H) :
    ReturnsInHanded {} Try.checked os 3 .any (Rows.wireOneSpec.pre6 enc Try.prog Try.f3 Rows.wireOneRow.domain false) (Rows.wireOneSpec.post enc Try.prog Try.f3 false true false false) := by
  refine returnsInHanded_of_change (C := Try.checked) wo_own started (by kernel_rfl) Try.func3
    (ChangeSpec.witness6 (enc := enc) (C := Try.checked) false ⟨#[], #[.agg #[.slice none 0 0, .slice none 0 0], .agg #[.slice none 0 0, .slice none 0 0]], []⟩ 8 (by kernel_rfl) (by kernel_rfl) (by kernel_rfl) (by kernel_rfl)) ?_
  intro W base args ds gs before hval0 hW hcnd _
  have hval : ∀ (j : Nat) t v, Try.f3.params[j]? = some t → args[j]? = some v → Value.okWide Try.prog W .any base t v := hval0
  have hW' := hW
  obtain ⟨p, q, hA0, hV, rfl, hfz, hnd⟩ := hW
  have hA : DataW.TrodAll enc Try.prog W 0 (fun _ => true) true Try.f3.params.toList args.toList ds p := hA0
  rw [Try.params3] at hA hval
  obtain ⟨v0, vs0, d0, ds0, p0, q0, hargs, rfl, rfl, h0, r0⟩ := trodAll_cons hA
  obtain ⟨v1, vs1, d1, ds1, p1, q1, hargs1, rfl, rfl, h1, r1⟩ := trodAll_cons r0
  obtain ⟨rfl, rfl, rfl⟩ := trodAll_nil r1
  obtain rfl : args = #[v0, v1] := by cases args; simp_all
  obtain ⟨rfl, rfl⟩ := trodVars_none hV
  obtain ⟨cs, rfl, hsz⟩ := okWide_struct Try.underlying25 (hval 0 25 v0 rfl rfl)
  obtain ⟨cs2, rfl, hsz2⟩ := okWide_struct Try.underlying25 (hval 1 25 v1 rfl rfl)
  have h0k := h0
  have h1k := h1
  obtain ⟨fuel, hf⟩ := h0
  obtain ⟨f, A, B, a, b, hcs, hA1, hB1⟩ := open_file hf
  obtain ⟨fuel2, hf2⟩ := h1
  obtain ⟨f2, C, D, c, d, hcs2, hC1, hD1⟩ := open_file hf2
  clear hA0 hval0
  simp only [List.append_nil] at hW'
  simp [Value.cells] at hcs hcs2
  obtain rfl : cs = #[.slice A f.classes.length a, .slice B f.methods.length b] := by clear hcs2 hsz2 hf2 h1k hC1 hD1; cases cs; simp_all
  obtain rfl : cs2 = #[.slice C f2.classes.length c, .slice D f2.methods.length d] := by clear hf h0k hA1 hB1; cases cs2; simp_all
  have hlt : ∀ x ∈ p0 ++ p1, x.block < W.heap.size := fun x hx => hW'.lt x (by simpa using hx)
  refine (wo_walk f f2 A B C D a b c d W hA1 hB1 hC1 hD1).mono fun e W' ⟨he, hbl⟩ => ?_
  subst he
  refine ⟨_, rfl, _, _, _, [], p0 ++ p1, [], hW', trodAll_cons_mk (shut_bool Try.underlying4 _) trodAll_mk0, ?_, rfl, Below.frame hbl _, fun h => by cases h⟩
  have harg : DataW.Trod enc Try.prog W' 0 (fun b => decide (b < W.heap.size)) true 25 (.agg #[.slice A f.classes.length a, .slice B f.methods.length b]) d0 p0 :=
    Below.trod wo_laidOut (by kernel_rfl) (of_decide_eq_true (by kernel_rfl)) h0k hbl (fun x hx => hlt x (by simp [hx]))
  have harg2 : DataW.Trod enc Try.prog W' 0 (fun b => decide (b < W.heap.size)) true 25 (.agg #[.slice C f2.classes.length c, .slice D f2.methods.length d]) d1 p1 :=
    Below.trod wo_laidOut (by kernel_rfl) (of_decide_eq_true (by kernel_rfl)) h1k hbl (fun x hx => hlt x (by simp [hx]))
  have hall := trodAll_cons_mk harg (trodAll_cons_mk harg2 trodAll_mk0)
  simp only [List.append_nil] at hall
  exact hall

theorem wo_over : Rows.wireOneRow.holds Try.pinned (OpenSpec.ofChange Rows.wireOneSpec) :=
  OpenClaim.holds_of_wide 3 Try.f3 rfl rfl rfl rfl rfl rfl rfl ⟨rfl, rfl, rfl, rfl, rfl⟩ rfl rfl rfl rfl rfl (by kernel_rfl) Try.func3 (by kernel_rfl)
    (of_decide_eq_true (by kernel_rfl)) (by unfold Func.isWrapper; first | (rw [if_pos (by decide +kernel)]; kernel_rfl) | (rw [if_neg (by decide +kernel)]; exact ⟨rfl, rfl⟩))
    (fun os started H enc _ => wo_lifted os started H enc)

/-- ████ THE STATEMENT ████ -/
theorem wireOne_holds : Rows.WireOneSaid :=
  wo_over
#print axioms wireOne_holds

end Go.Proofs.Ytgiiapenmjollac
