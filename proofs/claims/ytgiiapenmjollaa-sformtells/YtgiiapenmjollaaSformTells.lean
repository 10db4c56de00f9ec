/-
  SformTells: for every file the program tells whether it may be, on a stack, as the document does. No condition.
-/
import Derived.Test.YtgiiapenmjollaaSformForm
import Derived.Test.YtgiiapenmjollaaOpenFile
import Derived.Test.YtgiiapenmjollaaRows
import Derived.ProofKit
import Derived.Carry
namespace Go.Proofs.Ytgiiapenmjollaa
open Go.ChangeShapes Go.WideShapes Go.ChangeAt Go.RowKit Go.Deep

theorem st_own : ownKnob Try.prog.godebug = none := by kernel_rfl
theorem st_laidOut : laidOutB Try.prog = true := by kernel_rfl

set_option maxHeartbeats 2000000 in
theorem st_walk (f : Fi) (A B : Option Addr) (a b : Nat) (w : World) (hA : ClsAt w A f.classes) (hB : MesAt w B f.methods) :
    Calls Try.prog 7 #[fiV f.classes.length f.methods.length A B a b] w fun e w' => e = .returned (.bool true) ∧ Bl w w' := by
  have HA : Hid (ClsAt w A f.classes) := hA
  have HB : Hid (MesAt w B f.methods) := hB
  clear hA hB
  have HF : Hid (FiBox (w.alloc (fiO f.classes.length f.methods.length A B a b)) w.heap.size 0 f.classes.length f.methods.length A B a b) := FiBox.new ..
  have HW : Hid (Bl w (w.alloc (fiO f.classes.length f.methods.length A B a b))) := (Bl.refl w).alloc _
  obtain ⟨R, hR⟩ : ∃ R, smayB f = R := ⟨_, rfl⟩
  go_enter Try.func7, Try.ntmps7
  go_wp2_with (first
    | (go_at_call 27; refine (smay_any f _ _ _ _ _ (HA.out.bl HW.out) (HB.out.bl HW.out)).mono ?_; rintro e w1 ⟨he, g1⟩; rw [hR] at he; subst he; obtain ⟨v0, v1⟩ := HF.out.bl g1; simp only [Nat.zero_add] at v1)
    | (go_at_call 28; refine (rsmay_any f _ _ _ _ _ (HA.out.bl (HW.out.trans g1)) (HB.out.bl (HW.out.trans g1))).mono ?_; rintro e w2 ⟨he, g2⟩; rw [hR] at he; subst he))
  all_goals
    go_ret
    exact ⟨ret_bool (by simp), (HW.out.trans g1).trans g2⟩

set_option maxRecDepth 100000 in
theorem st_lifted (os : Os) (started : os.Started) (H : Type) (enc : TypeId × Value → H) :
    ReturnsInHanded {} Try.checked os 7 .any (Rows.sformTellsSpec.pre6 enc Try.prog Try.f7 Rows.sformTellsRow.domain false) (Rows.sformTellsSpec.post enc Try.prog Try.f7 false true false false) := by
  refine returnsInHanded_of_change (C := Try.checked) st_own started (by kernel_rfl) Try.func7
    (ChangeSpec.witness6 (enc := enc) (C := Try.checked) false ⟨#[], #[.agg #[.slice none 0 0, .slice none 0 0]], []⟩ 8 (by kernel_rfl) (by kernel_rfl) (by kernel_rfl) (by kernel_rfl)) ?_
  intro W base args ds gs before hval0 hW hcnd _
  have hval : ∀ (j : Nat) t v, Try.f7.params[j]? = some t → args[j]? = some v → Value.okWide Try.prog W .any base t v := hval0
  have hW' := hW
  obtain ⟨p, q, hA0, hV, rfl, hfz, hnd⟩ := hW
  have hA : DataW.TrodAll enc Try.prog W 0 (fun _ => true) true Try.f7.params.toList args.toList ds p := hA0
  rw [Try.params7] at hA hval
  obtain ⟨v0, vs0, d0, ds0, p0, q0, hargs, rfl, rfl, h0, r0⟩ := trodAll_cons hA
  obtain ⟨rfl, rfl, rfl⟩ := trodAll_nil r0
  obtain rfl : args = #[v0] := by cases args; simp_all
  obtain ⟨rfl, rfl⟩ := trodVars_none hV
  obtain ⟨cs, rfl, hsz⟩ := okWide_struct Try.underlying36 (hval 0 36 v0 rfl rfl)
  have h0k := h0
  obtain ⟨fuel, hf⟩ := h0
  obtain ⟨f, A, B, a, b, hcs, hA1, hB1⟩ := open_file hf
  clear hA0 hval0
  simp only [List.append_nil] at hW'
  simp [Value.cells] at hcs
  obtain rfl : cs = #[.slice A f.classes.length a, .slice B f.methods.length b] := by cases cs; simp_all
  have hlt : ∀ x ∈ p0, x.block < W.heap.size := fun x hx => by simpa using hW'.lt x hx
  refine (st_walk f A B a b W hA1 hB1).mono fun e W' ⟨he, hbl⟩ => ?_
  subst he
  refine ⟨_, rfl, _, _, _, [], p0, [], hW', trodAll_cons_mk (shut_bool Try.underlying4 _) trodAll_mk0, ?_, rfl, Below.frame hbl _, fun h => by cases h⟩
  have harg : DataW.Trod enc Try.prog W' 0 (fun b => decide (b < W.heap.size)) true 36 (.agg #[.slice A f.classes.length a, .slice B f.methods.length b]) d0 p0 :=
    Below.trod st_laidOut (by kernel_rfl) (of_decide_eq_true (by kernel_rfl)) h0k hbl hlt
  have hall := trodAll_cons_mk harg trodAll_mk0
  simp only [List.append_nil] at hall
  exact hall

theorem st_over : Rows.sformTellsRow.holds Try.pinned (OpenSpec.ofChange Rows.sformTellsSpec) :=
  OpenClaim.holds_of_wide 7 Try.f7 rfl rfl rfl rfl rfl rfl rfl ⟨rfl, rfl, rfl, rfl, rfl⟩ rfl rfl rfl rfl rfl (by kernel_rfl) Try.func7 (by kernel_rfl)
    (of_decide_eq_true (by kernel_rfl)) (by unfold Func.isWrapper; first | (rw [if_pos (by decide +kernel)]; kernel_rfl) | (rw [if_neg (by decide +kernel)]; exact ⟨rfl, rfl⟩))
    (fun os started H enc _ => st_lifted os started H enc)

/-- ████ THE STATEMENT ████ -/
theorem sformTells_holds : Rows.SformTellsSaid :=
  st_over
#print axioms sformTells_holds

end Go.Proofs.Ytgiiapenmjollaa
