/-
  WirePuts: for every file, such as may not be among them, the program tells its bytes, or what is wrong, as the document does. No condition.
-/
import Derived.Test.YtgiiapenmjollabMWireUse
import Derived.Test.YtgiiapenmjollabMWireBytes
import Derived.Test.YtgiiapenmjollabMOpenFile
import Derived.Test.YtgiiapenmjollabRows
import Derived.ProofKit
import Derived.Carry
namespace Go.Proofs.Ytgiiapenmjollab
open Go.ChangeShapes Go.WideShapes Go.ChangeAt Go.RowKit Go.Deep
set_option linter.unusedVariables false
set_option linter.unusedSimpArgs false

theorem wp_own : ownKnob Try.prog.godebug = none := by kernel_rfl
theorem wp_laidOut : laidOutB Try.prog = true := by kernel_rfl
theorem formN_none {f : Fi} (h : putP f = none) : formN f = 0 := by
  unfold putP at h
  unfold formN
  split at h
  · cases h
  · rename_i h1
    split at h
    · cases h
    · rename_i h2
      rw [if_neg h1, if_neg h2]
theorem formN_some {f : Fi} {l : List Int} (h : putP f = some l) : ∃ N, formN f = N ∧ (N = 1 ∨ N = 2) ∧ l = N :: encFi f := by
  unfold putP at h
  unfold formN
  split at h
  · rename_i h1
    injection h with h
    exact ⟨1, by rw [if_pos h1], Or.inl rfl, h.symm⟩
  · rename_i h1
    split at h
    · rename_i h2
      injection h with h
      exact ⟨2, by rw [if_neg h1, if_pos h2], Or.inr rfl, h.symm⟩
    · cases h

set_option maxRecDepth 100000 in
set_option maxHeartbeats 8000000 in
theorem wp_walk (f : Fi) (A B : Option Addr) (a b : Nat) (w : World) (hA : ClsAt w A f.classes) (hB : MesAt w B f.methods) :
    Calls Try.prog 3 #[fiV f.classes.length f.methods.length A B a b] w fun e w' => e = .returned (.bool true) ∧ Bl w w' := by
  have HF : Hid (FiBox (w.alloc (fiO f.classes.length f.methods.length A B a b)) w.heap.size 0 f.classes.length f.methods.length A B a b) := FiBox.new ..
  have HW : Hid (Bl w (w.alloc (fiO f.classes.length f.methods.length A B a b))) := (Bl.refl w).alloc _
  have HA := hidW (hA.bl HW.out)
  have HB := hidW (hB.bl HW.out)
  clear hA hB
  cases hf : putP f with
  | none =>
    have PF := hidW hf
    have HN := hidW (formN_none hf)
    clear hf
    go_enter Try.func3, Try.ntmps3
    go_wp2_with (first
      | (go_at_call 6; refine (put_none f _ _ _ _ _ HA.out HB.out PF.out).mono ?_; rintro e w1 ⟨rfl, g1⟩; obtain ⟨v0, v1⟩ := HF.out.bl g1; simp only [Nat.zero_add] at v1; have G1 := hidW g1; clear g1)
      | (go_at_call 7; refine (rform_any f _ _ _ _ _ (HA.out.bl G1.out) (HB.out.bl G1.out)).mono ?_; rintro e w2 ⟨he, g2⟩; rw [HN.out] at he; subst he))
    go_ret
    exact ⟨rfl, (HW.out.trans G1.out).trans g2⟩
  | some l =>
    have PF := hidW hf
    obtain ⟨N, hN, hN2, hl⟩ := formN_some hf
    have HN := hidW hN
    have HN2 := hidW hN2
    have HFew := hidW (putP_some hf).1
    have hn0 : N ≠ 0 := by omega
    have hnb : (N == 0) = false := by simpa using hn0
    have HLL := hidW hl
    clear hf hN hN2 hl
    go_enter Try.func3, Try.ntmps3
    go_wp2_with (first
      | (go_at_call 6; refine (put_some f _ _ _ _ _ HA.out HB.out l PF.out).mono ?_; rintro e w1 ⟨g, cap, rfl, r1⟩; obtain ⟨v0, v1⟩ := HF.out.bl r1.bl; simp only [Nat.zero_add] at v1; have G1 := hidW r1.bl; have R1 := hidW r1; clear r1)
      | (go_at_call 7; refine (rform_any f _ _ _ _ _ (HA.out.bl G1.out) (HB.out.bl G1.out)).mono ?_; rintro e w2 ⟨he, g2⟩; rw [HN.out] at he; subst he; have G2 := hidW (G1.out.trans g2); have R2 := hidW (R1.out.later g2); obtain ⟨u0, u1⟩ := HF.out.bl G2.out; simp only [Nat.zero_add] at u1; clear g2)
      | (go_at_call 8; refine (rbytes_any f _ _ _ _ _ (HA.out.bl G2.out) (HB.out.bl G2.out) N HN.out HN2.out HFew.out).mono ?_; rintro e w3 ⟨he, g3⟩; rw [← HLL.out] at he; subst he; have q1 : (convert 26 9 (.slice (some ⟨g, 0, none⟩) l.length cap)).run Try.prog w3 = .ok (.string (bS l)) w3 := (R2.out.later g3).conv rfl))
    go_ret
    exact ⟨rfl, (HW.out.trans G2.out).trans g3⟩

set_option maxRecDepth 100000 in
theorem wp_lifted (os : Os) (started : os.Started) (H : Type) (enc : TypeId × Value → H) :
    ReturnsInHanded {} Try.checked os 3 .any (Rows.wirePutsSpec.pre6 enc Try.prog Try.f3 Rows.wirePutsRow.domain false) (Rows.wirePutsSpec.post enc Try.prog Try.f3 false true false false) := by
  refine returnsInHanded_of_change (C := Try.checked) wp_own started (by kernel_rfl) Try.func3
    (ChangeSpec.witness6 (enc := enc) (C := Try.checked) false ⟨#[], #[.agg #[.slice none 0 0, .slice none 0 0]], []⟩ 8 (by kernel_rfl) (by kernel_rfl) (by kernel_rfl) (by kernel_rfl)) ?_
  intro W base args ds gs before hval0 hW hcnd _
  have hval : ∀ (j : Nat) t v, Try.f3.params[j]? = some t → args[j]? = some v → Value.okWide Try.prog W .any base t v := hval0
  have hW' := hW
  obtain ⟨p, q, hA0, hV, rfl, hfz, hnd⟩ := hW
  have hA : DataW.TrodAll enc Try.prog W 0 (fun _ => true) true Try.f3.params.toList args.toList ds p := hA0
  rw [Try.params3] at hA hval
  obtain ⟨v0, vs0, d0, ds0, p0, q0, hargs, rfl, rfl, h0, r0⟩ := trodAll_cons hA
  obtain ⟨rfl, rfl, rfl⟩ := trodAll_nil r0
  obtain rfl : args = #[v0] := by cases args; simp_all
  obtain ⟨rfl, rfl⟩ := trodVars_none hV
  obtain ⟨cs, rfl, hsz⟩ := okWide_struct Try.underlying25 (hval 0 25 v0 rfl rfl)
  have h0k := h0
  obtain ⟨fuel, hf⟩ := h0
  obtain ⟨f, A, B, a, b, hcs, hA1, hB1⟩ := open_file hf
  clear hA0 hval0
  simp only [List.append_nil] at hW'
  simp [Value.cells] at hcs
  obtain rfl : cs = #[.slice A f.classes.length a, .slice B f.methods.length b] := by cases cs; simp_all
  have hlt : ∀ x ∈ p0, x.block < W.heap.size := fun x hx => by simpa using hW'.lt x hx
  refine (wp_walk f A B a b W hA1 hB1).mono fun e W' ⟨he, hbl⟩ => ?_
  subst he
  refine ⟨_, rfl, _, _, _, [], p0, [], hW', trodAll_cons_mk (shut_bool Try.underlying4 _) trodAll_mk0, ?_, rfl, Below.frame hbl _, fun h => by cases h⟩
  have harg : DataW.Trod enc Try.prog W' 0 (fun b => decide (b < W.heap.size)) true 25 (.agg #[.slice A f.classes.length a, .slice B f.methods.length b]) d0 p0 :=
    Below.trod wp_laidOut (by kernel_rfl) (of_decide_eq_true (by kernel_rfl)) h0k hbl hlt
  have hall := trodAll_cons_mk harg trodAll_mk0
  simp only [List.append_nil] at hall
  exact hall

theorem wp_over : Rows.wirePutsRow.holds Try.pinned (OpenSpec.ofChange Rows.wirePutsSpec) :=
  OpenClaim.holds_of_wide 3 Try.f3 rfl rfl rfl rfl rfl rfl rfl ⟨rfl, rfl, rfl, rfl, rfl⟩ rfl rfl rfl rfl rfl (by kernel_rfl) Try.func3 (by kernel_rfl)
    (of_decide_eq_true (by kernel_rfl)) (by unfold Func.isWrapper; first | (rw [if_pos (by decide +kernel)]; kernel_rfl) | (rw [if_neg (by decide +kernel)]; exact ⟨rfl, rfl⟩))
    (fun os started H enc _ => wp_lifted os started H enc)

/-- ████ THE STATEMENT ████ -/
theorem wirePuts_holds : Rows.WirePutsSaid :=
  wp_over
#print axioms wirePuts_holds

end Go.Proofs.Ytgiiapenmjollab
