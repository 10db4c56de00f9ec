/-
  HierTells: for every classes and any two numbers, the program tells whether they may be, whether the one is below the other, and which both are below, as the document does. No condition.
-/
import Derived.Test.YtgiiapenmjollaaHierJoinC
import Derived.Test.YtgiiapenmjollaaHierRef
import Derived.Test.YtgiiapenmjollaaHierRefJoin
import Derived.Test.YtgiiapenmjollaaOpen
import Derived.Test.YtgiiapenmjollaaRows
import Derived.ProofKit
import Derived.Carry
namespace Go.Proofs.Ytgiiapenmjollaa
open Go.ChangeShapes Go.WideShapes Go.ChangeAt Go.RowKit Go.Deep

theorem ht_own : ownKnob Try.prog.godebug = none := by kernel_rfl
theorem ht_laidOut : laidOutB Try.prog = true := by kernel_rfl

set_option maxHeartbeats 2000000 in
theorem ht_walk (A : Option Addr) (c : Nat) (l : List Cl) (x y : Int) (w : World) (hl : ClsAt w A l) :
    Calls Try.prog 5 #[.slice A l.length c, .int .i64 x, .int .i64 y] w fun e w' => e = .returned (.bool true) ∧ Bl w w' := by
  have HL : Hid (ClsAt w A l) := hl
  clear hl
  cases hm : mayB l
  · have hb : belV l x y = false := by unfold belV; rw [hm]; rfl
    have hj : joinV l x y = -1 := by unfold joinV; rw [hm]; rfl
    go_enter Try.func5, Try.ntmps5
    go_wp2_with (first
      | (go_at_call 21; refine (may_any _ _ _ _ HL.out).mono ?_; rintro e w1 ⟨he, g1⟩; rw [hm] at he; subst he)
      | (go_at_call 22; refine (hbelow_any _ _ _ _ _ _ (HL.out.bl g1)).mono ?_; rintro e w2 ⟨he, g2⟩; rw [hb] at he; subst he)
      | (go_at_call 23; refine (hjoin_any _ _ _ _ _ _ (HL.out.bl (g1.trans g2))).mono ?_; rintro e w3 ⟨he, g3⟩; rw [hj] at he; subst he)
      | (go_at_call 24; refine (rmay_any _ _ _ _ (HL.out.bl ((g1.trans g2).trans g3))).mono ?_; rintro e w4 ⟨he, g4⟩; rw [hm] at he; subst he))
    go_ret
    exact ⟨rfl, ((g1.trans g2).trans g3).trans g4⟩
  · have HT : Hid (Tree l) := (may_tree hm).1
    have hb : belV l x y = (clsI l x y && belN l x.toNat y.toNat) := by unfold belV; rw [hm]; rfl
    have hj : joinV l x y = if clsI l x y = true then ((joinN l x.toNat y.toNat : Nat) : Int) else -1 := by unfold joinV; rw [hm]; rfl
    obtain ⟨B, hB⟩ : ∃ B, B = (clsI l x y && belN l x.toNat y.toNat) := ⟨_, rfl⟩
    obtain ⟨Jn, hJ⟩ : ∃ Jn : Int, Jn = if clsI l x y = true then ((joinN l x.toNat y.toNat : Nat) : Int) else -1 := ⟨_, rfl⟩
    rw [← hB] at hb
    rw [← hJ] at hj
    have HB : Hid (B = (clsI l x y && belN l x.toNat y.toNat)) := hB
    have HJ : Hid (Jn = if clsI l x y = true then ((joinN l x.toNat y.toNat : Nat) : Int) else -1) := hJ
    clear hB hJ
    go_enter Try.func5, Try.ntmps5
    go_wp2_with (first
      | (go_at_call 21; refine (may_any _ _ _ _ HL.out).mono ?_; rintro e w1 ⟨he, g1⟩; rw [hm] at he; subst he)
      | (go_at_call 22; refine (hbelow_any _ _ _ _ _ _ (HL.out.bl g1)).mono ?_; rintro e w2 ⟨he, g2⟩; rw [hb] at he; subst he)
      | (go_at_call 23; refine (hjoin_any _ _ _ _ _ _ (HL.out.bl (g1.trans g2))).mono ?_; rintro e w3 ⟨he, g3⟩; rw [hj] at he; subst he)
      | (go_at_call 24; refine (rmay_any _ _ _ _ (HL.out.bl ((g1.trans g2).trans g3))).mono ?_; rintro e w4 ⟨he, g4⟩; rw [hm] at he; subst he)
      | (go_at_call 25; refine (rbelow_any _ _ _ _ _ _ (HL.out.bl (((g1.trans g2).trans g3).trans g4)) HT.out).mono ?_; rintro e w5 ⟨he, rfl⟩; rw [← HB.out] at he; subst he)
      | (go_at_call 26; refine (rjoin_any _ _ _ _ _ _ (HL.out.bl (((g1.trans g2).trans g3).trans g4)) HT.out).mono ?_; rintro e w6 ⟨he, rfl⟩; rw [← HJ.out] at he; subst he))
    go_ret
    exact ⟨rfl, ((g1.trans g2).trans g3).trans g4⟩

set_option maxRecDepth 100000 in
theorem ht_lifted (os : Os) (started : os.Started) (H : Type) (enc : TypeId × Value → H) :
    ReturnsInHanded {} Try.checked os 5 .any (Rows.hierTellsSpec.pre6 enc Try.prog Try.f5 Rows.hierTellsRow.domain false) (Rows.hierTellsSpec.post enc Try.prog Try.f5 false true false false) := by
  refine returnsInHanded_of_change (C := Try.checked) ht_own started (by kernel_rfl) Try.func5
    (ChangeSpec.witness6 (enc := enc) (C := Try.checked) false ⟨#[], #[.slice none 0 0, .int .i64 0, .int .i64 0], []⟩ 8 (by kernel_rfl) (by kernel_rfl) (by kernel_rfl) (by kernel_rfl)) ?_
  intro W base args ds gs before hval0 hW hcnd _
  have hval : ∀ (j : Nat) t v, Try.f5.params[j]? = some t → args[j]? = some v → Value.okWide Try.prog W .any base t v := hval0
  have hW' := hW
  obtain ⟨p, q, hA0, hV, rfl, hfz, hnd⟩ := hW
  have hA : DataW.TrodAll enc Try.prog W 0 (fun _ => true) true Try.f5.params.toList args.toList ds p := hA0
  rw [Try.params5] at hA hval
  obtain ⟨v0, vs0, d0, ds0, p0, q0, hargs, rfl, rfl, h0, r0⟩ := trodAll_cons hA
  obtain ⟨v1, vs1, d1, ds1, p1, q1, rfl, rfl, rfl, h1, r1⟩ := trodAll_cons r0
  obtain ⟨v2, vs2, d2, ds2, p2, q2, rfl, rfl, rfl, h2, r2⟩ := trodAll_cons r1
  obtain ⟨rfl, rfl, rfl⟩ := trodAll_nil r2
  obtain rfl : args = #[v0, v1, v2] := by cases args; simp_all
  obtain ⟨rfl, rfl⟩ := trodVars_none hV
  obtain ⟨a1, rfl, rfl, rfl, w1⟩ := open_int Try.underlying3 (hval 1 3 v1 rfl rfl) h1
  obtain ⟨a2, rfl, rfl, rfl, w2⟩ := open_int Try.underlying3 (hval 2 3 v2 rfl rfl) h2
  obtain ⟨A0, n0, c0, rfl⟩ := okWide_slice Try.underlying29 (hval 0 29 v0 rfl rfl)
  have h0k := h0
  obtain ⟨fuel, hf⟩ := h0
  obtain ⟨A, l, c, hcs, hcl⟩ := open_cls hf
  clear hA0 hval0
  simp only [List.append_nil] at hW'
  simp [Value.cells] at hcs
  obtain ⟨rfl, rfl, rfl⟩ := hcs
  have hlt : ∀ x ∈ p0, x.block < W.heap.size := fun x hx => by simpa using hW'.lt x hx
  refine (ht_walk A0 c0 l a1 a2 W hcl).mono fun e W' ⟨he, hbl⟩ => ?_
  subst he
  refine ⟨_, rfl, _, _, _, [], p0, [], hW', trodAll_cons_mk (shut_bool Try.underlying4 _) trodAll_mk0, ?_, rfl, Below.frame hbl _, fun h => by cases h⟩
  have harg : DataW.Trod enc Try.prog W' 0 (fun b => decide (b < W.heap.size)) true 29 (.slice A0 l.length c0) d0 p0 :=
    Below.trod ht_laidOut (by kernel_rfl) (of_decide_eq_true (by kernel_rfl)) h0k hbl hlt
  have hall := trodAll_cons_mk harg (trodAll_cons_mk (shut_int Try.underlying3 w1) (trodAll_cons_mk (shut_int Try.underlying3 w2) trodAll_mk0))
  simp only [List.append_nil] at hall
  exact hall

theorem ht_over : Rows.hierTellsRow.holds Try.pinned (OpenSpec.ofChange Rows.hierTellsSpec) :=
  OpenClaim.holds_of_wide 5 Try.f5 rfl rfl rfl rfl rfl rfl rfl ⟨rfl, rfl, rfl, rfl, rfl⟩ rfl rfl rfl rfl rfl (by kernel_rfl) Try.func5 (by kernel_rfl)
    (of_decide_eq_true (by kernel_rfl)) (by unfold Func.isWrapper; first | (rw [if_pos (by decide +kernel)]; kernel_rfl) | (rw [if_neg (by decide +kernel)]; exact ⟨rfl, rfl⟩))
    (fun os started H enc _ => ht_lifted os started H enc)

/-- ████ THE STATEMENT ████ -/
theorem hierTells_holds : Rows.HierTellsSaid :=
  ht_over
#print axioms hierTells_holds

end Go.Proofs.Ytgiiapenmjollaa
