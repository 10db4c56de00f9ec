/-
  HierJoins: for every classes and any three numbers: each class is below itself; what is below what is below is below; and what both are below is above their Join, which both are below. No condition.
-/
import Derived.Test.YtgiiapenmjollaaHierJoinC
import Derived.Test.YtgiiapenmjollaaOpen
import Derived.Test.YtgiiapenmjollaaRows
import Derived.ProofKit
import Derived.Carry
namespace Go.Proofs.Ytgiiapenmjollaa
open Go.ChangeShapes Go.WideShapes Go.ChangeAt Go.RowKit Go.Deep

theorem hj_own : ownKnob Try.prog.godebug = none := by kernel_rfl
theorem hj_laidOut : laidOutB Try.prog = true := by kernel_rfl

/-- Facts of classes that may be. -/
theorem belV_nat {l : List Cl} (hm : mayB l = true) {u v : Nat} (hu : u < l.length) (hv : v < l.length) : belV l u v = belN l u v := by
  unfold belV clsI; rw [hm, decide_eq_true (by omega)]; simp
theorem joinV_nat {l : List Cl} (hm : mayB l = true) {u v : Nat} (hu : u < l.length) (hv : v < l.length) : joinV l u v = (joinN l u v : Nat) := by
  unfold joinV clsI; rw [hm, decide_eq_true (by omega)]; simp
theorem belV_out {l : List Cl} {x y : Int} (h : ¬ (0 ≤ x ∧ x < l.length ∧ 0 ≤ y ∧ y < l.length)) : belV l x y = false := by
  unfold belV clsI; rw [decide_eq_false h]; simp
theorem join_lt {l : List Cl} (ht : Tree l) {u v : Nat} (hu : u < l.length) (hv : v < l.length) : joinN l u v < l.length := by
  have := ups_le ht u hu _ (join_there ht u v hu hv).1; omega

set_option maxHeartbeats 8000000 in
theorem hj_walk (A : Option Addr) (c : Nat) (l : List Cl) (x y z : Int) (w : World) (hl : ClsAt w A l) :
    Calls Try.prog 6 #[.slice A l.length c, .int .i64 x, .int .i64 y, .int .i64 z] w fun e w' => e = .returned (.bool true) ∧ Bl w w' := by
  have HL : Hid (ClsAt w A l) := hl
  have hmx := hl.1
  unfold maxLen at hmx
  clear hl
  cases hm : mayB l
  · have hb : belV l x x = false := by unfold belV; rw [hm]; rfl
    have hj : joinV l x y = -1 := by unfold joinV; rw [hm]; rfl
    go_enter Try.func6, Try.ntmps6
    go_wp2_with (first
      | (go_at_call 21; refine (may_any _ _ _ _ HL.out).mono ?_; rintro e w1 ⟨he, g1⟩; rw [hm] at he; subst he)
      | (go_at_call 22; refine (hbelow_any _ _ _ _ _ _ (HL.out.bl g1)).mono ?_; rintro e w2 ⟨he, g2⟩; rw [hb] at he; subst he)
      | (go_at_call 23; refine (hjoin_any _ _ _ _ _ _ (HL.out.bl (g1.trans g2))).mono ?_; rintro e w3 ⟨he, g3⟩; rw [hj] at he; subst he))
    go_ret
    exact ⟨rfl, (g1.trans g2).trans g3⟩
  · have HT : Hid (Tree l) := (may_tree hm).1
    by_cases hin : 0 ≤ x ∧ 0 ≤ y ∧ 0 ≤ z ∧ x < l.length ∧ y < l.length ∧ z < l.length
    · obtain ⟨h1, h2, h3, h4, h5, h6⟩ := hin
      obtain ⟨u, rfl⟩ := Int.eq_ofNat_of_zero_le h1
      obtain ⟨v, rfl⟩ := Int.eq_ofNat_of_zero_le h2
      obtain ⟨t, rfl⟩ := Int.eq_ofNat_of_zero_le h3
      have hu : u < l.length := by omega
      have hv : v < l.length := by omega
      have ht : t < l.length := by omega
      have hjn := join_lt HT.out hu hv
      have HJ := join_there HT.out u v hu hv
      have e1 : decide ((u : Int) < 0) = false := decide_eq_false (by omega)
      have e2 : decide ((v : Int) < 0) = false := decide_eq_false (by omega)
      have e3 : decide ((t : Int) < 0) = false := decide_eq_false (by omega)
      have e4 : decide (l.length ≤ u) = false := decide_eq_false (by omega)
      have e5 : decide (l.length ≤ v) = false := decide_eq_false (by omega)
      have e6 : decide (l.length ≤ t) = false := decide_eq_false (by omega)
      have f1 : belV l u u = true := by rw [belV_nat hm hu hu]; exact bel_self u
      have f2 : belV l u 0 = true := by rw [show (0 : Int) = ((0 : Nat) : Int) from rfl, belV_nat hm hu (by omega)]; exact bel_iff.2 (ups_root HT.out u hu)
      have f3 : joinV l u v = (joinN l u v : Nat) := joinV_nat hm hu hv
      have f4 : joinV l v u = (joinN l u v : Nat) := by rw [joinV_nat hm hv hu, join_is HJ.symm]
      have f5 : belV l u (joinN l u v : Nat) = true := by rw [belV_nat hm hu hjn]; exact bel_iff.2 HJ.1
      have f6 : belV l v (joinN l u v : Nat) = true := by rw [belV_nat hm hv hjn]; exact bel_iff.2 HJ.2.1
      have g1 : belV l u v = belN l u v := belV_nat hm hu hv
      have g2 : belV l v t = belN l v t := belV_nat hm hv ht
      have g3 : belV l u t = belN l u t := belV_nat hm hu ht
      have g4 : belV l (joinN l u v : Nat) t = (belN l u t && belN l v t) := by
        rw [belV_nat hm hjn ht, Bool.eq_iff_iff, Bool.and_eq_true, bel_iff, bel_iff, bel_iff]
        constructor
        · intro h
          exact ⟨((ups_mid HT.out u hu HJ.1).1 h).1, ((ups_mid HT.out v hv HJ.2.1).1 h).1⟩
        · rintro ⟨a, b⟩
          exact (ups_mid HT.out u hu HJ.1).2 ⟨a, HJ.2.2 _ a b⟩
      have HTR : belN l u v = true → belN l v t = true → belN l u t = true := by
        rw [bel_iff, bel_iff, bel_iff]
        intro a b
        exact ((ups_mid HT.out u hu a).1 b).1
      generalize joinN l u v = jn at *
      clear HJ HT h1 h2 h3 h4 h5 h6 hjn
      cases k1 : belN l u v <;> cases k2 : belN l v t <;> cases k3 : belN l u t <;> rw [k1, k2, k3] at HTR <;>
        first
        | exact absurd (HTR rfl rfl) (by decide)
        | skip
      all_goals
        rw [k1] at g1
        rw [k2] at g2
        rw [k3] at g3
        rw [k2, k3] at g4
        clear HTR k1 k2 k3
        have G : Hid (Bl w w) := Bl.refl w
        go_enter Try.func6, Try.ntmps6
        go_wp2_with (first
          | (go_at_call 21; refine (may_any _ _ _ _ (HL.out.bl G.out)).mono ?_; rintro e w1 ⟨he, g⟩; replace G : Hid (Bl w w1) := G.out.trans g; clear g; rw [hm] at he; subst he)
          | (go_at_call 22; refine (hbelow_any _ _ _ _ _ _ (HL.out.bl G.out)).mono ?_; rintro e w1 ⟨he, g⟩; replace G : Hid (Bl w w1) := G.out.trans g; clear g; (first | rw [f1] at he | rw [f2] at he | rw [f5] at he | rw [f6] at he | rw [g1] at he | rw [g2] at he | rw [g3] at he | rw [g4] at he); subst he)
          | (go_at_call 23; refine (hjoin_any _ _ _ _ _ _ (HL.out.bl G.out)).mono ?_; rintro e w1 ⟨he, g⟩; replace G : Hid (Bl w w1) := G.out.trans g; clear g; (first | rw [f3] at he | rw [f4] at he); subst he))
        go_ret
        exact ⟨rfl, G.out⟩
    · have HO : Hid (¬ (0 ≤ x ∧ 0 ≤ y ∧ 0 ≤ z ∧ x < l.length ∧ y < l.length ∧ z < l.length)) := hin
      have G : Hid (Bl w w) := Bl.refl w
      cases k1 : belV l x y
      · go_enter Try.func6, Try.ntmps6
        go_wp2_with (first
          | (go_at_call 21; refine (may_any _ _ _ _ (HL.out.bl G.out)).mono ?_; rintro e w1 ⟨he, g⟩; replace G : Hid (Bl w w1) := G.out.trans g; clear g; rw [hm] at he; subst he)
          | (go_at_call 22; refine (hbelow_any _ _ _ _ _ _ (HL.out.bl G.out)).mono ?_; rintro e w1 ⟨he, g⟩; replace G : Hid (Bl w w1) := G.out.trans g; clear g; rw [k1] at he; subst he))
        all_goals first
          | (go_ret; exact ⟨rfl, G.out⟩)
          | (exfalso; omega)
      · have hxy : 0 ≤ x ∧ x < l.length ∧ 0 ≤ y ∧ y < l.length := Decidable.byContradiction fun h => by rw [belV_out h] at k1; exact absurd k1 (by decide)
        have k2 : belV l y z = false := belV_out (by omega)
        go_enter Try.func6, Try.ntmps6
        go_wp2_with (first
          | (go_at_call 21; refine (may_any _ _ _ _ (HL.out.bl G.out)).mono ?_; rintro e w1 ⟨he, g⟩; replace G : Hid (Bl w w1) := G.out.trans g; clear g; rw [hm] at he; subst he)
          | (go_at_call 22; refine (hbelow_any _ _ _ _ _ _ (HL.out.bl G.out)).mono ?_; rintro e w1 ⟨he, g⟩; replace G : Hid (Bl w w1) := G.out.trans g; clear g; (first | rw [k1] at he | rw [k2] at he); subst he))
        all_goals first
          | (go_ret; exact ⟨rfl, G.out⟩)
          | (exfalso; omega)

set_option maxRecDepth 100000 in
theorem hj_lifted (os : Os) (started : os.Started) (H : Type) (enc : TypeId × Value → H) :
    ReturnsInHanded {} Try.checked os 6 .any (Rows.hierJoinsSpec.pre6 enc Try.prog Try.f6 Rows.hierJoinsRow.domain false) (Rows.hierJoinsSpec.post enc Try.prog Try.f6 false true false false) := by
  refine returnsInHanded_of_change (C := Try.checked) hj_own started (by kernel_rfl) Try.func6
    (ChangeSpec.witness6 (enc := enc) (C := Try.checked) false ⟨#[], #[.slice none 0 0, .int .i64 0, .int .i64 0, .int .i64 0], []⟩ 8 (by kernel_rfl) (by kernel_rfl) (by kernel_rfl) (by kernel_rfl)) ?_
  intro W base args ds gs before hval0 hW hcnd _
  have hval : ∀ (j : Nat) t v, Try.f6.params[j]? = some t → args[j]? = some v → Value.okWide Try.prog W .any base t v := hval0
  have hW' := hW
  obtain ⟨p, q, hA0, hV, rfl, hfz, hnd⟩ := hW
  have hA : DataW.TrodAll enc Try.prog W 0 (fun _ => true) true Try.f6.params.toList args.toList ds p := hA0
  rw [Try.params6] at hA hval
  obtain ⟨v0, vs0, d0, ds0, p0, q0, hargs, rfl, rfl, h0, r0⟩ := trodAll_cons hA
  obtain ⟨v1, vs1, d1, ds1, p1, q1, rfl, rfl, rfl, h1, r1⟩ := trodAll_cons r0
  obtain ⟨v2, vs2, d2, ds2, p2, q2, rfl, rfl, rfl, h2, r2⟩ := trodAll_cons r1
  obtain ⟨v3, vs3, d3, ds3, p3, q3, rfl, rfl, rfl, h3, r3⟩ := trodAll_cons r2
  obtain ⟨rfl, rfl, rfl⟩ := trodAll_nil r3
  obtain rfl : args = #[v0, v1, v2, v3] := by cases args; simp_all
  obtain ⟨rfl, rfl⟩ := trodVars_none hV
  obtain ⟨a1, rfl, rfl, rfl, w1⟩ := open_int Try.underlying3 (hval 1 3 v1 rfl rfl) h1
  obtain ⟨a2, rfl, rfl, rfl, w2⟩ := open_int Try.underlying3 (hval 2 3 v2 rfl rfl) h2
  obtain ⟨a3, rfl, rfl, rfl, w3⟩ := open_int Try.underlying3 (hval 3 3 v3 rfl rfl) h3
  obtain ⟨A0, n0, c0, rfl⟩ := okWide_slice Try.underlying29 (hval 0 29 v0 rfl rfl)
  have h0k := h0
  obtain ⟨fuel, hf⟩ := h0
  obtain ⟨A, l, c, hcs, hcl⟩ := open_cls hf
  clear hA0 hval0
  simp only [List.append_nil] at hW'
  simp [Value.cells] at hcs
  obtain ⟨rfl, rfl, rfl⟩ := hcs
  have hlt : ∀ x ∈ p0, x.block < W.heap.size := fun x hx => by simpa using hW'.lt x hx
  refine (hj_walk A0 c0 l a1 a2 a3 W hcl).mono fun e W' ⟨he, hbl⟩ => ?_
  subst he
  refine ⟨_, rfl, _, _, _, [], p0, [], hW', trodAll_cons_mk (shut_bool Try.underlying4 _) trodAll_mk0, ?_, rfl, Below.frame hbl _, fun h => by cases h⟩
  have harg : DataW.Trod enc Try.prog W' 0 (fun b => decide (b < W.heap.size)) true 29 (.slice A0 l.length c0) d0 p0 :=
    Below.trod hj_laidOut (by kernel_rfl) (of_decide_eq_true (by kernel_rfl)) h0k hbl hlt
  have hall := trodAll_cons_mk harg (trodAll_cons_mk (shut_int Try.underlying3 w1) (trodAll_cons_mk (shut_int Try.underlying3 w2) (trodAll_cons_mk (shut_int Try.underlying3 w3) trodAll_mk0)))
  simp only [List.append_nil] at hall
  exact hall

theorem hj_over : Rows.hierJoinsRow.holds Try.pinned (OpenSpec.ofChange Rows.hierJoinsSpec) :=
  OpenClaim.holds_of_wide 6 Try.f6 rfl rfl rfl rfl rfl rfl rfl ⟨rfl, rfl, rfl, rfl, rfl⟩ rfl rfl rfl rfl rfl (by kernel_rfl) Try.func6 (by kernel_rfl)
    (of_decide_eq_true (by kernel_rfl)) (by unfold Func.isWrapper; first | (rw [if_pos (by decide +kernel)]; kernel_rfl) | (rw [if_neg (by decide +kernel)]; exact ⟨rfl, rfl⟩))
    (fun os started H enc _ => hj_lifted os started H enc)

/-- ████ THE STATEMENT ████ -/
theorem hierJoins_holds : Rows.HierJoinsSaid :=
  hj_over
#print axioms hierJoins_holds

end Go.Proofs.Ytgiiapenmjollaa
