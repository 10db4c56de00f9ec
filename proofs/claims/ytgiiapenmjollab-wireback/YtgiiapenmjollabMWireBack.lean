/-
  WireBack: for every file that has bytes: they are read as it, and that has the same bytes; and no shorter row of bytes is read. No condition.
-/
import Derived.Test.YtgiiapenmjollabMWireGet
import Derived.Test.YtgiiapenmjollabMWireSameF
import Derived.Test.YtgiiapenmjollabMOpenFile
import Derived.Test.YtgiiapenmjollabRows
import Derived.ProofKit
import Derived.Carry
namespace Go.Proofs.Ytgiiapenmjollab
open Go.ChangeShapes Go.WideShapes Go.ChangeAt Go.RowKit Go.Deep
set_option linter.unusedVariables false
set_option linter.unusedSimpArgs false

theorem wb_own : ownKnob Try.prog.godebug = none := by kernel_rfl
theorem wb_laidOut : laidOutB Try.prog = true := by kernel_rfl
theorem get_yes {D : Option Addr} {c n : Nat} {l : List Int} {w : World} (hD : BysAt w D l) (hy : Bys l) (hc : l.length ≤ c) (hm : c ≤ maxLen) (hn : n = l.length) {f : Fi} (hp : putP f = some l) (hf : f.nums) :
    Calls Try.prog 9 #[.slice D n c] w fun e w' => ∃ A B a b, e = .returned (.tuple #[fiV f.classes.length f.methods.length A B a b, .int .i64 0]) ∧ ClsAt w' A f.classes ∧ MesAt w' B f.methods ∧ Bl w w' := by
  subst hn
  refine (get_any D c l w hD hy hc hm).mono fun e w' ⟨hb, q⟩ => ?_
  rcases q with ⟨g, A, B, a, b, h1, h2, h3, h4, h5⟩ | ⟨h1, _⟩
  · obtain rfl := putP_one h1 hp h2 hf
    exact ⟨A, B, a, b, h3, h4, h5, hb⟩
  · exact absurd hp (h1 f hf)
theorem get_no {D : Option Addr} {c n : Nat} {l : List Int} {w : World} (hD : BysAt w D l) (hy : Bys l) (hc : l.length ≤ c) (hm : c ≤ maxLen) (hn : n = l.length) (h : ∀ f : Fi, f.nums → putP f ≠ some l) :
    Calls Try.prog 9 #[.slice D n c] w fun e w' => e = .returned (.tuple #[fiV 0 0 none none 0 0, .int .i64 2]) ∧ Bl w w' := by
  subst hn
  refine (get_any D c l w hD hy hc hm).mono fun e w' ⟨hb, q⟩ => ?_
  rcases q with ⟨g, A, B, a, b, h1, h2, _⟩ | ⟨_, h2⟩
  · exact absurd h1 (h g h2)
  · exact ⟨h2, hb⟩
theorem Rw.cap {W0 w : World} {g n cap : Nat} {l : List Int} (h : Rw W0 w (.slice (some ⟨g, 0, none⟩) n cap) l) (hn : n = l.length) : l.length ≤ cap ∧ cap ≤ maxLen := by
  rcases h.row.2 with ⟨hv, _⟩ | ⟨g', cap', cur, hv, _, _, h1, h2, _⟩
  · cases hv
  · injection hv with _ e1 e2
    subst e2
    exact ⟨by omega, h2⟩
theorem BysAt.take {w : World} {A : Option Addr} {l : List Int} (h : BysAt w A l) (n : Nat) : BysAt w A (l.take n) := by
  rcases h with h0 | ⟨b, off, rfl, hi⟩
  · exact Or.inl (by rw [List.length_take]; omega)
  · refine Or.inr ⟨b, off, rfl, fun i hi' => ?_⟩
    rw [List.length_take] at hi'
    rw [hi i (by omega), nth_get (by omega), nth_get (by rw [List.length_take]; omega), List.getElem_take]

set_option maxRecDepth 100000 in
set_option maxHeartbeats 8000000 in
theorem wb_walk (f : Fi) (A B : Option Addr) (a b : Nat) (k : Int) (w : World) (hA : ClsAt w A f.classes) (hB : MesAt w B f.methods) (hk0 : 0 ≤ k) (hk1 : k ≤ 65535) :
    Calls Try.prog 5 #[fiV f.classes.length f.methods.length A B a b, .int .u16 k] w fun e w' => e = .returned (.bool true) ∧ Bl w w' := by
  have HF : Hid (FiBox (w.alloc (fiO f.classes.length f.methods.length A B a b)) w.heap.size 0 f.classes.length f.methods.length A B a b) := FiBox.new ..
  have HW : Hid (Bl w (w.alloc (fiO f.classes.length f.methods.length A B a b))) := (Bl.refl w).alloc _
  have NF := hidW (nums_of hA hB)
  have HA := hidW (hA.bl HW.out)
  have HB := hidW (hB.bl HW.out)
  clear hA hB
  cases hf : putP f with
  | none =>
    have PF := hidW hf
    clear hf
    go_enter Try.func5, Try.ntmps5
    go_wp2_with (go_at_call 6; refine (put_none f _ _ _ _ _ HA.out HB.out PF.out).mono ?_; rintro e w1 ⟨rfl, g1⟩)
    go_ret
    exact ⟨rfl, HW.out.trans g1⟩
  | some l =>
    have PF := hidW hf
    have HY := hidW (putP_by hf)
    have hlp := putP_pos hf
    have hll := putP_le hf
    clear hf
    obtain ⟨m, rfl⟩ : ∃ m : Nat, k = (m : Int) := ⟨k.toNat, by omega⟩
    by_cases hlt : m < l.length
    · have HNo := hidW (show ∀ g : Fi, g.nums → putP g ≠ some (l.take m) from fun g hn h => putP_short PF.out h NF.out hn hlt)
      have HTL := hidW (show m = (l.take m).length by rw [List.length_take]; omega)
      have HYT := hidW (show Bys (l.take m) from fun x hx => HY.out x (List.mem_of_mem_take hx))
      go_enter Try.func5, Try.ntmps5
      go_wp2_with (first
        | (have := G2; go_at_call 6; refine (put_some f _ _ _ _ _ (CA.out.bl ((Bl.refl w2).alloc _)) (CB.out.bl ((Bl.refl w2).alloc _)) l PF.out).mono ?_; rintro e w3 ⟨g3, cap3, rfl, r3⟩; have R3 := hidW r3; have G3 := hidW ((G2.out.alloc _).trans r3.bl); have R13 := hidW (R1.out.later (((Bl2.out.alloc _)).trans r3.bl)); have hcap3 := R13.out.cap rfl; have CA3 := hidW (CA.out.bl (((Bl.refl w2).alloc _).trans r3.bl)); have CB3 := hidW (CB.out.bl (((Bl.refl w2).alloc _).trans r3.bl)); have BX3 := hidW ((FiBox.new w2 f.classes.length f.methods.length A2 B2 a2 b2).bl r3.bl); clear r3)
        | (have := G3; go_at_call 9; refine (get_no (l := l.take m) (R13.out.bys.take m) HYT.out (by rw [List.length_take]; omega) hcap3.2 HTL.out HNo.out).mono ?_; rintro e w4 ⟨rfl, g4⟩; have G4 := hidW (G3.out.trans (g4.alloc (fiO 0 0 none none 0 0))); have R14 := hidW (R13.out.later (g4.alloc (fiO 0 0 none none 0 0))); have R34 := hidW (R3.out.later (g4.alloc (fiO 0 0 none none 0 0))); have q1 := R14.out.conv rfl; have q2 := R34.out.conv rfl; obtain ⟨u0, u1⟩ := HF.out.bl G4.out; obtain ⟨u2, u3⟩ := BX3.out.bl (g4.alloc (fiO 0 0 none none 0 0)); simp only [Nat.zero_add] at u1 u3; have CA4 := hidW (CA3.out.bl (g4.alloc (fiO 0 0 none none 0 0))); have CB4 := hidW (CB3.out.bl (g4.alloc (fiO 0 0 none none 0 0))); clear g4)
        | (go_at_call 6; refine (put_some f _ _ _ _ _ HA.out HB.out l PF.out).mono ?_; rintro e w1 ⟨g1, cap1, rfl, r1⟩; have R1 := hidW r1; have G1 := hidW r1.bl; have hcap := r1.cap rfl; clear r1)
        | (go_at_call 9; refine (get_yes (l := l) R1.out.bys HY.out hcap.1 hcap.2 rfl PF.out NF.out).mono ?_; rintro e w2 ⟨A2, B2, a2, b2, rfl, ca, cb, g2⟩; have CA := hidW ca; have CB := hidW cb; have Bl2 := hidW g2; have G2 := hidW (G1.out.trans g2); clear ca cb g2)
        | (go_at_call 11; refine (same_any f _ _ _ _ _ _ _ _ _ (HA.out.bl G4.out) (HB.out.bl G4.out) CA4.out CB4.out).mono ?_; rintro e w5 ⟨rfl, g5⟩))
      go_ret
      exact ⟨rfl, (HW.out.trans G4.out).trans g5⟩
    · go_enter Try.func5, Try.ntmps5
      go_wp2_with (first
        | (have := G2; go_at_call 6; refine (put_some f _ _ _ _ _ (CA.out.bl ((Bl.refl w2).alloc _)) (CB.out.bl ((Bl.refl w2).alloc _)) l PF.out).mono ?_; rintro e w3 ⟨g3, cap3, rfl, r3⟩; have G3 := hidW ((G2.out.alloc _).trans r3.bl); have q2 := r3.conv rfl; have q1 := (R1.out.later (((Bl2.out.alloc _)).trans r3.bl)).conv rfl; have CA3 := hidW (CA.out.bl (((Bl.refl w2).alloc _).trans r3.bl)); have CB3 := hidW (CB.out.bl (((Bl.refl w2).alloc _).trans r3.bl)); obtain ⟨u2, u3⟩ := (FiBox.new w2 f.classes.length f.methods.length A2 B2 a2 b2).bl r3.bl; obtain ⟨u0, u1⟩ := HF.out.bl G3.out; simp only [Nat.zero_add] at u1 u3; clear r3)
        | (go_at_call 6; refine (put_some f _ _ _ _ _ HA.out HB.out l PF.out).mono ?_; rintro e w1 ⟨g1, cap1, rfl, r1⟩; have R1 := hidW r1; have G1 := hidW r1.bl; have hcap := r1.cap rfl; clear r1)
        | (go_at_call 9; refine (get_yes (l := l) R1.out.bys HY.out hcap.1 hcap.2 rfl PF.out NF.out).mono ?_; rintro e w2 ⟨A2, B2, a2, b2, rfl, ca, cb, g2⟩; have CA := hidW ca; have CB := hidW cb; have Bl2 := hidW g2; have G2 := hidW (G1.out.trans g2); clear ca cb g2)
        | (go_at_call 11; refine (same_any f _ _ _ _ _ _ _ _ _ (HA.out.bl G3.out) (HB.out.bl G3.out) CA3.out CB3.out).mono ?_; rintro e w5 ⟨rfl, g5⟩))
      go_ret
      exact ⟨rfl, (HW.out.trans G3.out).trans g5⟩

set_option maxRecDepth 100000 in
theorem wb_lifted (os : Os) (started : os.Started) (H : Type) (enc : TypeId × Value → H) :
    ReturnsInHanded {} Try.checked os 5 .any (Rows.wireBackSpec.pre6 enc Try.prog Try.f5 Rows.wireBackRow.domain false) (Rows.wireBackSpec.post enc Try.prog Try.f5 false true false false) := by
  refine returnsInHanded_of_change (C := Try.checked) wb_own started (by kernel_rfl) Try.func5
    (ChangeSpec.witness6 (enc := enc) (C := Try.checked) false ⟨#[], #[.agg #[.slice none 0 0, .slice none 0 0], .int .u16 0], []⟩ 8 (by kernel_rfl) (by kernel_rfl) (by kernel_rfl) (by kernel_rfl)) ?_
  intro W base args ds gs before hval0 hW hcnd _
  have hval : ∀ (j : Nat) t v, Try.f5.params[j]? = some t → args[j]? = some v → Value.okWide Try.prog W .any base t v := hval0
  have hW' := hW
  obtain ⟨p, q, hA0, hV, rfl, hfz, hnd⟩ := hW
  have hA : DataW.TrodAll enc Try.prog W 0 (fun _ => true) true Try.f5.params.toList args.toList ds p := hA0
  rw [Try.params5] at hA hval
  obtain ⟨v0, vs0, d0, ds0, p0, q0, hargs, rfl, rfl, h0, r0⟩ := trodAll_cons hA
  obtain ⟨v1, vs1, d1, ds1, p1, q1, rfl, rfl, rfl, h1, r1⟩ := trodAll_cons r0
  obtain ⟨rfl, rfl, rfl⟩ := trodAll_nil r1
  obtain rfl : args = #[v0, v1] := by cases args; simp_all
  obtain ⟨rfl, rfl⟩ := trodVars_none hV
  obtain ⟨k, rfl, rfl, rfl, wf1⟩ := open_int Try.underlying37 (hval 1 37 v1 rfl rfl) h1
  obtain ⟨cs, rfl, hsz⟩ := okWide_struct Try.underlying25 (hval 0 25 v0 rfl rfl)
  have h0k := h0
  obtain ⟨fuel, hf⟩ := h0
  obtain ⟨f, A, B, a, b, hcs, hA1, hB1⟩ := open_file hf
  clear hA0 hval0
  simp only [List.append_nil] at hW'
  simp [Value.cells] at hcs
  obtain rfl : cs = #[.slice A f.classes.length a, .slice B f.methods.length b] := by cases cs; simp_all
  have hlt : ∀ x ∈ p0, x.block < W.heap.size := fun x hx => by simpa using hW'.lt x hx
  have hk : 0 ≤ k ∧ k ≤ 65535 := by
    have := wf1
    simp [Lit.wf, IntKind.min, IntKind.max, IntKind.bits, IntKind.signed] at this
    omega
  refine (wb_walk f A B a b k W hA1 hB1 hk.1 hk.2).mono fun e W' ⟨he, hbl⟩ => ?_
  subst he
  refine ⟨_, rfl, _, _, _, [], p0, [], hW', trodAll_cons_mk (shut_bool Try.underlying4 _) trodAll_mk0, ?_, rfl, Below.frame hbl _, fun h => by cases h⟩
  have harg : DataW.Trod enc Try.prog W' 0 (fun b => decide (b < W.heap.size)) true 25 (.agg #[.slice A f.classes.length a, .slice B f.methods.length b]) d0 p0 :=
    Below.trod wb_laidOut (by kernel_rfl) (of_decide_eq_true (by kernel_rfl)) h0k hbl hlt
  have hall := trodAll_cons_mk harg (trodAll_cons_mk (shut_int Try.underlying37 wf1) trodAll_mk0)
  simp only [List.append_nil] at hall
  exact hall

theorem wb_over : Rows.wireBackRow.holds Try.pinned (OpenSpec.ofChange Rows.wireBackSpec) :=
  OpenClaim.holds_of_wide 5 Try.f5 rfl rfl rfl rfl rfl rfl rfl ⟨rfl, rfl, rfl, rfl, rfl⟩ rfl rfl rfl rfl rfl (by kernel_rfl) Try.func5 (by kernel_rfl)
    (of_decide_eq_true (by kernel_rfl)) (by unfold Func.isWrapper; first | (rw [if_pos (by decide +kernel)]; kernel_rfl) | (rw [if_neg (by decide +kernel)]; exact ⟨rfl, rfl⟩))
    (fun os started H enc _ => wb_lifted os started H enc)

/-- ████ THE STATEMENT ████ -/
theorem wireBack_holds : Rows.WireBackSaid :=
  wb_over
#print axioms wireBack_holds

end Go.Proofs.Ytgiiapenmjollab
