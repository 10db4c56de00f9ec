/-
  FormsApart: for every file: it may not be on a stack and on registers, both. No condition.
-/
import Derived.Test.YtgiiapenmjollaaRformK
import Derived.Test.YtgiiapenmjollaaApartPlain
import Derived.Test.YtgiiapenmjollaaOpenFile
import Derived.Test.YtgiiapenmjollaaRows
import Derived.ProofKit
import Derived.Carry
namespace Go.Proofs.Ytgiiapenmjollaa
open Go.ChangeShapes Go.WideShapes Go.ChangeAt Go.RowKit Go.Deep
set_option linter.unusedVariables false
set_option linter.unusedSimpArgs false

theorem fa_own : ownKnob Try.prog.godebug = none := by kernel_rfl
theorem fa_laidOut : laidOutB Try.prog = true := by kernel_rfl

def oneCs : List Cl := [⟨-1, []⟩, ⟨0, []⟩, ⟨0, []⟩, ⟨0, []⟩]
def oneIn : In := ⟨20, 0, 0, 0, 0, []⟩
def oneMe : Me := ⟨[], ⟨0, 0⟩, 0, 0, 0, [oneIn], []⟩
def twoMe : Me := ⟨[], ⟨0, 0⟩, 0, 0, 1, [oneIn], []⟩
theorem one_may : smayB ⟨oneCs, [oneMe]⟩ = true := by decide
theorem two_may : rfmayB ⟨oneCs, [twoMe]⟩ = true := by decide

theorem nil_tys (w : World) (A : Option Addr) : TysAt w A [] := ⟨by unfold maxLen; simp, Or.inl rfl⟩
theorem nil_ints (w : World) (A : Option Addr) : IntsAt w A [] := ⟨by unfold maxLen; simp, Or.inl rfl⟩
theorem nil_hds (w : World) (A : Option Addr) : HdsAt w A [] := ⟨by unfold maxLen; simp, Or.inl rfl⟩
abbrev csO : Obj := .cells #[.int .i64 (-1), .slice none 0 0, .int .i64 0, .slice none 0 0, .int .i64 0, .slice none 0 0, .int .i64 0, .slice none 0 0] 48
abbrev codeO : Obj := .cells #[.int .i64 20, .int .i64 0, .int .i64 0, .int .i64 0, .int .i64 0, .slice none 0 0] 51
abbrev mesO (regs : Int) (n : Nat) : Obj := .cells #[.slice none 0 0, .int .i64 0, .int .i64 0, .int .i64 0, .int .i64 0, .int .i64 regs, .slice (some ⟨n, 0, none⟩) 1 1, .slice none 0 0] 57
theorem one_cls {w : World} {n : Nat} (hn : n = w.heap.size) : ClsAt (w.alloc csO) (some ⟨n, 0, none⟩) oneCs := by
  subst hn
  refine ⟨by unfold maxLen; decide, Or.inr ⟨_, _, rfl, fun i hi => ?_⟩⟩
  have : i = 0 ∨ i = 1 ∨ i = 2 ∨ i = 3 := by simp [oneCs] at hi; omega
  rcases this with rfl | rfl | rfl | rfl
  all_goals exact ⟨cell_of_new rfl, by unfold I64; decide, none, 0, cell_of_new rfl, nil_tys _ _⟩
theorem one_code {w : World} {n : Nat} (hn : n = w.heap.size) : InsAt (w.alloc codeO) (some ⟨n, 0, none⟩) [oneIn] := by
  subst hn
  refine ⟨by unfold maxLen; decide, Or.inr ⟨_, _, rfl, fun i hi => ?_⟩⟩
  obtain rfl : i = 0 := by simpa using hi
  exact ⟨cell_of_new rfl, cell_of_new rfl, cell_of_new rfl, cell_of_new rfl, cell_of_new rfl, by unfold In.ok I64; decide, none, 0, cell_of_new rfl, nil_ints _ _⟩

theorem one_mes {w : World} {n k : Nat} (hn : n = w.heap.size) {regs : Int} (hr : I64 regs) (hc : InsAt w (some ⟨k, 0, none⟩) [oneIn]) :
    MesAt (w.alloc (mesO regs k)) (some ⟨n, 0, none⟩) [⟨[], ⟨0, 0⟩, 0, 0, regs, [oneIn], []⟩] := by
  subst hn
  have z : I64 0 := by unfold I64; decide
  refine ⟨by unfold maxLen; simp, Or.inr ⟨_, _, rfl, fun i hi => ?_⟩⟩
  obtain rfl : i = 0 := by simpa using hi
  exact ⟨none, some ⟨k, 0, none⟩, none, 0, 1, 0, cell_of_new rfl, cell_of_new rfl, cell_of_new rfl, cell_of_new rfl, cell_of_new rfl, cell_of_new rfl, cell_of_new rfl, cell_of_new rfl,
    nil_tys _ _, hc.bl ((Bl.refl w).alloc _), nil_hds _ _, z, z, z, z, hr⟩
/-- What lies when both files have been laid. -/
abbrev faW (w : World) (nc nm : Nat) (A B : Option Addr) (a b : Nat) : World :=
  (((((((w.alloc (fiO nc nm A B a b)).alloc csO).alloc codeO).alloc (mesO 0 (w.heap.size + 1 + 1))).alloc (fiO 4 1 (some ⟨w.heap.size + 1, 0, none⟩) (some ⟨w.heap.size + 1 + 1 + 1, 0, none⟩) 4 1)).alloc codeO).alloc (mesO 1 (w.heap.size + 1 + 1 + 1 + 1 + 1))).alloc (fiO 4 1 (some ⟨w.heap.size + 1, 0, none⟩) (some ⟨w.heap.size + 1 + 1 + 1 + 1 + 1 + 1, 0, none⟩) 4 1)
structure FaAt (w W : World) : Prop where
  bl : Bl w W
  cs : ClsAt W (some ⟨w.heap.size + 1, 0, none⟩) oneCs
  m1 : MesAt W (some ⟨w.heap.size + 1 + 1 + 1, 0, none⟩) [oneMe]
  m2 : MesAt W (some ⟨w.heap.size + 1 + 1 + 1 + 1 + 1 + 1, 0, none⟩) [twoMe]
  c0 : W.cell? ⟨w.heap.size + 1 + 1 + 1 + 1 + 1 + 1 + 1, 0, none⟩ = some (.slice (some ⟨w.heap.size + 1, 0, none⟩) 4 4)
  c1 : W.cell? ⟨w.heap.size + 1 + 1 + 1 + 1 + 1 + 1 + 1, 1, none⟩ = some (.slice (some ⟨w.heap.size + 1 + 1 + 1 + 1 + 1 + 1, 0, none⟩) 1 1)
theorem FaAt.to {w W W' : World} (H : FaAt w W) (h : Bl W W') : FaAt w W' := ⟨H.bl.trans h, H.cs.bl h, H.m1.bl h, H.m2.bl h, h.cell H.c0, h.cell H.c1⟩
theorem fa_at (w : World) (nc nm : Nat) (A B : Option Addr) (a b : Nat) : FaAt w (faW w nc nm A B a b) := by
  have s : ∀ (W : World) (o : Obj), Bl W (W.alloc o) := fun W o => (Bl.refl W).alloc o
  refine ⟨?_, ?_, ?_, ?_, ?_, ?_⟩
  · exact (((((((s _ _).trans (s _ _)).trans (s _ _)).trans (s _ _)).trans (s _ _)).trans (s _ _)).trans (s _ _)).trans (s _ _)
  · exact (one_cls (by simp [World.size_alloc])).bl ((((((s _ _).trans (s _ _)).trans (s _ _)).trans (s _ _)).trans (s _ _)).trans (s _ _))
  · exact (one_mes (by simp [World.size_alloc]) (by unfold I64; decide) (one_code (by simp [World.size_alloc]))).bl ((((s _ _).trans (s _ _)).trans (s _ _)).trans (s _ _))
  · exact (one_mes (by simp [World.size_alloc]) (by unfold I64; decide) (one_code (by simp [World.size_alloc]))).bl (s _ _)
  · have h := (FiBox.new (((((((w.alloc (fiO nc nm A B a b)).alloc csO).alloc codeO).alloc (mesO 0 (w.heap.size + 1 + 1))).alloc (fiO 4 1 (some ⟨w.heap.size + 1, 0, none⟩) (some ⟨w.heap.size + 1 + 1 + 1, 0, none⟩) 4 1)).alloc codeO).alloc (mesO 1 (w.heap.size + 1 + 1 + 1 + 1 + 1))) 4 1 (some ⟨w.heap.size + 1, 0, none⟩) (some ⟨w.heap.size + 1 + 1 + 1 + 1 + 1 + 1, 0, none⟩) 4 1).1
    simpa only [World.size_alloc] using h
  · have h := (FiBox.new (((((((w.alloc (fiO nc nm A B a b)).alloc csO).alloc codeO).alloc (mesO 0 (w.heap.size + 1 + 1))).alloc (fiO 4 1 (some ⟨w.heap.size + 1, 0, none⟩) (some ⟨w.heap.size + 1 + 1 + 1, 0, none⟩) 4 1)).alloc codeO).alloc (mesO 1 (w.heap.size + 1 + 1 + 1 + 1 + 1))) 4 1 (some ⟨w.heap.size + 1, 0, none⟩) (some ⟨w.heap.size + 1 + 1 + 1 + 1 + 1 + 1, 0, none⟩) 4 1).2
    simpa only [World.size_alloc, Nat.zero_add] using h

set_option maxRecDepth 100000 in
set_option maxHeartbeats 4000000 in
theorem fa_walk (f : Fi) (A B : Option Addr) (a b : Nat) (w : World) (hA : ClsAt w A f.classes) (hB : MesAt w B f.methods) :
    Calls Try.prog 10 #[fiV f.classes.length f.methods.length A B a b] w fun e w' => e = .returned (.bool true) ∧ Bl w w' := by
  have HA : Hid (ClsAt w A f.classes) := hA
  have HB : Hid (MesAt w B f.methods) := hB
  clear hA hB
  have HW := hidp (fa_at w f.classes.length f.methods.length A B a b)
  have HF : Hid (FiBox (faW w f.classes.length f.methods.length A B a b) w.heap.size 0 f.classes.length f.methods.length A B a b) := by
    have s : ∀ (W : World) (o : Obj), Bl W (W.alloc o) := fun W o => (Bl.refl W).alloc o
    exact (FiBox.new w f.classes.length f.methods.length A B a b).bl (((((((s _ _).trans (s _ _)).trans (s _ _)).trans (s _ _)).trans (s _ _)).trans (s _ _)).trans (s _ _))
  have HP : Hid (smayB f = true → rfmayB f = false) := fun h => by
    cases hr : rfmayB f
    · rfl
    · exact (forms_apart f h hr).elim
  cases hS : smayB f
  · go_enter Try.func10, Try.ntmps10
    go_wp2_with (first
      | (have := g2; go_at_call 27; refine (smay_any f _ _ _ _ _ (HA.out.bl ((HW.out.to g1).to g2).bl) (HB.out.bl ((HW.out.to g1).to g2).bl)).mono ?_; rintro e w3 ⟨he, g3⟩; rw [hS] at he; subst he)
      | (go_at_call 27; refine (smay_any ⟨oneCs, [oneMe]⟩ _ _ _ _ _ HW.out.cs HW.out.m1).mono ?_; rintro e w1 ⟨he, g1⟩; rw [one_may] at he; subst he; have d0 := (HW.out.to g1).c0; have d1 := (HW.out.to g1).c1)
      | (go_at_call 31; refine (pmay_doc ⟨oneCs, [twoMe]⟩ _ _ _ _ _ (HW.out.to g1).cs (HW.out.to g1).m2).mono ?_; rintro e w2 ⟨he, g2⟩; rw [two_may] at he; subst he; obtain ⟨v0, v1⟩ := HF.out.bl (g1.trans g2); simp only [Nat.zero_add] at v1))
    go_ret
    exact ⟨rfl, ((HW.out.to g1).to g2).bl.trans g3⟩
  · have hR := HP.out hS
    go_enter Try.func10, Try.ntmps10
    go_wp2_with (first
      | (have := g3; go_at_call 31; refine (pmay_doc f _ _ _ _ _ (HA.out.bl (((HW.out.to g1).to g2).bl.trans g3)) (HB.out.bl (((HW.out.to g1).to g2).bl.trans g3))).mono ?_; rintro e w4 ⟨he, g4⟩; rw [hR] at he; subst he)
      | (have := g2; go_at_call 27; refine (smay_any f _ _ _ _ _ (HA.out.bl ((HW.out.to g1).to g2).bl) (HB.out.bl ((HW.out.to g1).to g2).bl)).mono ?_; rintro e w3 ⟨he, g3⟩; rw [hS] at he; subst he; obtain ⟨u0, u1⟩ := HF.out.bl ((g1.trans g2).trans g3); simp only [Nat.zero_add] at u1)
      | (go_at_call 27; refine (smay_any ⟨oneCs, [oneMe]⟩ _ _ _ _ _ HW.out.cs HW.out.m1).mono ?_; rintro e w1 ⟨he, g1⟩; rw [one_may] at he; subst he; have d0 := (HW.out.to g1).c0; have d1 := (HW.out.to g1).c1)
      | (go_at_call 31; refine (pmay_doc ⟨oneCs, [twoMe]⟩ _ _ _ _ _ (HW.out.to g1).cs (HW.out.to g1).m2).mono ?_; rintro e w2 ⟨he, g2⟩; rw [two_may] at he; subst he; obtain ⟨v0, v1⟩ := HF.out.bl (g1.trans g2); simp only [Nat.zero_add] at v1))
    go_ret
    exact ⟨rfl, (((HW.out.to g1).to g2).bl.trans g3).trans g4⟩

set_option maxRecDepth 100000 in
theorem fa_lifted (os : Os) (started : os.Started) (H : Type) (enc : TypeId × Value → H) :
    ReturnsInHanded {} Try.checked os 10 .any (Rows.formsApartSpec.pre6 enc Try.prog Try.f10 Rows.formsApartRow.domain false) (Rows.formsApartSpec.post enc Try.prog Try.f10 false true false false) := by
  refine returnsInHanded_of_change (C := Try.checked) fa_own started (by kernel_rfl) Try.func10
    (ChangeSpec.witness6 (enc := enc) (C := Try.checked) false ⟨#[], #[.agg #[.slice none 0 0, .slice none 0 0]], []⟩ 8 (by kernel_rfl) (by kernel_rfl) (by kernel_rfl) (by kernel_rfl)) ?_
  intro W base args ds gs before hval0 hW hcnd _
  have hval : ∀ (j : Nat) t v, Try.f10.params[j]? = some t → args[j]? = some v → Value.okWide Try.prog W .any base t v := hval0
  have hW' := hW
  obtain ⟨p, q, hA0, hV, rfl, hfz, hnd⟩ := hW
  have hA : DataW.TrodAll enc Try.prog W 0 (fun _ => true) true Try.f10.params.toList args.toList ds p := hA0
  rw [Try.params10] at hA hval
  obtain ⟨v0, vs0, d0, ds0, p0, q0, hargs, rfl, rfl, h0, r0⟩ := trodAll_cons hA
  obtain ⟨rfl, rfl, rfl⟩ := trodAll_nil r0
  obtain rfl : args = #[v0] := by cases args; simp_all
  obtain ⟨rfl, rfl⟩ := trodVars_none hV
  obtain ⟨cs, rfl, hsz⟩ := okWide_struct Try.underlying36 (hval 0 36 v0 rfl rfl)
  have h0k := h0
  obtain ⟨fuel, hf⟩ := h0
  obtain ⟨f, A, B, a, b, hcs, hA1, hB1⟩ := open_file hf
  clear hA0 hval0
  simp only [List.append_nil] at hW'
  simp [Value.cells] at hcs
  obtain rfl : cs = #[.slice A f.classes.length a, .slice B f.methods.length b] := by cases cs; simp_all
  have hlt : ∀ x ∈ p0, x.block < W.heap.size := fun x hx => by simpa using hW'.lt x hx
  refine (fa_walk f A B a b W hA1 hB1).mono fun e W' ⟨he, hbl⟩ => ?_
  subst he
  refine ⟨_, rfl, _, _, _, [], p0, [], hW', trodAll_cons_mk (shut_bool Try.underlying4 _) trodAll_mk0, ?_, rfl, Below.frame hbl _, fun h => by cases h⟩
  have harg : DataW.Trod enc Try.prog W' 0 (fun b => decide (b < W.heap.size)) true 36 (.agg #[.slice A f.classes.length a, .slice B f.methods.length b]) d0 p0 :=
    Below.trod fa_laidOut (by kernel_rfl) (of_decide_eq_true (by kernel_rfl)) h0k hbl hlt
  have hall := trodAll_cons_mk harg trodAll_mk0
  simp only [List.append_nil] at hall
  exact hall

theorem fa_over : Rows.formsApartRow.holds Try.pinned (OpenSpec.ofChange Rows.formsApartSpec) :=
  OpenClaim.holds_of_wide 10 Try.f10 rfl rfl rfl rfl rfl rfl rfl ⟨rfl, rfl, rfl, rfl, rfl⟩ rfl rfl rfl rfl rfl (by kernel_rfl) Try.func10 (by kernel_rfl)
    (of_decide_eq_true (by kernel_rfl)) (by unfold Func.isWrapper; first | (rw [if_pos (by decide +kernel)]; kernel_rfl) | (rw [if_neg (by decide +kernel)]; exact ⟨rfl, rfl⟩))
    (fun os started H enc _ => fa_lifted os started H enc)

/-- ████ THE STATEMENT ████ -/
theorem formsApart_holds : Rows.FormsApartSaid :=
  fa_over
#print axioms formsApart_holds

end Go.Proofs.Ytgiiapenmjollaa
