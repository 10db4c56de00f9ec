/-
  WireGets: for every bytes the program tells the file that they are, or that they are none. Its condition: that of the second form (what comes in is of bulk at most 1,048,576).
-/
import Derived.Test.YtgiiapenmjollabMLWireGuD
import Derived.Test.YtgiiapenmjollabMLWireSameF
import Derived.Test.YtgiiapenmjollabRows
import Derived.ProofKit
import Derived.Carry
import Derived.OpenShut
import Derived.ReadAgain
import Derived.JoinedCond
import Derived.ChangeSlices
namespace Go.Proofs.Ytgiiapenmjollab
open Go.ChangeShapes Go.WideShapes Go.ChangeAt Go.RowKit Go.Deep
set_option linter.unusedVariables false
set_option linter.unusedSimpArgs false

theorem wg_own : ownKnob Try.prog.godebug = none := by kernel_rfl
theorem wg_laidOut : laidOutB Try.prog = true := by kernel_rfl
theorem wg_cells : Try.prog.cellsOf 5 = 1 := by kernel_rfl
theorem wg_one {H : Type} (d : DataW H) : 1 ≤ Rows.uptoBulk d := by
  cases d with
  | lit l => cases l <;> simp [Rows.uptoBulk]
  | nil => simp [Rows.uptoBulk]
  | ptr d => simp [Rows.uptoBulk]
  | slice elems spare => simp [Rows.uptoBulk]
  | agg parts => simp [Rows.uptoBulk]
  | iface t d => simp [Rows.uptoBulk]
  | map entries => simp [Rows.uptoBulk]
  | held h => simp [Rows.uptoBulk]
theorem wg_len {H : Type} (l : List (DataW H)) : l.length ≤ Rows.uptoBulkAll l := by
  induction l with
  | nil => simp [Rows.uptoBulkAll]
  | cons x r ih => have := wg_one x; simp only [Rows.uptoBulkAll, List.length_cons]; omega
section
variable {H : Type} {enc : TypeId × Value → H} {w : World} {base : Nat} {spare : Nat → Bool} {held : Bool}
theorem open_bytes {fuel : Nat} {cs : List Value} {x : DataW H × List MemPlace} (h : DataW.trod enc Try.prog w base spare held fuel 26 cs = some x) :
    ∃ (A : Option Addr) (l : List Int) (c : Nat), cs = [.slice A l.length c] ∧ BysAt w A l ∧ Bys l ∧ l.length ≤ c ∧ c ≤ maxLen ∧ l.length ≤ Rows.uptoBulk x.1 := by
  rcases open_ints Try.underlying26 Try.underlying5 wg_cells h with ⟨rfl, rfl⟩ | ⟨a, len, cap, zs, rfl, hb, hl, hm, hz, rfl, hcell, hwz⟩
  · exact ⟨none, [], 0, rfl, Or.inl rfl, fun x hx => (by cases hx), by simp, Nat.zero_le _, Nat.zero_le _⟩
  · have hlz : len ≤ zs.length := by rw [hz]; split <;> omega
    have hlen : (zs.take len).length = len := by rw [List.length_take]; omega
    refine ⟨some a, zs.take len, cap, by rw [hlen], ?_, fun x hx => ?_, by omega, hm, ?_⟩
    · by_cases h0 : len = 0
      · exact Or.inl (by omega)
      · obtain ⟨b, off, spot⟩ := a
        have hspot : spot = none := by
          have g := hcell 0 (by omega)
          simpa [Addr.add] using World.cell?_spot g
        subst hspot
        refine Or.inr ⟨b, off, rfl, fun i hi => ?_⟩
        rw [hlen] at hi
        have g := hcell i (by omega)
        rw [add_plain] at g
        rw [g, nth_get (by omega), List.getElem_take]
        congr 2
        rw [List.getD_eq_getElem?_getD, List.getElem?_eq_getElem (by omega)]
        rfl
    · have := hwz x (List.mem_of_mem_take hx)
      simp [Lit.wf, IntKind.min, IntKind.max, IntKind.bits, IntKind.signed] at this
      unfold BY
      omega
    · have h1 := wg_len (H := H) (lits .u8 (zs.take len))
      simp only [Rows.uptoBulk]
      have h2 : (lits (H := H) .u8 (zs.take len)).length = len := by simp only [lits, List.length_map]; exact hlen
      omega
end
theorem wg_nil (w : World) : ClsAt w none ([] : List Cl) ∧ MesAt w none ([] : List Me) := ⟨⟨Nat.zero_le _, Or.inl rfl⟩, ⟨Nat.zero_le _, Or.inl rfl⟩⟩
set_option maxRecDepth 100000 in
set_option maxHeartbeats 8000000 in
theorem wg_walk (D : Option Addr) (c : Nat) (l : List Int) (w : World) (hD : BysAt w D l) (hy : Bys l) (hc : l.length ≤ c) (hm : c ≤ maxLen) (hB : l.length ≤ 1048576) :
    Calls Try.prog 4 #[.slice D l.length c] w fun e w' => e = .returned (.bool true) ∧ Bl w w' := by
  have HD := hidW hD
  have HY := hidW hy
  have HM := hidW hm
  clear hD hy hm
  have key : (∃ f : Fi, f.nums ∧ putP f = some l) ∨ ∀ f : Fi, f.nums → putP f ≠ some l := by
    by_cases h : ∃ f : Fi, f.nums ∧ putP f = some l
    · exact Or.inl h
    · exact Or.inr fun f hn hp => h ⟨f, hn, hp⟩
  rcases key with ⟨f, hn, hp⟩ | hno
  · have HP := hidW hp
    have HN := hidW hn
    clear hn hp
    go_enter Try.func4, Try.ntmps4
    go_wp2_with (first
      | (go_at_call 9; refine (get_any D c l _ HD.out HY.out hc HM.out).mono ?_; rintro e w1 ⟨g1, q1⟩; obtain ⟨A1, B1, a1, b1, rfl, ca, cb⟩ : ∃ A B a b, e = .returned (.tuple #[fiV f.classes.length f.methods.length A B a b, .int .i64 0]) ∧ ClsAt w1 A f.classes ∧ MesAt w1 B f.methods := (by rcases q1 with ⟨g, A, B, a, b, h1, h2, h3, h4, h5⟩ | ⟨h1, _⟩; (obtain rfl := putP_one h1 HP.out h2 HN.out; exact ⟨A, B, a, b, h3, h4, h5⟩); exact absurd HP.out (h1 f HN.out)); have G1 := hidW (g1.alloc (fiO f.classes.length f.methods.length A1 B1 a1 b1)); have CA := hidW ca; have CB := hidW cb; have BX := hidW (FiBox.new w1 f.classes.length f.methods.length A1 B1 a1 b1); clear g1 q1 ca cb)
      | (go_at_call 10; refine (dget_any D c l _ (HD.out.bl G1.out) HY.out hB).mono ?_; rintro e w2 ⟨g2, q2⟩; obtain ⟨A2, B2, a2, b2, rfl, da, db⟩ : ∃ A B a b, e = .returned (.tuple #[fiV f.classes.length f.methods.length A B a b, .int .i64 0]) ∧ ClsAt w2 A f.classes ∧ MesAt w2 B f.methods := (by rcases q2 with ⟨g, A, B, a, b, h1, h2, h3, h4, h5⟩ | ⟨h1, _⟩; (obtain rfl := putP_one h1 HP.out h2 HN.out; exact ⟨A, B, a, b, h3, h4, h5⟩); exact absurd HP.out (h1 f HN.out)); have G2 := hidW (g2.alloc (fiO f.classes.length f.methods.length A2 B2 a2 b2)); have B1A := hidW ((CA.out.bl ((Bl.refl w1).alloc (fiO f.classes.length f.methods.length A1 B1 a1 b1))).bl (g2.alloc (fiO f.classes.length f.methods.length A2 B2 a2 b2))); have B1B := hidW ((CB.out.bl ((Bl.refl w1).alloc (fiO f.classes.length f.methods.length A1 B1 a1 b1))).bl (g2.alloc (fiO f.classes.length f.methods.length A2 B2 a2 b2))); have B2A := hidW (da.bl ((Bl.refl w2).alloc (fiO f.classes.length f.methods.length A2 B2 a2 b2))); have B2B := hidW (db.bl ((Bl.refl w2).alloc (fiO f.classes.length f.methods.length A2 B2 a2 b2))); obtain ⟨u0, u1⟩ := BX.out.bl (g2.alloc (fiO f.classes.length f.methods.length A2 B2 a2 b2)); obtain ⟨u2, u3⟩ := FiBox.new w2 f.classes.length f.methods.length A2 B2 a2 b2; simp only [Nat.zero_add] at u1 u3; clear g2 q2 da db)
      | (go_at_call 11; refine (same_any f _ _ _ _ _ _ _ _ _ B1A.out B1B.out B2A.out B2B.out).mono ?_; rintro e w5 ⟨rfl, g5⟩))
    go_ret
    exact ⟨rfl, (G1.out.trans G2.out).trans g5⟩
  · have HNO := hidW hno
    clear hno
    go_enter Try.func4, Try.ntmps4
    go_wp2_with (first
      | (go_at_call 9; refine (get_any D c l _ HD.out HY.out hc HM.out).mono ?_; rintro e w1 ⟨g1, q1⟩; obtain rfl : e = .returned (.tuple #[fiV 0 0 none none 0 0, .int .i64 2]) := (by rcases q1 with ⟨g, A, B, a, b, h1, h2, _⟩ | ⟨_, h2⟩; exact absurd h1 (HNO.out g h2); exact h2); have G1 := hidW (g1.alloc (fiO 0 0 none none 0 0)); have BX := hidW (FiBox.new w1 0 0 none none 0 0); clear g1 q1)
      | (go_at_call 10; refine (dget_any D c l _ (HD.out.bl G1.out) HY.out hB).mono ?_; rintro e w2 ⟨g2, q2⟩; obtain rfl : e = .returned (.tuple #[fiV 0 0 none none 0 0, .int .i64 2]) := (by rcases q2 with ⟨g, A, B, a, b, h1, h2, _⟩ | ⟨_, h2⟩; exact absurd h1 (HNO.out g h2); exact h2); have G2 := hidW (g2.alloc (fiO 0 0 none none 0 0)); obtain ⟨u0, u1⟩ := BX.out.bl (g2.alloc (fiO 0 0 none none 0 0)); obtain ⟨u2, u3⟩ := FiBox.new w2 0 0 none none 0 0; simp only [Nat.zero_add] at u1 u3; clear g2 q2)
      | (go_at_call 11; refine (same_any ⟨[], []⟩ none none none none 0 0 0 0 _ (wg_nil _).1 (wg_nil _).2 (wg_nil _).1 (wg_nil _).2).mono ?_; rintro e w5 ⟨rfl, g5⟩))
    go_ret
    exact ⟨rfl, (G1.out.trans G2.out).trans g5⟩

set_option maxRecDepth 100000 in
theorem wg_lifted (os : Os) (started : os.Started) (H : Type) (enc : TypeId × Value → H) (F : Stop.Interp) :
    ReturnsInHanded {} Try.checked os 4 .any ((Rows.OpenSpec.upto Rows.wireGetsSpec).pre6 enc Try.prog Try.f4 Rows.wireGetsUptoRow.domain false) (((Rows.OpenSpec.upto Rows.wireGetsSpec).at F).post enc Try.prog Try.f4 false true false false) := by
  refine returnsInHanded_of_cond (C := Try.checked) (s := Rows.OpenSpec.upto Rows.wireGetsSpec) (k := Rows.uptoSmall) rfl wg_own started (by kernel_rfl) Try.func4
    (OpenSpec.witness (enc := enc) (C := Try.checked) (s := Rows.OpenSpec.upto Rows.wireGetsSpec) (k := Rows.uptoSmall) rfl false ⟨#[], #[.slice none 0 0], []⟩ 8 (by kernel_rfl) (by kernel_rfl) (by kernel_rfl)
      (x := ([.nil], [], [])) (by kernel_rfl) rfl (by kernel_rfl)) ?_
  intro W base args ds gs before hval0 hW _ hk _
  have hval : ∀ (j : Nat) t v, Try.f4.params[j]? = some t → args[j]? = some v → Value.okWide Try.prog W .any base t v := hval0
  have hW' := hW
  obtain ⟨p, q, hA0, hV, rfl, hfz, hnd⟩ := hW
  have hA : DataW.TrodAll enc Try.prog W 0 (fun _ => true) true Try.f4.params.toList args.toList ds p := hA0
  rw [Try.params4] at hA hval
  obtain ⟨v0, vs0, d0, ds0, p0, q0, hargs, rfl, rfl, h0, r0⟩ := trodAll_cons hA
  obtain ⟨rfl, rfl, rfl⟩ := trodAll_nil r0
  obtain rfl : args = #[v0] := by cases args; simp_all
  obtain ⟨rfl, rfl⟩ := trodVars_none hV
  obtain ⟨A0, n0, c0, rfl⟩ := okWide_slice Try.underlying26 (hval 0 26 v0 rfl rfl)
  have h0k := h0
  obtain ⟨fuel, hf⟩ := h0
  obtain ⟨A, l, c, hcs, hD, hy, hc, hm, hbk⟩ := open_bytes hf
  clear hA0 hval0
  simp only [List.append_nil] at hW' hk
  simp [Value.cells] at hcs
  obtain ⟨rfl, rfl, rfl⟩ := hcs
  have hB : l.length ≤ 1048576 := by
    have h : Rows.uptoBulkAll [d0] ≤ 1048576 := of_decide_eq_true hk
    simp only [Rows.uptoBulkAll] at h
    have hbk' : l.length ≤ Rows.uptoBulk d0 := hbk
    omega
  have hlt : ∀ x ∈ p0, x.block < W.heap.size := fun x hx => by simpa using hW'.lt x hx
  refine (wg_walk A0 c0 l W hD hy hc hm hB).mono fun e W' ⟨he, hbl⟩ => ?_
  subst he
  refine ⟨_, rfl, _, _, _, [], p0, [], hW', trodAll_cons_mk (shut_bool Try.underlying4 _) trodAll_mk0, ?_, rfl, Below.frame hbl _, fun h => by cases h⟩
  have harg : DataW.Trod enc Try.prog W' 0 (fun b => decide (b < W.heap.size)) true 26 (.slice A0 l.length c0) d0 p0 :=
    Below.trod wg_laidOut (by kernel_rfl) (of_decide_eq_true (by kernel_rfl)) h0k hbl hlt
  have hall := trodAll_cons_mk harg trodAll_mk0
  simp only [List.append_nil] at hall
  exact hall

/-- ████ THE STATEMENT ████ -/
theorem wireGetsUpto_holds : Rows.WireGetsUptoSaid :=
  OpenClaim.holds_of_cond 4 Try.f4 rfl rfl rfl rfl rfl rfl rfl ⟨rfl, rfl, rfl, rfl, rfl⟩ rfl rfl rfl rfl rfl (by kernel_rfl) Try.func4 (by kernel_rfl)
    (of_decide_eq_true (by kernel_rfl)) (by unfold Func.isWrapper; first | (rw [if_pos (by decide +kernel)]; kernel_rfl) | (rw [if_neg (by decide +kernel)]; exact ⟨rfl, rfl⟩))
    (fun os started H enc _ F => wg_lifted os started H enc F)
#print axioms wireGetsUpto_holds

end Go.Proofs.Ytgiiapenmjollab
