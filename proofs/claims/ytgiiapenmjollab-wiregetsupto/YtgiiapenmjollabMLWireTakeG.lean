/-
  An instruction is taken.
-/
import Derived.Test.YtgiiapenmjollabMLWireTakeD
namespace Go.Proofs.Ytgiiapenmjollab
open Go.RowKit
set_option maxRecDepth 100000
set_option linter.unusedVariables false
set_option linter.unusedSimpArgs false

theorem info_in : (Try.prog.info? 53).map (·.size) = some 6 := by kernel_rfl
theorem pIn_row (d : Bd) (l : List Int) : pIn d l = (pMany pN 4 l).bind fun y => (pN y.2).bind fun n => (pL d.gs pN n.2).bind fun g => some (⟨nth (0 : Int) y.1 0, nth (0 : Int) y.1 1, nth (0 : Int) y.1 2, nth (0 : Int) y.1 3, n.1, g.1⟩, g.2) := by
  unfold pIn pMany pMany pMany pMany pMany
  cases pN l with
  | none => rfl
  | some a => cases h : pN a.2 with
    | none => simp [h]
    | some b => cases h2 : pN b.2 with
      | none => simp [h, h2]
      | some c => cases h3 : pN c.2 with
        | none => simp [h, h2, h3]
        | some d => simp [h, h2, h3, nth]
theorem many_i64 : ∀ (k : Nat) (l xs r : List Int), pMany pN k l = some (xs, r) → ∀ i, I64 (nth (0 : Int) xs i) := by
  intro k
  induction k with
  | zero =>
    intro l xs r h i
    simp only [pMany, Option.some.injEq, Prod.mk.injEq] at h
    rw [← h.1]
    unfold nth I64
    simp
  | succ k ih =>
    intro l xs r h i
    unfold pMany at h
    obtain ⟨a, h1, h⟩ := bind_some_of h
    obtain ⟨b, h2, h⟩ := bind_some_of h
    simp only [Option.some.injEq, Prod.mk.injEq] at h
    rw [← h.1]
    cases i with
    | zero => exact pN_i64 (x := a.1) (r := a.2) h1
    | succ i => exact ih a.2 b.1 b.2 h2 i
def InsQ (W0 w : World) (p : Nat) (l : List Int) (e : Ending) (w' : World) : Prop :=
  Kp (OneB p) w w' ∧ ((pIn bdP l = none ∧ e = noE) ∨ ∃ x r A c, pIn bdP l = some (x, r) ∧ e = .returned (.agg #[.int .i64 x.op, .int .i64 x.a, .int .i64 x.b, .int .i64 x.c, .int .i64 x.n, .slice A x.args.length c]) ∧ x.ok ∧ IntsAt (er (oldB w.heap.size) w') A x.args ∧ RdW W0 w' p r)
abbrev tinZ : Obj := .cells #[.int .i64 0, .int .i64 0, .int .i64 0, .int .i64 0, .int .i64 0, .slice none 0 0] 53
abbrev a4Z : Obj := .cells #[.int .i64 0, .int .i64 0, .int .i64 0, .int .i64 0] 130
abbrev tinV (xs : List Int) : Obj := .cells #[.int .i64 (nth (0 : Int) xs 0), .int .i64 (nth (0 : Int) xs 1), .int .i64 (nth (0 : Int) xs 2), .int .i64 (nth (0 : Int) xs 3), .int .i64 0, .slice none 0 0] 53
set_option maxHeartbeats 8000000 in
theorem takeIns_any (W0 w : World) (p : Nat) (l : List Int) (h : RdW W0 w p l) (hy : Bys l) :
    Calls Try.prog 81 #[.pointer (some ⟨p, 0, none⟩)] w (InsQ W0 w p l) := by
  have hpl := h.lt
  have hW := h.bl.size
  have HR := hidW ((h.alloc tinZ).alloc a4Z)
  have HY := hidW hy
  have HK := hidW (((Kp.refl (NB p w.heap.size) w).alloc tinZ).alloc a4Z)
  have HE := hidW ((Below.heap_alloc (w.alloc tinZ) a4Z w.heap.size (by simp)).trans (heap_alloc_new w _))
  have HA := hidW (arr_new (w.alloc tinZ) 4 #[.int .i64 0, .int .i64 0, .int .i64 0, .int .i64 0] 130 rfl (q := w.heap.size + 1) (by simp))
  clear h hy
  cases hm : pMany pN 4 l with
  | none =>
    have HM := hidW hm
    have HL := hidW (show pIn bdP l = none by rw [pIn_row, hm]; rfl)
    clear hm
    go_enter Try.func81, Try.ntmps81
    go_wp2_with (go_at_call 79; refine (takeRow_no HR.out HY.out HA.out (by omega) (by omega) (by omega) HM.out).mono ?_; rintro e w2 ⟨rfl, k2⟩)
    exact ⟨rfl, (HK.out.trans (k2.two (by omega))).nb, Or.inl ⟨HL.out, rfl⟩⟩
  | some y =>
    obtain ⟨xs, l1⟩ := y
    have HM := hidW hm
    have HY1 := hidW (many_keeps pN_snd.keeps 4 l xs l1 HY.out hm)
    have HX := hidW (many_i64 4 l xs l1 hm)
    cases hp : pN l1 with
    | none =>
      have HP := hidW hp
      have HL := hidW (show pIn bdP l = none by rw [pIn_row, hm, Option.bind_some]; show (pN l1).bind _ = _; rw [hp]; rfl)
      clear hm hp
      go_enter Try.func81, Try.ntmps81
      go_wp2_with (first
        | (go_at_call 79; refine (takeRow_yes HR.out HY.out HA.out (by omega) (by omega) (by omega) HM.out).mono ?_; rintro e w1 ⟨rfl, r1, a1, k1⟩; have c0 := a1.cell 0 (by omega); have c1 := a1.cell 1 (by omega); have c2 := a1.cell 2 (by omega); have c3 := a1.cell 3 (by omega); have R1 := hidW r1; have K1 := hidW (HK.out.trans (k1.two (n := w.heap.size) (by omega))); clear r1 a1 k1)
        | (go_at_call 74; refine (takeNum64_no (R1.out.alloc (tinV xs)) HY1.out HP.out).mono ?_; rintro e w2 ⟨rfl, k2⟩))
      exact ⟨rfl, ((K1.out.alloc _).trans k2.one).nb, Or.inl ⟨HL.out, rfl⟩⟩
    | some y =>
      obtain ⟨n, l2⟩ := y
      have HP := hidW hp
      have HN := hidW (pN_i64 hp)
      have HY2 := hidW (pN_snd.keeps l1 n l2 HY1.out hp)
      cases hq : pL 4 pN l2 with
      | none =>
        have HQ := hidW hq
        have HL := hidW (show pIn bdP l = none by rw [pIn_row, hm, Option.bind_some]; show (pN l1).bind _ = _; rw [hp, Option.bind_some]; show (pL 4 pN l2).bind _ = _; rw [hq]; rfl)
        clear hm hp hq
        go_enter Try.func81, Try.ntmps81
        go_wp2_with (first
          | (go_at_call 79; refine (takeRow_yes HR.out HY.out HA.out (by omega) (by omega) (by omega) HM.out).mono ?_; rintro e w1 ⟨rfl, r1, a1, k1⟩; have c0 := a1.cell 0 (by omega); have c1 := a1.cell 1 (by omega); have c2 := a1.cell 2 (by omega); have c3 := a1.cell 3 (by omega); have R1 := hidW r1; have K1 := hidW (HK.out.trans (k1.two (n := w.heap.size) (by omega))); have V0 := hidW (heap_alloc_new w1 (tinV xs)); have hs1 := K1.out.size; clear r1 a1 k1)
          | (go_at_call 74; refine (takeNum64_yes (R1.out.alloc (tinV xs)) HY1.out HP.out).mono ?_; rintro e w2 ⟨rfl, r2, k2⟩; have v2 := (k2.block w1.heap.size (by simp) (fun e2 => by unfold OneB at e2; omega)).trans V0.out; have d4 := blk_cell v2 4 rfl; have z4 := blk_free v2 4; have R2 := hidW r2; have K2 := hidW ((K1.out.alloc (tinV xs)).trans k2.one); clear r2 k2 v2)
          | (go_at_call 96; refine (takeInts_no (M := 4) (by omega) (R2.out.set (k := w1.heap.size) (o := 4) (by omega) (by omega) _) HY2.out HQ.out).mono ?_; rintro e w3 ⟨rfl, k3⟩))
        exact ⟨rfl, ((K2.out.set (p := ⟨w1.heap.size, 4, none⟩) (Or.inr (by simp; omega)) _).trans k3.one).nb, Or.inl ⟨HL.out, rfl⟩⟩
      | some y =>
        obtain ⟨gs, r⟩ := y
        have HQ := hidW hq
        have HL := hidW (show pIn bdP l = some (⟨nth (0 : Int) xs 0, nth (0 : Int) xs 1, nth (0 : Int) xs 2, nth (0 : Int) xs 3, n, gs⟩, r) by rw [pIn_row, hm, Option.bind_some]; show (pN l1).bind _ = _; rw [hp, Option.bind_some]; show (pL 4 pN l2).bind _ = _; rw [hq]; rfl)
        clear hm hp hq
        go_enter Try.func81, Try.ntmps81
        go_wp2_with (first
          | (go_at_call 79; refine (takeRow_yes HR.out HY.out HA.out (by omega) (by omega) (by omega) HM.out).mono ?_; rintro e w1 ⟨rfl, r1, a1, k1⟩; have c0 := a1.cell 0 (by omega); have c1 := a1.cell 1 (by omega); have c2 := a1.cell 2 (by omega); have c3 := a1.cell 3 (by omega); have b1 := (k1.block w.heap.size (by simp; omega) (fun e2 => by rcases e2 with e2 | e2 <;> omega)).trans HE.out; have R1 := hidW r1; have K1 := hidW (HK.out.trans (k1.two (n := w.heap.size) (by omega))); have B1 := hidW b1; have hb1 := lt_of_blk b1; have V0 := hidW (heap_alloc_new w1 (tinV xs)); clear r1 a1 k1 b1)
          | (go_at_call 74; refine (takeNum64_yes (R1.out.alloc (tinV xs)) HY1.out HP.out).mono ?_; rintro e w2 ⟨rfl, r2, k2⟩; have v2 := (k2.block w1.heap.size (by simp) (fun e2 => by have := R1.out.lt; unfold OneB at e2; omega)).trans V0.out; have b2 := (k2.block w.heap.size (by simp; omega) (fun e2 => by unfold OneB at e2; omega)).trans ((Below.heap_alloc _ _ _ hb1).trans B1.out); have d4 := blk_cell v2 4 rfl; have z4 := blk_free v2 4; have R2 := hidW r2; have K2 := hidW ((K1.out.alloc (tinV xs)).trans k2.one); have V2 := hidW v2; have B2 := hidW b2; have hv2 := lt_of_blk v2; clear r2 k2 v2 b2)
          | (go_at_call 96; refine (takeInts_yes (M := 4) (by omega) (R2.out.set (k := w1.heap.size) (o := 4) (by have := R1.out.lt; omega) (by omega) _) HY2.out HQ.out).mono ?_; rintro e w3 ⟨A, c, rfl, t3, r3, k3⟩; have v3 := (k3.block w1.heap.size (by simp; omega) (fun e2 => by have := R1.out.lt; unfold OneB at e2; omega)).trans (set_block V2.out 4 (.int .i64 n)); have b3 := (k3.block w.heap.size (by simp; omega) (fun e2 => by unfold OneB at e2; omega)).trans ((Below.heap_setCell _ _ _ _ (by simp; omega)).trans B2.out); have e0 := blk_cell v3 0 rfl; have e1 := blk_cell v3 1 rfl; have e2 := blk_cell v3 2 rfl; have e3 := blk_cell v3 3 rfl; have e4 := blk_cell v3 4 rfl; have e5 := blk_cell v3 5 rfl; have z5 := blk_free v3 5; have f0 := blk_cell b3 0 rfl; have f1 := blk_cell b3 1 rfl; have f2 := blk_cell b3 2 rfl; have f3 := blk_cell b3 3 rfl; have f4 := blk_cell b3 4 rfl; have f5 := blk_cell b3 5 rfl; have y0 := blk_free b3 0; have y1 := blk_free b3 1; have y2 := blk_free b3 2; have y3 := blk_free b3 3; have y4 := blk_free b3 4; have y5 := blk_free b3 5; have T3 := hidW t3; have R3 := hidW r3; have K3 := hidW ((K2.out.set (p := ⟨w1.heap.size, 4, none⟩) (Or.inr (by simp; omega)) (.int .i64 n)).trans k3.one); have V3 := hidW v3; have B3 := hidW b3; clear t3 r3 k3 v3 b3))
        have hne : w.heap.size ≠ w1.heap.size := by omega
        refine bodyPost_ret (results_cell_row rfl _ _ w.heap.size _ _ _ _ rfl (set_block (set_block (set_block (set_block (set_block (set_block ((Below.heap_setCell _ _ _ _ (by simpa using hne)).trans B3.out) 0 (.int .i64 (nth (0 : Int) xs 0))) 1 (.int .i64 (nth (0 : Int) xs 1))) 2 (.int .i64 (nth (0 : Int) xs 2))) 3 (.int .i64 (nth (0 : Int) xs 3))) 4 (.int .i64 n)) 5 (.slice A gs.length c)) Try.underlying53 rfl info_in) rfl ?_
        refine ⟨(((((((K3.out.set (p := ⟨w1.heap.size, 5, none⟩) (Or.inr (by simp; omega)) _).set (p := ⟨w.heap.size, 0, none⟩) (Or.inr (by simp)) _).set (p := ⟨w.heap.size, 1, none⟩) (Or.inr (by simp)) _).set (p := ⟨w.heap.size, 2, none⟩) (Or.inr (by simp)) _).set (p := ⟨w.heap.size, 3, none⟩) (Or.inr (by simp)) _).set (p := ⟨w.heap.size, 4, none⟩) (Or.inr (by simp)) _).set (p := ⟨w.heap.size, 5, none⟩) (Or.inr (by simp)) _).nb, Or.inr ⟨_, r, A, c, HL.out, rfl, ⟨HX.out 0, HX.out 1, HX.out 2, HX.out 3, HN.out⟩, ?_, (((((((R3.out.set (k := w1.heap.size) (o := 5) (by have := R1.out.lt; omega) (by omega) _).set (k := w.heap.size) (o := 0) (by omega) (by omega) _).set (k := w.heap.size) (o := 1) (by omega) (by omega) _).set (k := w.heap.size) (o := 2) (by omega) (by omega) _).set (k := w.heap.size) (o := 3) (by omega) (by omega) _).set (k := w.heap.size) (o := 4) (by omega) (by omega) _).set (k := w.heap.size) (o := 5) (by omega) (by omega) _)⟩⟩
        have hN1 : w1.heap.size < (w2.setCell ⟨w1.heap.size, 4, none⟩ (.int .i64 n)).heap.size := by rw [World.size_setCell]; exact hv2
        exact T3.out.sub (((((((er_set hN1 (Nat.le_refl _)).trans (er_set (show w.heap.size < _ by omega) (Nat.le_refl _))).trans (er_set (show w.heap.size < _ by omega) (Nat.le_refl _))).trans (er_set (show w.heap.size < _ by omega) (Nat.le_refl _))).trans (er_set (show w.heap.size < _ by omega) (Nat.le_refl _))).trans (er_set (show w.heap.size < _ by omega) (Nat.le_refl _))).trans (er_set (show w.heap.size < _ by omega) (by omega)))

end Go.Proofs.Ytgiiapenmjollab
namespace Go.Proofs.Ytgiiapenmjollab
open Go.RowKit
set_option maxRecDepth 100000
set_option linter.unusedVariables false
set_option linter.unusedSimpArgs false

theorem takeIns_no {W0 w : World} {p : Nat} {l : List Int} (h : RdW W0 w p l) (hy : Bys l) (hn : pIn bdP l = none) : Calls Try.prog 81 #[.pointer (some ⟨p, 0, none⟩)] w fun e w' => e = noE ∧ Kp (OneB p) w w' :=
  (takeIns_any W0 w p l h hy).mono fun e w' ⟨k, q⟩ => by
    rcases q with ⟨_, h1⟩ | ⟨t, r, A, c, h1, _⟩
    · exact ⟨h1, k⟩
    · rw [hn] at h1; cases h1
theorem takeIns_yes {W0 w : World} {p : Nat} {l : List Int} (h : RdW W0 w p l) (hy : Bys l) {x : In} {r : List Int} (hn : pIn bdP l = some (x, r)) : Calls Try.prog 81 #[.pointer (some ⟨p, 0, none⟩)] w fun e w' => ∃ A c, e = .returned (.agg #[.int .i64 x.op, .int .i64 x.a, .int .i64 x.b, .int .i64 x.c, .int .i64 x.n, .slice A x.args.length c]) ∧ (x.ok ∧ IntsAt (er (oldB w.heap.size) w') A x.args) ∧ RdW W0 w' p r ∧ Kp (OneB p) w w' :=
  (takeIns_any W0 w p l h hy).mono fun e w' ⟨k, q⟩ => by
    rcases q with ⟨h1, _⟩ | ⟨t, r', A, c, h1, h2, h3, h4, h5⟩
    · rw [hn] at h1; cases h1
    · rw [hn] at h1
      simp only [Option.some.injEq, Prod.mk.injEq] at h1
      obtain ⟨rfl, rfl⟩ := h1
      exact ⟨A, c, h2, ⟨h3, h4⟩, h5, k⟩

def ItIn (w : World) (t : In) (cs : List Value) : Prop := ∃ A c, cs = [.int .i64 t.op, .int .i64 t.a, .int .i64 t.b, .int .i64 t.c, .int .i64 t.n, .slice A t.args.length c] ∧ t.ok ∧ IntsAt w A t.args
theorem ItIn.st : ∀ w w' x cs, Sub w w' → ItIn w x cs → ItIn w' x cs := fun _ _ _ _ hs ⟨A, c, h1, h2, h3⟩ => ⟨A, c, h1, h2, h3.sub hs⟩
theorem LW.ins {e : TypeId} {N : Nat} {w : World} {v : Value} {xs : List In} (h : LW in0 ItIn 6 e N w v xs) (hl : xs.length ≤ maxLen) : ∃ A c, v = .slice A xs.length c ∧ InsAt (er (oldB N) w) A xs := by
  obtain ⟨A, c, hv, h1⟩ := h.lies ItIn.st
  refine ⟨A, c, hv, hl, ?_⟩
  rcases h1 with h0 | ⟨g, hA, hi⟩
  · exact Or.inl h0
  refine Or.inr ⟨g, 0, hA, fun i hi' => ?_⟩
  obtain ⟨ci, ⟨A', c', rfl, i1, i2⟩, hc⟩ := hi i hi'
  exact ⟨hc 0 _ (by omega) rfl, hc 1 _ (by omega) rfl, hc 2 _ (by omega) rfl, hc 3 _ (by omega) rfl, hc 4 _ (by omega) rfl, i1, A', c', hc 5 _ (by omega) rfl, i2⟩

theorem info_takeCode : ∃ i, Try.prog.info? 53 = some i ∧ i.zero = some (.agg #[.int .i64 0, .int .i64 0, .int .i64 0, .int .i64 0, .int .i64 0, .slice none 0 0]) ∧ i.size = 6 ∧ i.bytes = 64 := info_partsW (by kernel_rfl)
def takeCodeQ (M : Int) (W0 w : World) (p : Nat) (l : List Int) (e : Ending) (w' : World) : Prop :=
  Kp (OneB p) w w' ∧ ((pL M (pIn bdP) l = none ∧ e = noE) ∨ ∃ xs r A c, pL M (pIn bdP) l = some (xs, r) ∧ e = .returned (.slice A xs.length c) ∧ InsAt (er (oldB w.heap.size) w') A xs ∧ RdW W0 w' p r)
set_option maxHeartbeats 8000000 in
theorem takeCode_any (M : Int) (hM : M ≤ 2400) (W0 w : World) (p : Nat) (l : List Int) (h : RdW W0 w p l) (hy : Bys l) :
    Calls Try.prog 80 #[.pointer (some ⟨p, 0, none⟩), .int .i64 M, .func (.func 81) #[] #[]] w (takeCodeQ M W0 w p l) := by
  have hpl := h.lt
  have HR := hidW h
  have HY := hidW hy
  clear h hy
  obtain ⟨j0, hi0, hz0, hz1, hz2⟩ := info_takeCode
  cases hp : pN l with
  | none =>
    have HP := hidW hp
    have HL := hidW (show pL M (pIn bdP) l = none by unfold pL; rw [hp]; rfl)
    clear hp
    go_enter Try.func80, Try.ntmps80
    go_wp2_with (go_at_call 74; refine (takeNum64_no HR.out HY.out HP.out).mono ?_; rintro e w1 ⟨rfl, k1⟩)
    exact ⟨rfl, k1, Or.inl ⟨HL.out, rfl⟩⟩
  | some y =>
    obtain ⟨n, l1⟩ := y
    have HP := hidW hp
    have hn64 := pN_i64 hp
    unfold I64 at hn64
    have HB1 := hidW (pN_snd.keeps l n l1 HY.out hp)
    by_cases hb : 0 ≤ n ∧ n ≤ M
    · have HL := hidW (show pL M (pIn bdP) l = pMany (pIn bdP) n.toNat l1 by unfold pL; rw [hp, Option.bind_some]; simp only; rw [if_pos hb])
      clear hp
      obtain ⟨m, rfl⟩ : ∃ m : Nat, n = (m : Int) := ⟨n.toNat, by omega⟩
      have hm : m ≤ 2400 := by omega
      rw [show ((m : Int)).toNat = m by omega] at HL
      have hbd : decide ((0 : Int) ≤ (m : Int) ∧ (m : Int) ≤ M) = true := decide_eq_true (by omega)
      clear hb hn64
      go_enter Try.func80, Try.ntmps80
      go_wp2_with (first
        | (go_at_call 74; refine (takeNum64_yes HR.out HY.out HP.out).mono ?_; rintro e w1 ⟨rfl, r1, k1⟩; have R1 := hidW r1; have K1 := hidW k1; clear r1 k1)
        | (go_at_call 75; refine (span64_any _ _ _ _).mono ?_; rintro e w2 ⟨he, hw⟩; rw [hbd] at he; subst he; rw [hw]; clear hw w2))
      clear hbd
      go_loopw [8, 17] (fun v i wr => ∃ (k : Nat) (xs : List In) (r : List Int), k ≤ m ∧ i = .int .i64 (k : Int) ∧ pMany (pIn bdP) k l1 = some (xs, r) ∧ RdW W0 wr p r ∧ LW in0 ItIn 6 53 w.heap.size wr v xs ∧ Kp (NB p w.heap.size) w wr) (fun _ i _ => m - (intOf i).toNat)
      case atStart => exact ⟨0, [], l1, by omega, rfl, rfl, R1.out, LW.nil _ _ _ _ _ _, K1.out.one⟩
      case round =>
        obtain ⟨k, xs, r, hk, rfl, h1, h2, h3, h4⟩ := hrel
        have H1 := hidW h1
        have H2 := hidW h2
        have H3 := hidW h3
        have H4 := hidW h4
        have hxl := many_len _ _ _ _ h1
        have hws := h4.size
        clear h1 h2 h3 h4
        have HB := hidW (many_keeps ((pIn_snd bdP).keeps) k l1 xs r HB1.out H1.out)
        by_cases hlt : k < m
        · cases hp : (pIn bdP) r with
          | none =>
            have HPX := hidW hp
            clear hp
            go_wp2_with (go_at_call 81; refine (takeIns_no H2.out HB.out HPX.out).mono ?_; rintro e w2 ⟨rfl, k2⟩)
            exact ⟨rfl, (H4.out.trans k2.one).nb, Or.inl ⟨by rw [HL.out]; exact many_stop H1.out hlt HPX.out, rfl⟩⟩
          | some y =>
            obtain ⟨x, r'⟩ := y
            have HPX := hidW hp
            clear hp
            obtain ⟨v, hv⟩ : ∃ v, v = u8 := ⟨u8, rfl⟩
            have HX := hidW hxl
            clear hxl
            subst hv
            go_wp2_with (first
              | (go_at_call 81; refine (takeIns_yes H2.out HB.out HPX.out).mono ?_; rintro e w2 ⟨A2, c2, rfl, ⟨i2, t2⟩, r2, k2⟩; have it2 : ItIn (er (oldB wr.heap.size) w2) x [.int .i64 x.op, .int .i64 x.a, .int .i64 x.b, .int .i64 x.c, .int .i64 x.n, .slice A2 x.args.length c2] := ⟨A2, c2, rfl, i2, t2⟩; clear i2 t2; have R2 := hidW r2; have K2 := hidW k2; have IT := hidW (item_far ItIn.st H3.out hws (.cells #[.int .i64 x.op, .int .i64 x.a, .int .i64 x.b, .int .i64 x.c, .int .i64 x.n, .slice A2 x.args.length c2] 53) it2); have LA := hidW ((H3.out.keep ItIn.st k2 (fun j hj => by rw [hj]; exact hpl)).keep ItIn.st ((Kp.refl (fun _ => False) w2).alloc (.cells #[.int .i64 x.op, .int .i64 x.a, .int .i64 x.b, .int .i64 x.c, .int .i64 x.n, .slice A2 x.args.length c2] 53)) (fun _ hf => hf.elim)); clear r2 k2 it2; obtain ⟨cs, la1, la2⟩ := LA.out.ex; have LA1 := hidW la1; have LA2 := hidW la2; clear la1 la2)
              | (at_builtin; refine wpList_append_lies _ rfl (.tmp 19) (.tmp 23) 47 rfl w.heap.size 53 j0 _ 6 64 Try.underlying47 hi0 hz0 hz1 hz2 rfl (by omega) v xs.length cs (by rfl) (by exact LA1.out) ⟨w2.heap.size, 0, none⟩ 1 1 [.int .i64 x.op, .int .i64 x.a, .int .i64 x.b, .int .i64 x.c, .int .i64 x.n, .slice A2 x.args.length c2] (by rfl) (by rfl) (World.news_of_block (cs := #[.int .i64 x.op, .int .i64 x.a, .int .i64 x.b, .int .i64 x.c, .int .i64 x.n, .slice A2 x.args.length c2]) (t := 53) (fr := (0, 0)) (heap_alloc_new w2 _)) (by simp [Value.oneCell']) (by omega) (by rw [HX.out]; unfold maxLen; omega) (by rw [HX.out]; omega) (by have := K2.out.size; simp; omega) (w2.heap.size + 1) (by simp) ?_; intro gg cap w3 hown1 hgrow hat hlt2; have G3 := hidW (LW.app ItIn.st rfl rfl LA1.out LA2.out IT.out hown1 hgrow (by simpa using hat)); have GB := hidW (LA1.out.lt); have GR := hidW hgrow; clear hown1 hgrow hat hlt2))
            have HKW := hidW (show Kp (NB p w.heap.size) (w2.alloc (.cells #[.int .i64 x.op, .int .i64 x.a, .int .i64 x.b, .int .i64 x.c, .int .i64 x.n, .slice A2 x.args.length c2] 53)) w3 from ⟨GR.out.os, GR.out.tape, GR.out.output, GR.out.size, fun j hj hn => GR.out.block j hj fun e2 => hn (Or.inr (GB.out j e2.symm).1)⟩)
            go_roundw
            case rel => exact ⟨k + 1, xs ++ [x], r', by omega, by go_num, many_next H1.out HPX.out, ((R2.out.alloc _).keep (S := fun j => v.ownBlock = some j) ⟨GR.out.os, GR.out.tape, GR.out.output, GR.out.size, fun j hj hn => GR.out.block j hj fun e2 => hn e2.symm⟩ (fun e2 => by have := (GB.out p e2).1; omega) (fun j hj => by have := (GB.out j hj).1; have := HR.out.bl.size; omega)), G3.out, ((H4.out.trans K2.out.one).alloc _).trans HKW.out⟩
            case measure => simp [intOf]; omega
        · obtain rfl : k = m := by omega
          obtain ⟨A, c, hv, hat⟩ := H3.out.ins (by rw [hxl]; unfold maxLen; omega)
          have HAT := hidW hat
          clear hat
          subst hv
          go_wp2
          go_ret
          exact ⟨H4.out.nb, Or.inr ⟨xs, r, A, c, by rw [HL.out]; exact H1.out, rfl, HAT.out, H2.out⟩⟩
    · have HL := hidW (show pL M (pIn bdP) l = none by unfold pL; rw [hp, Option.bind_some]; simp only; rw [if_neg hb])
      have hbd : decide ((0 : Int) ≤ n ∧ n ≤ M) = false := decide_eq_false hb
      clear hp hb
      go_enter Try.func80, Try.ntmps80
      go_wp2_with (first
        | (go_at_call 74; refine (takeNum64_yes HR.out HY.out HP.out).mono ?_; rintro e w1 ⟨rfl, r1, k1⟩; have K1 := hidW k1; clear r1 k1)
        | (go_at_call 75; refine (span64_any _ _ _ _).mono ?_; rintro e w2 ⟨he, hw⟩; rw [hbd] at he; subst he; rw [hw]; clear hw w2)
        | (go_at_call 52; refine (giveUp_any _).mono ?_; rintro e w3 ⟨rfl, hw⟩; rw [hw]; clear hw w3))
      exact ⟨rfl, K1.out, Or.inl ⟨HL.out, rfl⟩⟩
theorem takeCode_no {M : Int} (hM : M ≤ 2400) {W0 w : World} {p : Nat} {l : List Int} (h : RdW W0 w p l) (hy : Bys l) (hn : pL M (pIn bdP) l = none) : Calls Try.prog 80 #[.pointer (some ⟨p, 0, none⟩), .int .i64 M, .func (.func 81) #[] #[]] w fun e w' => e = noE ∧ Kp (OneB p) w w' :=
  (takeCode_any M hM W0 w p l h hy).mono fun e w' ⟨k, q⟩ => by
    rcases q with ⟨_, h1⟩ | ⟨xs, r, A, c, h1, _⟩
    · exact ⟨h1, k⟩
    · rw [hn] at h1; cases h1
theorem takeCode_yes {M : Int} (hM : M ≤ 2400) {W0 w : World} {p : Nat} {l : List Int} (h : RdW W0 w p l) (hy : Bys l) {xs : List In} {r : List Int} (hn : pL M (pIn bdP) l = some (xs, r)) : Calls Try.prog 80 #[.pointer (some ⟨p, 0, none⟩), .int .i64 M, .func (.func 81) #[] #[]] w fun e w' => ∃ A c, e = .returned (.slice A xs.length c) ∧ InsAt (er (oldB w.heap.size) w') A xs ∧ RdW W0 w' p r ∧ Kp (OneB p) w w' :=
  (takeCode_any M hM W0 w p l h hy).mono fun e w' ⟨k, q⟩ => by
    rcases q with ⟨h1, _⟩ | ⟨xs', r', A, c, h1, h2, h3, h4⟩
    · rw [hn] at h1; cases h1
    · rw [hn] at h1
      simp only [Option.some.injEq, Prod.mk.injEq] at h1
      obtain ⟨rfl, rfl⟩ := h1
      exact ⟨A, c, h2, h3, h4, k⟩

end Go.Proofs.Ytgiiapenmjollab
namespace Go.Proofs.Ytgiiapenmjollab
open Go.RowKit
set_option maxRecDepth 100000
set_option linter.unusedVariables false
set_option linter.unusedSimpArgs false

theorem takeClass_no {W0 w : World} {p : Nat} {l : List Int} (h : RdW W0 w p l) (hy : Bys l) (hn : pCl bdP l = none) : Calls Try.prog 48 #[.pointer (some ⟨p, 0, none⟩)] w fun e w' => e = noE ∧ Kp (OneB p) w w' :=
  (takeClass_any W0 w p l h hy).mono fun e w' ⟨k, q⟩ => by
    rcases q with ⟨_, h1⟩ | ⟨t, r, A, c, h1, _⟩
    · exact ⟨h1, k⟩
    · rw [hn] at h1; cases h1
theorem takeClass_yes {W0 w : World} {p : Nat} {l : List Int} (h : RdW W0 w p l) (hy : Bys l) {x : Cl} {r : List Int} (hn : pCl bdP l = some (x, r)) : Calls Try.prog 48 #[.pointer (some ⟨p, 0, none⟩)] w fun e w' => ∃ A c, e = .returned (.agg #[.int .i64 x.super, .slice A x.fields.length c]) ∧ (I64 x.super ∧ TysAt (er (oldB w.heap.size) w') A x.fields) ∧ RdW W0 w' p r ∧ Kp (OneB p) w w' :=
  (takeClass_any W0 w p l h hy).mono fun e w' ⟨k, q⟩ => by
    rcases q with ⟨h1, _⟩ | ⟨t, r', A, c, h1, h2, h3, h4, h5⟩
    · rw [hn] at h1; cases h1
    · rw [hn] at h1
      simp only [Option.some.injEq, Prod.mk.injEq] at h1
      obtain ⟨rfl, rfl⟩ := h1
      exact ⟨A, c, h2, ⟨h3, h4⟩, h5, k⟩

def ItCl (w : World) (t : Cl) (cs : List Value) : Prop := ∃ A c, cs = [.int .i64 t.super, .slice A t.fields.length c] ∧ I64 t.super ∧ TysAt w A t.fields
theorem ItCl.st : ∀ w w' x cs, Sub w w' → ItCl w x cs → ItCl w' x cs := fun _ _ _ _ hs ⟨A, c, h1, h2, h3⟩ => ⟨A, c, h1, h2, h3.sub hs⟩
theorem LW.cls {e : TypeId} {N : Nat} {w : World} {v : Value} {xs : List Cl} (h : LW cl0 ItCl 2 e N w v xs) (hl : xs.length ≤ maxLen) : ∃ A c, v = .slice A xs.length c ∧ ClsAt (er (oldB N) w) A xs := by
  obtain ⟨A, c, hv, h1⟩ := h.lies ItCl.st
  refine ⟨A, c, hv, hl, ?_⟩
  rcases h1 with h0 | ⟨g, hA, hi⟩
  · exact Or.inl h0
  refine Or.inr ⟨g, 0, hA, fun i hi' => ?_⟩
  obtain ⟨ci, ⟨A', c', rfl, i1, i2⟩, hc⟩ := hi i hi'
  exact ⟨hc 0 _ (by omega) rfl, i1, A', c', hc 1 _ (by omega) rfl, i2⟩

theorem info_takeClasses : ∃ i, Try.prog.info? 43 = some i ∧ i.zero = some (.agg #[.int .i64 0, .slice none 0 0]) ∧ i.size = 2 ∧ i.bytes = 32 := info_partsW (by kernel_rfl)
def takeClassesQ (M : Int) (W0 w : World) (p : Nat) (l : List Int) (e : Ending) (w' : World) : Prop :=
  Kp (OneB p) w w' ∧ ((pL M (pCl bdP) l = none ∧ e = noE) ∨ ∃ xs r A c, pL M (pCl bdP) l = some (xs, r) ∧ e = .returned (.slice A xs.length c) ∧ ClsAt (er (oldB w.heap.size) w') A xs ∧ RdW W0 w' p r)
set_option maxHeartbeats 8000000 in
theorem takeClasses_any (M : Int) (hM : M ≤ 2400) (W0 w : World) (p : Nat) (l : List Int) (h : RdW W0 w p l) (hy : Bys l) :
    Calls Try.prog 47 #[.pointer (some ⟨p, 0, none⟩), .int .i64 M, .func (.func 48) #[] #[]] w (takeClassesQ M W0 w p l) := by
  have hpl := h.lt
  have HR := hidW h
  have HY := hidW hy
  clear h hy
  obtain ⟨j0, hi0, hz0, hz1, hz2⟩ := info_takeClasses
  cases hp : pN l with
  | none =>
    have HP := hidW hp
    have HL := hidW (show pL M (pCl bdP) l = none by unfold pL; rw [hp]; rfl)
    clear hp
    go_enter Try.func47, Try.ntmps47
    go_wp2_with (go_at_call 74; refine (takeNum64_no HR.out HY.out HP.out).mono ?_; rintro e w1 ⟨rfl, k1⟩)
    exact ⟨rfl, k1, Or.inl ⟨HL.out, rfl⟩⟩
  | some y =>
    obtain ⟨n, l1⟩ := y
    have HP := hidW hp
    have hn64 := pN_i64 hp
    unfold I64 at hn64
    have HB1 := hidW (pN_snd.keeps l n l1 HY.out hp)
    by_cases hb : 0 ≤ n ∧ n ≤ M
    · have HL := hidW (show pL M (pCl bdP) l = pMany (pCl bdP) n.toNat l1 by unfold pL; rw [hp, Option.bind_some]; simp only; rw [if_pos hb])
      clear hp
      obtain ⟨m, rfl⟩ : ∃ m : Nat, n = (m : Int) := ⟨n.toNat, by omega⟩
      have hm : m ≤ 2400 := by omega
      rw [show ((m : Int)).toNat = m by omega] at HL
      have hbd : decide ((0 : Int) ≤ (m : Int) ∧ (m : Int) ≤ M) = true := decide_eq_true (by omega)
      clear hb hn64
      go_enter Try.func47, Try.ntmps47
      go_wp2_with (first
        | (go_at_call 74; refine (takeNum64_yes HR.out HY.out HP.out).mono ?_; rintro e w1 ⟨rfl, r1, k1⟩; have R1 := hidW r1; have K1 := hidW k1; clear r1 k1)
        | (go_at_call 75; refine (span64_any _ _ _ _).mono ?_; rintro e w2 ⟨he, hw⟩; rw [hbd] at he; subst he; rw [hw]; clear hw w2))
      clear hbd
      go_loopw [8, 17] (fun v i wr => ∃ (k : Nat) (xs : List Cl) (r : List Int), k ≤ m ∧ i = .int .i64 (k : Int) ∧ pMany (pCl bdP) k l1 = some (xs, r) ∧ RdW W0 wr p r ∧ LW cl0 ItCl 2 43 w.heap.size wr v xs ∧ Kp (NB p w.heap.size) w wr) (fun _ i _ => m - (intOf i).toNat)
      case atStart => exact ⟨0, [], l1, by omega, rfl, rfl, R1.out, LW.nil _ _ _ _ _ _, K1.out.one⟩
      case round =>
        obtain ⟨k, xs, r, hk, rfl, h1, h2, h3, h4⟩ := hrel
        have H1 := hidW h1
        have H2 := hidW h2
        have H3 := hidW h3
        have H4 := hidW h4
        have hxl := many_len _ _ _ _ h1
        have hws := h4.size
        clear h1 h2 h3 h4
        have HB := hidW (many_keeps ((pCl_snd bdP).keeps) k l1 xs r HB1.out H1.out)
        by_cases hlt : k < m
        · cases hp : (pCl bdP) r with
          | none =>
            have HPX := hidW hp
            clear hp
            go_wp2_with (go_at_call 48; refine (takeClass_no H2.out HB.out HPX.out).mono ?_; rintro e w2 ⟨rfl, k2⟩)
            exact ⟨rfl, (H4.out.trans k2.one).nb, Or.inl ⟨by rw [HL.out]; exact many_stop H1.out hlt HPX.out, rfl⟩⟩
          | some y =>
            obtain ⟨x, r'⟩ := y
            have HPX := hidW hp
            clear hp
            obtain ⟨v, hv⟩ : ∃ v, v = u8 := ⟨u8, rfl⟩
            have HX := hidW hxl
            clear hxl
            subst hv
            go_wp2_with (first
              | (go_at_call 48; refine (takeClass_yes H2.out HB.out HPX.out).mono ?_; rintro e w2 ⟨A2, c2, rfl, ⟨i2, t2⟩, r2, k2⟩; have it2 : ItCl (er (oldB wr.heap.size) w2) x [.int .i64 x.super, .slice A2 x.fields.length c2] := ⟨A2, c2, rfl, i2, t2⟩; clear i2 t2; have R2 := hidW r2; have K2 := hidW k2; have IT := hidW (item_far ItCl.st H3.out hws (.cells #[.int .i64 x.super, .slice A2 x.fields.length c2] 43) it2); have LA := hidW ((H3.out.keep ItCl.st k2 (fun j hj => by rw [hj]; exact hpl)).keep ItCl.st ((Kp.refl (fun _ => False) w2).alloc (.cells #[.int .i64 x.super, .slice A2 x.fields.length c2] 43)) (fun _ hf => hf.elim)); clear r2 k2 it2; obtain ⟨cs, la1, la2⟩ := LA.out.ex; have LA1 := hidW la1; have LA2 := hidW la2; clear la1 la2)
              | (at_builtin; refine wpList_append_lies _ rfl (.tmp 19) (.tmp 23) 22 rfl w.heap.size 43 j0 _ 2 32 Try.underlying22 hi0 hz0 hz1 hz2 rfl (by omega) v xs.length cs (by rfl) (by exact LA1.out) ⟨w2.heap.size, 0, none⟩ 1 1 [.int .i64 x.super, .slice A2 x.fields.length c2] (by rfl) (by rfl) (World.news_of_block (cs := #[.int .i64 x.super, .slice A2 x.fields.length c2]) (t := 43) (fr := (0, 0)) (heap_alloc_new w2 _)) (by simp [Value.oneCell']) (by omega) (by rw [HX.out]; unfold maxLen; omega) (by rw [HX.out]; omega) (by have := K2.out.size; simp; omega) (w2.heap.size + 1) (by simp) ?_; intro gg cap w3 hown1 hgrow hat hlt2; have G3 := hidW (LW.app ItCl.st rfl rfl LA1.out LA2.out IT.out hown1 hgrow (by simpa using hat)); have GB := hidW (LA1.out.lt); have GR := hidW hgrow; clear hown1 hgrow hat hlt2))
            have HKW := hidW (show Kp (NB p w.heap.size) (w2.alloc (.cells #[.int .i64 x.super, .slice A2 x.fields.length c2] 43)) w3 from ⟨GR.out.os, GR.out.tape, GR.out.output, GR.out.size, fun j hj hn => GR.out.block j hj fun e2 => hn (Or.inr (GB.out j e2.symm).1)⟩)
            go_roundw
            case rel => exact ⟨k + 1, xs ++ [x], r', by omega, by go_num, many_next H1.out HPX.out, ((R2.out.alloc _).keep (S := fun j => v.ownBlock = some j) ⟨GR.out.os, GR.out.tape, GR.out.output, GR.out.size, fun j hj hn => GR.out.block j hj fun e2 => hn e2.symm⟩ (fun e2 => by have := (GB.out p e2).1; omega) (fun j hj => by have := (GB.out j hj).1; have := HR.out.bl.size; omega)), G3.out, ((H4.out.trans K2.out.one).alloc _).trans HKW.out⟩
            case measure => simp [intOf]; omega
        · obtain rfl : k = m := by omega
          obtain ⟨A, c, hv, hat⟩ := H3.out.cls (by rw [hxl]; unfold maxLen; omega)
          have HAT := hidW hat
          clear hat
          subst hv
          go_wp2
          go_ret
          exact ⟨H4.out.nb, Or.inr ⟨xs, r, A, c, by rw [HL.out]; exact H1.out, rfl, HAT.out, H2.out⟩⟩
    · have HL := hidW (show pL M (pCl bdP) l = none by unfold pL; rw [hp, Option.bind_some]; simp only; rw [if_neg hb])
      have hbd : decide ((0 : Int) ≤ n ∧ n ≤ M) = false := decide_eq_false hb
      clear hp hb
      go_enter Try.func47, Try.ntmps47
      go_wp2_with (first
        | (go_at_call 74; refine (takeNum64_yes HR.out HY.out HP.out).mono ?_; rintro e w1 ⟨rfl, r1, k1⟩; have K1 := hidW k1; clear r1 k1)
        | (go_at_call 75; refine (span64_any _ _ _ _).mono ?_; rintro e w2 ⟨he, hw⟩; rw [hbd] at he; subst he; rw [hw]; clear hw w2)
        | (go_at_call 52; refine (giveUp_any _).mono ?_; rintro e w3 ⟨rfl, hw⟩; rw [hw]; clear hw w3))
      exact ⟨rfl, K1.out, Or.inl ⟨HL.out, rfl⟩⟩
theorem takeClasses_no {M : Int} (hM : M ≤ 2400) {W0 w : World} {p : Nat} {l : List Int} (h : RdW W0 w p l) (hy : Bys l) (hn : pL M (pCl bdP) l = none) : Calls Try.prog 47 #[.pointer (some ⟨p, 0, none⟩), .int .i64 M, .func (.func 48) #[] #[]] w fun e w' => e = noE ∧ Kp (OneB p) w w' :=
  (takeClasses_any M hM W0 w p l h hy).mono fun e w' ⟨k, q⟩ => by
    rcases q with ⟨_, h1⟩ | ⟨xs, r, A, c, h1, _⟩
    · exact ⟨h1, k⟩
    · rw [hn] at h1; cases h1
theorem takeClasses_yes {M : Int} (hM : M ≤ 2400) {W0 w : World} {p : Nat} {l : List Int} (h : RdW W0 w p l) (hy : Bys l) {xs : List Cl} {r : List Int} (hn : pL M (pCl bdP) l = some (xs, r)) : Calls Try.prog 47 #[.pointer (some ⟨p, 0, none⟩), .int .i64 M, .func (.func 48) #[] #[]] w fun e w' => ∃ A c, e = .returned (.slice A xs.length c) ∧ ClsAt (er (oldB w.heap.size) w') A xs ∧ RdW W0 w' p r ∧ Kp (OneB p) w w' :=
  (takeClasses_any M hM W0 w p l h hy).mono fun e w' ⟨k, q⟩ => by
    rcases q with ⟨h1, _⟩ | ⟨xs', r', A, c, h1, h2, h3, h4⟩
    · rw [hn] at h1; cases h1
    · rw [hn] at h1
      simp only [Option.some.injEq, Prod.mk.injEq] at h1
      obtain ⟨rfl, rfl⟩ := h1
      exact ⟨A, c, h2, h3, h4, k⟩

end Go.Proofs.Ytgiiapenmjollab
