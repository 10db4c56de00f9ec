/-
  An instruction is taken.
-/
import Derived.Test.YtgiiapenmjollabMWireTakeD
namespace Go.Proofs.Ytgiiapenmjollab
open Go.RowKit
set_option maxRecDepth 100000
set_option linter.unusedVariables false
set_option linter.unusedSimpArgs false

theorem info_in : (Try.prog.info? 53).map (·.size) = some 6 := by kernel_rfl
theorem pIn_row (d : Bd) (l : List Int) : pIn d l = (pMany pN 4 l).bind fun y => (pN y.2).bind fun n => (pL d.gs pN n.2).bind fun g => some (⟨nth (0 : Int) y.1 0, nth (0 : Int) y.1 1, nth (0 : Int) y.1 2, nth (0 : Int) y.1 3, n.1, g.1⟩, g.2) := by
  unfold pIn pMany pMany pMany pMany pMany
  cases pN l with
  | none => rfl
  | some a => cases h : pN a.2 with
    | none => simp [h]
    | some b => cases h2 : pN b.2 with
      | none => simp [h, h2]
      | some c => cases h3 : pN c.2 with
        | none => simp [h, h2, h3]
        | some d => simp [h, h2, h3, nth]
theorem many_i64 : ∀ (k : Nat) (l xs r : List Int), pMany pN k l = some (xs, r) → ∀ i, I64 (nth (0 : Int) xs i) := by
  intro k
  induction k with
  | zero =>
    intro l xs r h i
    simp only [pMany, Option.some.injEq, Prod.mk.injEq] at h
    rw [← h.1]
    unfold nth I64
    simp
  | succ k ih =>
    intro l xs r h i
    unfold pMany at h
    obtain ⟨a, h1, h⟩ := bind_some_of h
    obtain ⟨b, h2, h⟩ := bind_some_of h
    simp only [Option.some.injEq, Prod.mk.injEq] at h
    rw [← h.1]
    cases i with
    | zero => exact pN_i64 (x := a.1) (r := a.2) h1
    | succ i => exact ih a.2 b.1 b.2 h2 i
def InsQ (W0 w : World) (p : Nat) (l : List Int) (e : Ending) (w' : World) : Prop :=
  Kp (OneB p) w w' ∧ ((pIn bdP l = none ∧ e = noE) ∨ ∃ x r A c, pIn bdP l = some (x, r) ∧ e = .returned (.agg #[.int .i64 x.op, .int .i64 x.a, .int .i64 x.b, .int .i64 x.c, .int .i64 x.n, .slice A x.args.length c]) ∧ x.ok ∧ IntsAt (er (oldB w.heap.size) w') A x.args ∧ RdW W0 w' p r)
abbrev tinZ : Obj := .cells #[.int .i64 0, .int .i64 0, .int .i64 0, .int .i64 0, .int .i64 0, .slice none 0 0] 53
abbrev a4Z : Obj := .cells #[.int .i64 0, .int .i64 0, .int .i64 0, .int .i64 0] 130
abbrev tinV (xs : List Int) : Obj := .cells #[.int .i64 (nth (0 : Int) xs 0), .int .i64 (nth (0 : Int) xs 1), .int .i64 (nth (0 : Int) xs 2), .int .i64 (nth (0 : Int) xs 3), .int .i64 0, .slice none 0 0] 53
set_option maxHeartbeats 8000000 in
theorem takeIns_any (W0 w : World) (p : Nat) (l : List Int) (h : RdW W0 w p l) (hy : Bys l) :
    Calls Try.prog 81 #[.pointer (some ⟨p, 0, none⟩)] w (InsQ W0 w p l) := by
  have hpl := h.lt
  have hW := h.bl.size
  have HR := hidW ((h.alloc tinZ).alloc a4Z)
  have HY := hidW hy
  have HK := hidW (((Kp.refl (NB p w.heap.size) w).alloc tinZ).alloc a4Z)
  have HE := hidW ((Below.heap_alloc (w.alloc tinZ) a4Z w.heap.size (by simp)).trans (heap_alloc_new w _))
  have HA := hidW (arr_new (w.alloc tinZ) 4 #[.int .i64 0, .int .i64 0, .int .i64 0, .int .i64 0] 130 rfl (q := w.heap.size + 1) (by simp))
  clear h hy
  cases hm : pMany pN 4 l with
  | none =>
    have HM := hidW hm
    have HL := hidW (show pIn bdP l = none by rw [pIn_row, hm]; rfl)
    clear hm
    go_enter Try.func81, Try.ntmps81
    go_wp2_with (go_at_call 79; refine (takeRow_no HR.out HY.out HA.out (by omega) (by omega) (by omega) HM.out).mono ?_; rintro e w2 ⟨rfl, k2⟩)
    exact ⟨rfl, (HK.out.trans (k2.two (by omega))).nb, Or.inl ⟨HL.out, rfl⟩⟩
  | some y =>
    obtain ⟨xs, l1⟩ := y
    have HM := hidW hm
    have HY1 := hidW (many_keeps pN_snd.keeps 4 l xs l1 HY.out hm)
    have HX := hidW (many_i64 4 l xs l1 hm)
    cases hp : pN l1 with
    | none =>
      have HP := hidW hp
      have HL := hidW (show pIn bdP l = none by rw [pIn_row, hm, Option.bind_some]; show (pN l1).bind _ = _; rw [hp]; rfl)
      clear hm hp
      go_enter Try.func81, Try.ntmps81
      go_wp2_with (first
        | (go_at_call 79; refine (takeRow_yes HR.out HY.out HA.out (by omega) (by omega) (by omega) HM.out).mono ?_; rintro e w1 ⟨rfl, r1, a1, k1⟩; have c0 := a1.cell 0 (by omega); have c1 := a1.cell 1 (by omega); have c2 := a1.cell 2 (by omega); have c3 := a1.cell 3 (by omega); have R1 := hidW r1; have K1 := hidW (HK.out.trans (k1.two (n := w.heap.size) (by omega))); clear r1 a1 k1)
        | (go_at_call 74; refine (takeNum64_no (R1.out.alloc (tinV xs)) HY1.out HP.out).mono ?_; rintro e w2 ⟨rfl, k2⟩))
      exact ⟨rfl, ((K1.out.alloc _).trans k2.one).nb, Or.inl ⟨HL.out, rfl⟩⟩
    | some y =>
      obtain ⟨n, l2⟩ := y
      have HP := hidW hp
      have HN := hidW (pN_i64 hp)
      have HY2 := hidW (pN_snd.keeps l1 n l2 HY1.out hp)
      cases hq : pL 4 pN l2 with
      | none =>
        have HQ := hidW hq
        have HL := hidW (show pIn bdP l = none by rw [pIn_row, hm, Option.bind_some]; show (pN l1).bind _ = _; rw [hp, Option.bind_some]; show (pL 4 pN l2).bind _ = _; rw [hq]; rfl)
        clear hm hp hq
        go_enter Try.func81, Try.ntmps81
        go_wp2_with (first
          | (go_at_call 79; refine (takeRow_yes HR.out HY.out HA.out (by omega) (by omega) (by omega) HM.out).mono ?_; rintro e w1 ⟨rfl, r1, a1, k1⟩; have c0 := a1.cell 0 (by omega); have c1 := a1.cell 1 (by omega); have c2 := a1.cell 2 (by omega); have c3 := a1.cell 3 (by omega); have R1 := hidW r1; have K1 := hidW (HK.out.trans (k1.two (n := w.heap.size) (by omega))); have V0 := hidW (heap_alloc_new w1 (tinV xs)); have hs1 := K1.out.size; clear r1 a1 k1)
          | (go_at_call 74; refine (takeNum64_yes (R1.out.alloc (tinV xs)) HY1.out HP.out).mono ?_; rintro e w2 ⟨rfl, r2, k2⟩; have v2 := (k2.block w1.heap.size (by simp) (fun e2 => by unfold OneB at e2; omega)).trans V0.out; have d4 := blk_cell v2 4 rfl; have z4 := blk_free v2 4; have R2 := hidW r2; have K2 := hidW ((K1.out.alloc (tinV xs)).trans k2.one); clear r2 k2 v2)
          | (go_at_call 96; refine (takeInts_no (M := 4) (by omega) (R2.out.set (k := w1.heap.size) (o := 4) (by omega) (by omega) _) HY2.out HQ.out).mono ?_; rintro e w3 ⟨rfl, k3⟩))
        exact ⟨rfl, ((K2.out.set (p := ⟨w1.heap.size, 4, none⟩) (Or.inr (by simp; omega)) _).trans k3.one).nb, Or.inl ⟨HL.out, rfl⟩⟩
      | some y =>
        obtain ⟨gs, r⟩ := y
        have HQ := hidW hq
        have HL := hidW (show pIn bdP l = some (⟨nth (0 : Int) xs 0, nth (0 : Int) xs 1, nth (0 : Int) xs 2, nth (0 : Int) xs 3, n, gs⟩, r) by rw [pIn_row, hm, Option.bind_some]; show (pN l1).bind _ = _; rw [hp, Option.bind_some]; show (pL 4 pN l2).bind _ = _; rw [hq]; rfl)
        clear hm hp hq
        go_enter Try.func81, Try.ntmps81
        go_wp2_with (first
          | (go_at_call 79; refine (takeRow_yes HR.out HY.out HA.out (by omega) (by omega) (by omega) HM.out).mono ?_; rintro e w1 ⟨rfl, r1, a1, k1⟩; have c0 := a1.cell 0 (by omega); have c1 := a1.cell 1 (by omega); have c2 := a1.cell 2 (by omega); have c3 := a1.cell 3 (by omega); have b1 := (k1.block w.heap.size (by simp; omega) (fun e2 => by rcases e2 with e2 | e2 <;> omega)).trans HE.out; have R1 := hidW r1; have K1 := hidW (HK.out.trans (k1.two (n := w.heap.size) (by omega))); have B1 := hidW b1; have hb1 := lt_of_blk b1; have V0 := hidW (heap_alloc_new w1 (tinV xs)); clear r1 a1 k1 b1)
          | (go_at_call 74; refine (takeNum64_yes (R1.out.alloc (tinV xs)) HY1.out HP.out).mono ?_; rintro e w2 ⟨rfl, r2, k2⟩; have v2 := (k2.block w1.heap.size (by simp) (fun e2 => by have := R1.out.lt; unfold OneB at e2; omega)).trans V0.out; have b2 := (k2.block w.heap.size (by simp; omega) (fun e2 => by unfold OneB at e2; omega)).trans ((Below.heap_alloc _ _ _ hb1).trans B1.out); have d4 := blk_cell v2 4 rfl; have z4 := blk_free v2 4; have R2 := hidW r2; have K2 := hidW ((K1.out.alloc (tinV xs)).trans k2.one); have V2 := hidW v2; have B2 := hidW b2; have hv2 := lt_of_blk v2; clear r2 k2 v2 b2)
          | (go_at_call 96; refine (takeInts_yes (M := 4) (by omega) (R2.out.set (k := w1.heap.size) (o := 4) (by have := R1.out.lt; omega) (by omega) _) HY2.out HQ.out).mono ?_; rintro e w3 ⟨A, c, rfl, t3, r3, k3⟩; have v3 := (k3.block w1.heap.size (by simp; omega) (fun e2 => by have := R1.out.lt; unfold OneB at e2; omega)).trans (set_block V2.out 4 (.int .i64 n)); have b3 := (k3.block w.heap.size (by simp; omega) (fun e2 => by unfold OneB at e2; omega)).trans ((Below.heap_setCell _ _ _ _ (by simp; omega)).trans B2.out); have e0 := blk_cell v3 0 rfl; have e1 := blk_cell v3 1 rfl; have e2 := blk_cell v3 2 rfl; have e3 := blk_cell v3 3 rfl; have e4 := blk_cell v3 4 rfl; have e5 := blk_cell v3 5 rfl; have z5 := blk_free v3 5; have f0 := blk_cell b3 0 rfl; have f1 := blk_cell b3 1 rfl; have f2 := blk_cell b3 2 rfl; have f3 := blk_cell b3 3 rfl; have f4 := blk_cell b3 4 rfl; have f5 := blk_cell b3 5 rfl; have y0 := blk_free b3 0; have y1 := blk_free b3 1; have y2 := blk_free b3 2; have y3 := blk_free b3 3; have y4 := blk_free b3 4; have y5 := blk_free b3 5; have T3 := hidW t3; have R3 := hidW r3; have K3 := hidW ((K2.out.set (p := ⟨w1.heap.size, 4, none⟩) (Or.inr (by simp; omega)) (.int .i64 n)).trans k3.one); have V3 := hidW v3; have B3 := hidW b3; clear t3 r3 k3 v3 b3))
        have hne : w.heap.size ≠ w1.heap.size := by omega
        refine bodyPost_ret (results_cell_row rfl _ _ w.heap.size _ _ _ _ rfl (set_block (set_block (set_block (set_block (set_block (set_block ((Below.heap_setCell _ _ _ _ (by simpa using hne)).trans B3.out) 0 (.int .i64 (nth (0 : Int) xs 0))) 1 (.int .i64 (nth (0 : Int) xs 1))) 2 (.int .i64 (nth (0 : Int) xs 2))) 3 (.int .i64 (nth (0 : Int) xs 3))) 4 (.int .i64 n)) 5 (.slice A gs.length c)) Try.underlying53 rfl info_in) rfl ?_
        refine ⟨(((((((K3.out.set (p := ⟨w1.heap.size, 5, none⟩) (Or.inr (by simp; omega)) _).set (p := ⟨w.heap.size, 0, none⟩) (Or.inr (by simp)) _).set (p := ⟨w.heap.size, 1, none⟩) (Or.inr (by simp)) _).set (p := ⟨w.heap.size, 2, none⟩) (Or.inr (by simp)) _).set (p := ⟨w.heap.size, 3, none⟩) (Or.inr (by simp)) _).set (p := ⟨w.heap.size, 4, none⟩) (Or.inr (by simp)) _).set (p := ⟨w.heap.size, 5, none⟩) (Or.inr (by simp)) _).nb, Or.inr ⟨_, r, A, c, HL.out, rfl, ⟨HX.out 0, HX.out 1, HX.out 2, HX.out 3, HN.out⟩, ?_, (((((((R3.out.set (k := w1.heap.size) (o := 5) (by have := R1.out.lt; omega) (by omega) _).set (k := w.heap.size) (o := 0) (by omega) (by omega) _).set (k := w.heap.size) (o := 1) (by omega) (by omega) _).set (k := w.heap.size) (o := 2) (by omega) (by omega) _).set (k := w.heap.size) (o := 3) (by omega) (by omega) _).set (k := w.heap.size) (o := 4) (by omega) (by omega) _).set (k := w.heap.size) (o := 5) (by omega) (by omega) _)⟩⟩
        have hN1 : w1.heap.size < (w2.setCell ⟨w1.heap.size, 4, none⟩ (.int .i64 n)).heap.size := by rw [World.size_setCell]; exact hv2
        exact T3.out.sub (((((((er_set hN1 (Nat.le_refl _)).trans (er_set (show w.heap.size < _ by omega) (Nat.le_refl _))).trans (er_set (show w.heap.size < _ by omega) (Nat.le_refl _))).trans (er_set (show w.heap.size < _ by omega) (Nat.le_refl _))).trans (er_set (show w.heap.size < _ by omega) (Nat.le_refl _))).trans (er_set (show w.heap.size < _ by omega) (Nat.le_refl _))).trans (er_set (show w.heap.size < _ by omega) (by omega)))

end Go.Proofs.Ytgiiapenmjollab
