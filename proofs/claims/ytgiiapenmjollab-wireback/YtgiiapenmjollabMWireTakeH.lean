/-
  A method is taken.
-/
import Derived.Test.YtgiiapenmjollabMWireTakeG
import Derived.Deep.RegionHeld3
import Derived.Deep.DeepCutAuto
namespace Go.Proofs.Ytgiiapenmjollab
open Go.RowKit
set_option maxRecDepth 100000
set_option linter.unusedVariables false
set_option linter.unusedSimpArgs false

theorem info_me : (Try.prog.info? 50).map (·.size) = some 8 := by kernel_rfl
theorem er_keep {p N : Nat} {a b : World} (h : Kp (NB p a.heap.size) a b) (hp : p < N) : Sub (er (oldB N) a) (er (oldB N) b) := er_to fun k hk hlt => ⟨hk, h.block k hlt fun hs => by
  unfold oldB at hk
  simp at hk
  rcases hs with e | e <;> omega⟩
theorem Kp.drew {S : Nat → Prop} {a w : World} (h : Kp S a w) : Kp S a w.drew := ⟨h.os, h.tape, h.output, h.size, h.block⟩
theorem er_less {N M : Nat} {a : World} (h : N ≤ M) : Sub (er (oldB M) a) (er (oldB N) a) := er_to fun k hk hlt => by
  unfold oldB at hk ⊢
  simp at hk ⊢
  omega
theorem pMe_row (d : Bd) (l : List Int) : pMe d l = (pL d.ps pTy l).bind fun p => (pTy p.2).bind fun t => (pMany pN 3 t.2).bind fun y => (pL d.co (pIn d) y.2).bind fun c => (pL d.hs pHd c.2).bind fun h => some (⟨p.1, t.1, nth (0 : Int) y.1 0, nth (0 : Int) y.1 1, nth (0 : Int) y.1 2, c.1, h.1⟩, h.2) := by
  unfold pMe
  congr 1
  funext p
  congr 1
  funext t
  unfold pMany pMany pMany pMany
  cases pN t.2 with
  | none => rfl
  | some a => cases h : pN a.2 with
    | none => simp [h]
    | some b => cases h2 : pN b.2 with
      | none => simp [h, h2]
      | some c => simp [h, h2, nth]
def MethQ (W0 w : World) (p : Nat) (l : List Int) (e : Ending) (w' : World) : Prop :=
  Kp (OneB p) w w' ∧ ((pMe bdP l = none ∧ e = noE) ∨ ∃ x r P C K pp pc pk, pMe bdP l = some (x, r) ∧ e = .returned (.agg #[.slice P x.params.length pp, .int .i64 x.ret.kind, .int .i64 x.ret.cls, .int .i64 x.stack, .int .i64 x.locs, .int .i64 x.regs, .slice C x.code.length pc, .slice K x.hands.length pk]) ∧ MeAt (er (oldB w.heap.size) w') x P C K ∧ RdW W0 w' p r)
abbrev meZ : Obj := .cells #[.slice none 0 0, .int .i64 0, .int .i64 0, .int .i64 0, .int .i64 0, .int .i64 0, .slice none 0 0, .slice none 0 0] 50
abbrev a3Z : Obj := .cells #[.int .i64 0, .int .i64 0, .int .i64 0] 104
set_option maxHeartbeats 20000000 in
theorem takeMethod_any (W0 w : World) (p : Nat) (l : List Int) (h : RdW W0 w p l) (hy : Bys l) :
    Calls Try.prog 50 #[.pointer (some ⟨p, 0, none⟩)] w (MethQ W0 w p l) := by
  have hpl := h.lt
  have hW := h.bl.size
  have HR := hidW ((h.alloc meZ).alloc meZ)
  have HY := hidW hy
  have HK := hidW (((Kp.refl (NB p w.heap.size) w).alloc meZ).alloc meZ)
  have HE := hidW ((Below.heap_alloc (w.alloc meZ) meZ w.heap.size (by simp)).trans (heap_alloc_new w _))
  have HV := hidW (show ((w.alloc meZ).alloc meZ).heap[w.heap.size + 1]? = some (.cells #[.slice none 0 0, .int .i64 0, .int .i64 0, .int .i64 0, .int .i64 0, .int .i64 0, .slice none 0 0, .slice none 0 0] 50 (0, 0)) by
    have := heap_alloc_new (w.alloc meZ) meZ
    rw [World.size_alloc] at this
    exact this)
  clear h hy
  cases hq1 : pL 4 pTy l with
  | none =>
    have HQ1 := hidW hq1
    have HL := hidW (show pMe bdP l = none by rw [pMe_row]; show (pL 4 pTy l).bind _ = _; rw [hq1]; rfl)
    clear hq1
    go_enter Try.func50, Try.ntmps50
    go_wp2_with (go_at_call 77; refine (takeTypes_no (M := 4) (by omega) HR.out HY.out HQ1.out).mono ?_; rintro e w1 ⟨rfl, k1⟩)
    exact ⟨rfl, (HK.out.trans k1.one).nb, Or.inl ⟨HL.out, rfl⟩⟩
  | some y1 =>
  obtain ⟨ps, l1⟩ := y1
  have HQ1 := hidW hq1
  have HY1 := hidW (pL_keeps pTy_snd l ps l1 HY.out hq1)
  cases hq2 : pTy l1 with
  | none =>
    have HQ2 := hidW hq2
    have HL := hidW (show pMe bdP l = none by rw [pMe_row]; show (pL 4 pTy l).bind _ = _; rw [hq1, Option.bind_some]; show (pTy l1).bind _ = _; rw [hq2]; rfl)
    clear hq1 hq2
    go_enter Try.func50, Try.ntmps50
    go_wp2_with (first
      | (go_at_call 77; refine (takeTypes_yes (M := 4) (by omega) HR.out HY.out HQ1.out).mono ?_; rintro e w1 ⟨P, pp, rfl, t1, r1, k1⟩; have v1 := (k1.block (w.heap.size + 1) (by simp) (fun e2 => by unfold OneB at e2; omega)).trans HV.out; have b1 := (k1.block w.heap.size (by simp; omega) (fun e2 => by unfold OneB at e2; omega)).trans HE.out; have c0 := blk_cell v1 0 rfl; have z0 := blk_free v1 0; have T1 := hidW (show TysAt (er (oldB (w.heap.size + 2)) w1) P ps by simpa using t1); have R1 := hidW (r1.set (k := (w.heap.size + 1)) (o := 0) (by omega) (by omega) (.slice P ps.length pp)); have K1 := hidW ((HK.out.trans k1.one).set (p := ⟨(w.heap.size + 1), 0, none⟩) (Or.inr (by simp)) (.slice P ps.length pp)); have V1 := hidW (set_block v1 0 (.slice P ps.length pp)); have B1 := hidW ((Below.heap_setCell w1 ⟨(w.heap.size + 1), 0, none⟩ (.slice P ps.length pp) w.heap.size (by simp)).trans b1); have T1B := hidW (T1.out.sub (er_set (k := (w.heap.size + 1)) (o := 0) (v := .slice P ps.length pp) (by omega) (Nat.le_refl _))); clear t1 r1 k1 v1 b1 T1)
      | (go_at_call 78; refine (takeType_no R1.out HY1.out HQ2.out).mono ?_; rintro e w2 ⟨rfl, k2⟩))
    exact ⟨rfl, (K1.out.trans k2.one).nb, Or.inl ⟨HL.out, rfl⟩⟩
  | some y2 =>
  obtain ⟨t, l2⟩ := y2
  have HQ2 := hidW hq2
  have HY2 := hidW (pTy_snd.keeps l1 t l2 HY1.out hq2)
  cases hq3 : pMany pN 3 l2 with
  | none =>
    have HQ3 := hidW hq3
    have HL := hidW (show pMe bdP l = none by rw [pMe_row]; show (pL 4 pTy l).bind _ = _; rw [hq1, Option.bind_some]; show (pTy l1).bind _ = _; rw [hq2, Option.bind_some]; show (pMany pN 3 l2).bind _ = _; rw [hq3]; rfl)
    clear hq1 hq2 hq3
    go_enter Try.func50, Try.ntmps50
    go_wp2_with (first
      | (go_at_call 77; refine (takeTypes_yes (M := 4) (by omega) HR.out HY.out HQ1.out).mono ?_; rintro e w1 ⟨P, pp, rfl, t1, r1, k1⟩; have v1 := (k1.block (w.heap.size + 1) (by simp) (fun e2 => by unfold OneB at e2; omega)).trans HV.out; have b1 := (k1.block w.heap.size (by simp; omega) (fun e2 => by unfold OneB at e2; omega)).trans HE.out; have c0 := blk_cell v1 0 rfl; have z0 := blk_free v1 0; have T1 := hidW (show TysAt (er (oldB (w.heap.size + 2)) w1) P ps by simpa using t1); have R1 := hidW (r1.set (k := (w.heap.size + 1)) (o := 0) (by omega) (by omega) (.slice P ps.length pp)); have K1 := hidW ((HK.out.trans k1.one).set (p := ⟨(w.heap.size + 1), 0, none⟩) (Or.inr (by simp)) (.slice P ps.length pp)); have V1 := hidW (set_block v1 0 (.slice P ps.length pp)); have B1 := hidW ((Below.heap_setCell w1 ⟨(w.heap.size + 1), 0, none⟩ (.slice P ps.length pp) w.heap.size (by simp)).trans b1); have T1B := hidW (T1.out.sub (er_set (k := (w.heap.size + 1)) (o := 0) (v := .slice P ps.length pp) (by omega) (Nat.le_refl _))); clear t1 r1 k1 v1 b1 T1)
      | (go_at_call 78; refine (takeType_yes R1.out HY1.out HQ2.out).mono ?_; rintro e w2 ⟨rfl, r2, k2⟩; have v2 := (k2.block (w.heap.size + 1) (lt_of_blk V1.out) (fun e2 => by unfold OneB at e2; omega)).trans V1.out; have b2 := (k2.block w.heap.size (lt_of_blk B1.out) (fun e2 => by unfold OneB at e2; omega)).trans B1.out; have c1 := blk_cell v2 1 rfl; have z1 := blk_free v2 1; have c2 := blk_cell v2 2 rfl; have z2 := blk_free v2 2; have R2 := hidW ((r2.set (k := (w.heap.size + 1)) (o := 1) (by omega) (by omega) (.int .i64 t.kind)).set (k := (w.heap.size + 1)) (o := 2) (by omega) (by omega) (.int .i64 t.cls)); have K2 := hidW (((K1.out.trans k2.one).set (p := ⟨(w.heap.size + 1), 1, none⟩) (Or.inr (by simp)) (.int .i64 t.kind)).set (p := ⟨(w.heap.size + 1), 2, none⟩) (Or.inr (by simp)) (.int .i64 t.cls)); have V2 := hidW (set_block (set_block v2 1 (.int .i64 t.kind)) 2 (.int .i64 t.cls)); have B2 := hidW ((Below.heap_setCell (w2.setCell ⟨(w.heap.size + 1), 1, none⟩ (.int .i64 t.kind)) ⟨(w.heap.size + 1), 2, none⟩ (.int .i64 t.cls) w.heap.size (by simp)).trans ((Below.heap_setCell w2 ⟨(w.heap.size + 1), 1, none⟩ (.int .i64 t.kind) w.heap.size (by simp)).trans b2)); have T2 := hidW (T1B.out.sub (((er_keep (p := p) (N := w.heap.size + 2) k2.one (by omega)).trans (er_set (k := (w.heap.size + 1)) (o := 1) (v := .int .i64 t.kind) (by omega) (Nat.le_refl _))).trans (er_set (k := (w.heap.size + 1)) (o := 2) (v := .int .i64 t.cls) (by omega) (Nat.le_refl _)))); clear r2 k2 v2 b2; have hw2 := lt_of_blk V2.out; have hp2 := R2.out.lt; have QA := hidW (arr_new ((w2.setCell ⟨(w.heap.size + 1), 1, none⟩ (.int .i64 t.kind)).setCell ⟨(w.heap.size + 1), 2, none⟩ (.int .i64 t.cls)) 3 #[.int .i64 0, .int .i64 0, .int .i64 0] 104 rfl (q := w2.heap.size) (by simp)))
      | (go_at_call 79; refine (takeRow_no (R2.out.alloc a3Z) HY2.out QA.out (by simp at hp2; omega) (by simp at hw2; omega) (by omega) HQ3.out).mono ?_; rintro e w3 ⟨rfl, k3⟩))
    exact ⟨rfl, ((K2.out.alloc a3Z).trans (k3.two (n := w.heap.size) (by simp at hw2; omega))).nb, Or.inl ⟨HL.out, rfl⟩⟩
  | some y3 =>
  obtain ⟨xs, l3⟩ := y3
  have HQ3 := hidW hq3
  have HY3 := hidW (many_keeps pN_snd.keeps 3 l2 xs l3 HY2.out hq3)
  cases hq4 : pL 2400 (pIn bdP) l3 with
  | none =>
    have HQ4 := hidW hq4
    have HL := hidW (show pMe bdP l = none by rw [pMe_row]; show (pL 4 pTy l).bind _ = _; rw [hq1, Option.bind_some]; show (pTy l1).bind _ = _; rw [hq2, Option.bind_some]; show (pMany pN 3 l2).bind _ = _; rw [hq3, Option.bind_some]; show (pL 2400 (pIn bdP) l3).bind _ = _; rw [hq4]; rfl)
    clear hq1 hq2 hq3 hq4
    go_enter Try.func50, Try.ntmps50
    · go_upto_region 6 with (first
        | (go_at_call 77; refine (takeTypes_yes (M := 4) (by omega) HR.out HY.out HQ1.out).mono ?_; rintro e w1 ⟨P, pp, rfl, t1, r1, k1⟩; have v1 := (k1.block (w.heap.size + 1) (by simp) (fun e2 => by unfold OneB at e2; omega)).trans HV.out; have b1 := (k1.block w.heap.size (by simp; omega) (fun e2 => by unfold OneB at e2; omega)).trans HE.out; have c0 := blk_cell v1 0 rfl; have z0 := blk_free v1 0; have T1 := hidW (show TysAt (er (oldB (w.heap.size + 2)) w1) P ps by simpa using t1); have R1 := hidW (r1.set (k := (w.heap.size + 1)) (o := 0) (by omega) (by omega) (.slice P ps.length pp)); have K1 := hidW ((HK.out.trans k1.one).set (p := ⟨(w.heap.size + 1), 0, none⟩) (Or.inr (by simp)) (.slice P ps.length pp)); have V1 := hidW (set_block v1 0 (.slice P ps.length pp)); have B1 := hidW ((Below.heap_setCell w1 ⟨(w.heap.size + 1), 0, none⟩ (.slice P ps.length pp) w.heap.size (by simp)).trans b1); have T1B := hidW (T1.out.sub (er_set (k := (w.heap.size + 1)) (o := 0) (v := .slice P ps.length pp) (by omega) (Nat.le_refl _))); clear t1 r1 k1 v1 b1 T1)
        | (go_at_call 78; refine (takeType_yes R1.out HY1.out HQ2.out).mono ?_; rintro e w2 ⟨rfl, r2, k2⟩; have v2 := (k2.block (w.heap.size + 1) (lt_of_blk V1.out) (fun e2 => by unfold OneB at e2; omega)).trans V1.out; have b2 := (k2.block w.heap.size (lt_of_blk B1.out) (fun e2 => by unfold OneB at e2; omega)).trans B1.out; have c1 := blk_cell v2 1 rfl; have z1 := blk_free v2 1; have c2 := blk_cell v2 2 rfl; have z2 := blk_free v2 2; have R2 := hidW ((r2.set (k := (w.heap.size + 1)) (o := 1) (by omega) (by omega) (.int .i64 t.kind)).set (k := (w.heap.size + 1)) (o := 2) (by omega) (by omega) (.int .i64 t.cls)); have K2 := hidW (((K1.out.trans k2.one).set (p := ⟨(w.heap.size + 1), 1, none⟩) (Or.inr (by simp)) (.int .i64 t.kind)).set (p := ⟨(w.heap.size + 1), 2, none⟩) (Or.inr (by simp)) (.int .i64 t.cls)); have V2 := hidW (set_block (set_block v2 1 (.int .i64 t.kind)) 2 (.int .i64 t.cls)); have B2 := hidW ((Below.heap_setCell (w2.setCell ⟨(w.heap.size + 1), 1, none⟩ (.int .i64 t.kind)) ⟨(w.heap.size + 1), 2, none⟩ (.int .i64 t.cls) w.heap.size (by simp)).trans ((Below.heap_setCell w2 ⟨(w.heap.size + 1), 1, none⟩ (.int .i64 t.kind) w.heap.size (by simp)).trans b2)); have T2 := hidW (T1B.out.sub (((er_keep (p := p) (N := w.heap.size + 2) k2.one (by omega)).trans (er_set (k := (w.heap.size + 1)) (o := 1) (v := .int .i64 t.kind) (by omega) (Nat.le_refl _))).trans (er_set (k := (w.heap.size + 1)) (o := 2) (v := .int .i64 t.cls) (by omega) (Nat.le_refl _)))); clear r2 k2 v2 b2; have hw2 := lt_of_blk V2.out; have hp2 := R2.out.lt; have QA := hidW (arr_new ((w2.setCell ⟨(w.heap.size + 1), 1, none⟩ (.int .i64 t.kind)).setCell ⟨(w.heap.size + 1), 2, none⟩ (.int .i64 t.cls)) 3 #[.int .i64 0, .int .i64 0, .int .i64 0] 104 rfl (q := w2.heap.size) (by simp)))
        | (go_at_call 79; refine (takeRow_yes (R2.out.alloc a3Z) HY2.out QA.out (by simp at hp2; omega) (by simp at hw2; omega) (by omega) HQ3.out).mono ?_; rintro e w3 ⟨rfl, r3, a3, k3⟩; have v3 := (k3.block (w.heap.size + 1) (by simp at hw2 ⊢; omega) (fun e2 => by simp at hw2; rcases e2 with e2 | e2 <;> omega)).trans ((Below.heap_alloc _ _ _ hw2).trans V2.out); have b3 := (k3.block w.heap.size (by simp at hw2 ⊢; omega) (fun e2 => by simp at hw2; rcases e2 with e2 | e2 <;> omega)).trans ((Below.heap_alloc _ _ _ (lt_of_blk B2.out)).trans B2.out); have q0 := a3.cell 0 (by omega); have q1 := a3.cell 1 (by omega); have q2 := a3.cell 2 (by omega); have R3 := hidW r3; have k3n := k3.two (n := ((w2.setCell ⟨(w.heap.size + 1), 1, none⟩ (.int .i64 t.kind)).setCell ⟨(w.heap.size + 1), 2, none⟩ (.int .i64 t.cls)).heap.size) (by simp); have K3 := hidW ((K2.out.alloc a3Z).trans (k3.two (n := w.heap.size) (by simp at hw2; omega))); have V3 := hidW v3; have B3 := hidW b3; have T3 := hidW (T2.out.sub (er_keep (p := p) (N := w.heap.size + 2) (((Kp.refl _ _).alloc a3Z).trans k3n) (by omega))); clear r3 a3 k3 v3 b3 k3n))
      have c3 := blk_cell V3.out 3 rfl
      have c4 := blk_cell V3.out 4 rfl
      have c5 := blk_cell V3.out 5 rfl
      have z3 := blk_free V3.out 3
      have z4 := blk_free V3.out 4
      have z5 := blk_free V3.out 5
      go_cut [3] (fun s wx => s = .pointer (some ⟨(w.heap.size + 1), 0, none⟩) ∧ wx.heap[(w.heap.size + 1)]? = some (.cells #[.slice P ps.length pp, .int .i64 t.kind, .int .i64 t.cls, .int .i64 (nth (0 : Int) xs 0), .int .i64 (nth (0 : Int) xs 1), .int .i64 (nth (0 : Int) xs 2), .slice none 0 0, .slice none 0 0] 50 (0, 0)) ∧ Kp (OneB (w.heap.size + 1)) w3 wx)
      case first =>
        have hne : w.heap.size + 1 ≠ w2.heap.size := by simp at hw2; omega
        go_region_held3 (fun w' => w'.cell? ⟨w2.heap.size, 0, none⟩ = some (.int .i64 (nth (0 : Int) xs 0)) ∧ w'.cell? ⟨w2.heap.size, 1, none⟩ = some (.int .i64 (nth (0 : Int) xs 1)) ∧ w'.cell? ⟨w2.heap.size, 2, none⟩ = some (.int .i64 (nth (0 : Int) xs 2))) (go_keep) (fail)
        all_goals
          go_wp2
          go_meet
          case rel => exact ⟨rfl, set_block (set_block (set_block V3.out _ _) _ _) _ _, ((((Kp.refl (OneB (w.heap.size + 1)) w3).set (p := ⟨(w.heap.size + 1), _, none⟩) rfl _).set (p := ⟨(w.heap.size + 1), _, none⟩) rfl _).set (p := ⟨(w.heap.size + 1), _, none⟩) rfl _).drew⟩
      case rest =>
      obtain ⟨rfl, hx1, hx2⟩ := hcut
      have VX := hidW hx1
      have KX := hidW hx2
      have RX := hidW (R3.out.keep hx2 (fun e2 => by unfold OneB at e2; omega) (fun j hj => by rw [hj]; omega))
      have K4 := hidW (K3.out.trans (hx2.less fun j _ hj => Or.inr (by rw [hj]; omega)))
      have BX := hidW ((hx2.block w.heap.size (lt_of_blk B3.out) (fun e2 => by unfold OneB at e2; omega)).trans B3.out)
      have TX := hidW (T3.out.sub (er_to (T := oldB (w.heap.size + 2)) fun b hb hlt => ⟨hb, hx2.block b hlt fun e2 => by unfold oldB at hb; simp at hb; unfold OneB at e2; omega⟩))
      clear hx1 hx2 c3 c4 c5 z3 z4 z5
      go_wp2_with (go_at_call 80; refine (takeCode_no (M := 2400) (by omega) RX.out HY3.out HQ4.out).mono ?_; rintro e w4 ⟨rfl, k4⟩)
      exact ⟨rfl, (K4.out.trans k4.one).nb, Or.inl ⟨HL.out, rfl⟩⟩
  | some y4 =>
  obtain ⟨cs, l4⟩ := y4
  have HQ4 := hidW hq4
  have HY4 := hidW (pL_keeps (pIn_snd bdP) l3 cs l4 HY3.out hq4)
  cases hq5 : pL 8 pHd l4 with
  | none =>
    have HQ5 := hidW hq5
    have HL := hidW (show pMe bdP l = none by rw [pMe_row]; show (pL 4 pTy l).bind _ = _; rw [hq1, Option.bind_some]; show (pTy l1).bind _ = _; rw [hq2, Option.bind_some]; show (pMany pN 3 l2).bind _ = _; rw [hq3, Option.bind_some]; show (pL 2400 (pIn bdP) l3).bind _ = _; rw [hq4, Option.bind_some]; show (pL 8 pHd l4).bind _ = _; rw [hq5]; rfl)
    clear hq1 hq2 hq3 hq4 hq5
    go_enter Try.func50, Try.ntmps50
    · go_upto_region 6 with (first
        | (go_at_call 77; refine (takeTypes_yes (M := 4) (by omega) HR.out HY.out HQ1.out).mono ?_; rintro e w1 ⟨P, pp, rfl, t1, r1, k1⟩; have v1 := (k1.block (w.heap.size + 1) (by simp) (fun e2 => by unfold OneB at e2; omega)).trans HV.out; have b1 := (k1.block w.heap.size (by simp; omega) (fun e2 => by unfold OneB at e2; omega)).trans HE.out; have c0 := blk_cell v1 0 rfl; have z0 := blk_free v1 0; have T1 := hidW (show TysAt (er (oldB (w.heap.size + 2)) w1) P ps by simpa using t1); have R1 := hidW (r1.set (k := (w.heap.size + 1)) (o := 0) (by omega) (by omega) (.slice P ps.length pp)); have K1 := hidW ((HK.out.trans k1.one).set (p := ⟨(w.heap.size + 1), 0, none⟩) (Or.inr (by simp)) (.slice P ps.length pp)); have V1 := hidW (set_block v1 0 (.slice P ps.length pp)); have B1 := hidW ((Below.heap_setCell w1 ⟨(w.heap.size + 1), 0, none⟩ (.slice P ps.length pp) w.heap.size (by simp)).trans b1); have T1B := hidW (T1.out.sub (er_set (k := (w.heap.size + 1)) (o := 0) (v := .slice P ps.length pp) (by omega) (Nat.le_refl _))); clear t1 r1 k1 v1 b1 T1)
        | (go_at_call 78; refine (takeType_yes R1.out HY1.out HQ2.out).mono ?_; rintro e w2 ⟨rfl, r2, k2⟩; have v2 := (k2.block (w.heap.size + 1) (lt_of_blk V1.out) (fun e2 => by unfold OneB at e2; omega)).trans V1.out; have b2 := (k2.block w.heap.size (lt_of_blk B1.out) (fun e2 => by unfold OneB at e2; omega)).trans B1.out; have c1 := blk_cell v2 1 rfl; have z1 := blk_free v2 1; have c2 := blk_cell v2 2 rfl; have z2 := blk_free v2 2; have R2 := hidW ((r2.set (k := (w.heap.size + 1)) (o := 1) (by omega) (by omega) (.int .i64 t.kind)).set (k := (w.heap.size + 1)) (o := 2) (by omega) (by omega) (.int .i64 t.cls)); have K2 := hidW (((K1.out.trans k2.one).set (p := ⟨(w.heap.size + 1), 1, none⟩) (Or.inr (by simp)) (.int .i64 t.kind)).set (p := ⟨(w.heap.size + 1), 2, none⟩) (Or.inr (by simp)) (.int .i64 t.cls)); have V2 := hidW (set_block (set_block v2 1 (.int .i64 t.kind)) 2 (.int .i64 t.cls)); have B2 := hidW ((Below.heap_setCell (w2.setCell ⟨(w.heap.size + 1), 1, none⟩ (.int .i64 t.kind)) ⟨(w.heap.size + 1), 2, none⟩ (.int .i64 t.cls) w.heap.size (by simp)).trans ((Below.heap_setCell w2 ⟨(w.heap.size + 1), 1, none⟩ (.int .i64 t.kind) w.heap.size (by simp)).trans b2)); have T2 := hidW (T1B.out.sub (((er_keep (p := p) (N := w.heap.size + 2) k2.one (by omega)).trans (er_set (k := (w.heap.size + 1)) (o := 1) (v := .int .i64 t.kind) (by omega) (Nat.le_refl _))).trans (er_set (k := (w.heap.size + 1)) (o := 2) (v := .int .i64 t.cls) (by omega) (Nat.le_refl _)))); clear r2 k2 v2 b2; have hw2 := lt_of_blk V2.out; have hp2 := R2.out.lt; have QA := hidW (arr_new ((w2.setCell ⟨(w.heap.size + 1), 1, none⟩ (.int .i64 t.kind)).setCell ⟨(w.heap.size + 1), 2, none⟩ (.int .i64 t.cls)) 3 #[.int .i64 0, .int .i64 0, .int .i64 0] 104 rfl (q := w2.heap.size) (by simp)))
        | (go_at_call 79; refine (takeRow_yes (R2.out.alloc a3Z) HY2.out QA.out (by simp at hp2; omega) (by simp at hw2; omega) (by omega) HQ3.out).mono ?_; rintro e w3 ⟨rfl, r3, a3, k3⟩; have v3 := (k3.block (w.heap.size + 1) (by simp at hw2 ⊢; omega) (fun e2 => by simp at hw2; rcases e2 with e2 | e2 <;> omega)).trans ((Below.heap_alloc _ _ _ hw2).trans V2.out); have b3 := (k3.block w.heap.size (by simp at hw2 ⊢; omega) (fun e2 => by simp at hw2; rcases e2 with e2 | e2 <;> omega)).trans ((Below.heap_alloc _ _ _ (lt_of_blk B2.out)).trans B2.out); have q0 := a3.cell 0 (by omega); have q1 := a3.cell 1 (by omega); have q2 := a3.cell 2 (by omega); have R3 := hidW r3; have k3n := k3.two (n := ((w2.setCell ⟨(w.heap.size + 1), 1, none⟩ (.int .i64 t.kind)).setCell ⟨(w.heap.size + 1), 2, none⟩ (.int .i64 t.cls)).heap.size) (by simp); have K3 := hidW ((K2.out.alloc a3Z).trans (k3.two (n := w.heap.size) (by simp at hw2; omega))); have V3 := hidW v3; have B3 := hidW b3; have T3 := hidW (T2.out.sub (er_keep (p := p) (N := w.heap.size + 2) (((Kp.refl _ _).alloc a3Z).trans k3n) (by omega))); clear r3 a3 k3 v3 b3 k3n))
      have c3 := blk_cell V3.out 3 rfl
      have c4 := blk_cell V3.out 4 rfl
      have c5 := blk_cell V3.out 5 rfl
      have z3 := blk_free V3.out 3
      have z4 := blk_free V3.out 4
      have z5 := blk_free V3.out 5
      go_cut [3] (fun s wx => s = .pointer (some ⟨(w.heap.size + 1), 0, none⟩) ∧ wx.heap[(w.heap.size + 1)]? = some (.cells #[.slice P ps.length pp, .int .i64 t.kind, .int .i64 t.cls, .int .i64 (nth (0 : Int) xs 0), .int .i64 (nth (0 : Int) xs 1), .int .i64 (nth (0 : Int) xs 2), .slice none 0 0, .slice none 0 0] 50 (0, 0)) ∧ Kp (OneB (w.heap.size + 1)) w3 wx)
      case first =>
        have hne : w.heap.size + 1 ≠ w2.heap.size := by simp at hw2; omega
        go_region_held3 (fun w' => w'.cell? ⟨w2.heap.size, 0, none⟩ = some (.int .i64 (nth (0 : Int) xs 0)) ∧ w'.cell? ⟨w2.heap.size, 1, none⟩ = some (.int .i64 (nth (0 : Int) xs 1)) ∧ w'.cell? ⟨w2.heap.size, 2, none⟩ = some (.int .i64 (nth (0 : Int) xs 2))) (go_keep) (fail)
        all_goals
          go_wp2
          go_meet
          case rel => exact ⟨rfl, set_block (set_block (set_block V3.out _ _) _ _) _ _, ((((Kp.refl (OneB (w.heap.size + 1)) w3).set (p := ⟨(w.heap.size + 1), _, none⟩) rfl _).set (p := ⟨(w.heap.size + 1), _, none⟩) rfl _).set (p := ⟨(w.heap.size + 1), _, none⟩) rfl _).drew⟩
      case rest =>
      obtain ⟨rfl, hx1, hx2⟩ := hcut
      have VX := hidW hx1
      have KX := hidW hx2
      have RX := hidW (R3.out.keep hx2 (fun e2 => by unfold OneB at e2; omega) (fun j hj => by rw [hj]; omega))
      have K4 := hidW (K3.out.trans (hx2.less fun j _ hj => Or.inr (by rw [hj]; omega)))
      have BX := hidW ((hx2.block w.heap.size (lt_of_blk B3.out) (fun e2 => by unfold OneB at e2; omega)).trans B3.out)
      have TX := hidW (T3.out.sub (er_to (T := oldB (w.heap.size + 2)) fun b hb hlt => ⟨hb, hx2.block b hlt fun e2 => by unfold oldB at hb; simp at hb; unfold OneB at e2; omega⟩))
      clear hx1 hx2 c3 c4 c5 z3 z4 z5
      go_wp2_with (first
        | (go_at_call 80; refine (takeCode_yes (M := 2400) (by omega) RX.out HY3.out HQ4.out).mono ?_; rintro e w4 ⟨C, pc, rfl, t4, r4, k4⟩; have v4 := (k4.block (w.heap.size + 1) (lt_of_blk VX.out) (fun e2 => by unfold OneB at e2; omega)).trans VX.out; have b4 := (k4.block w.heap.size (lt_of_blk BX.out) (fun e2 => by unfold OneB at e2; omega)).trans BX.out; have c6 := blk_cell v4 6 rfl; have z6 := blk_free v4 6; have hvx := lt_of_blk VX.out; have R4 := hidW (r4.set (k := (w.heap.size + 1)) (o := 6) (by omega) (by omega) (.slice C cs.length pc)); have K5 := hidW ((K4.out.trans k4.one).set (p := ⟨(w.heap.size + 1), 6, none⟩) (Or.inr (by simp)) (.slice C cs.length pc)); have V4 := hidW (set_block v4 6 (.slice C cs.length pc)); have B4 := hidW ((Below.heap_setCell w4 ⟨(w.heap.size + 1), 6, none⟩ (.slice C cs.length pc) w.heap.size (by simp)).trans b4); have T4 := hidW (TX.out.sub ((er_keep (p := p) (N := w.heap.size + 2) k4.one (by omega)).trans (er_set (k := (w.heap.size + 1)) (o := 6) (v := .slice C cs.length pc) (by omega) (Nat.le_refl _)))); have C4 := hidW (t4.sub ((er_less (N := w.heap.size + 2) (by omega)).trans (er_set (k := (w.heap.size + 1)) (o := 6) (v := .slice C cs.length pc) (by omega) (Nat.le_refl _)))); clear t4 r4 k4 v4 b4)
        | (go_at_call 82; refine (takeHandlers_no (M := 8) (by omega) R4.out HY4.out HQ5.out).mono ?_; rintro e w5 ⟨rfl, k5⟩))
      exact ⟨rfl, (K5.out.trans k5.one).nb, Or.inl ⟨HL.out, rfl⟩⟩
  | some y5 =>
    obtain ⟨hs, r⟩ := y5
    have HQ5 := hidW hq5
    have HL := hidW (show pMe bdP l = some (⟨ps, t, nth (0 : Int) xs 0, nth (0 : Int) xs 1, nth (0 : Int) xs 2, cs, hs⟩, r) by rw [pMe_row]; show (pL 4 pTy l).bind _ = _; rw [hq1, Option.bind_some]; show (pTy l1).bind _ = _; rw [hq2, Option.bind_some]; show (pMany pN 3 l2).bind _ = _; rw [hq3, Option.bind_some]; show (pL 2400 (pIn bdP) l3).bind _ = _; rw [hq4, Option.bind_some]; show (pL 8 pHd l4).bind _ = _; rw [hq5]; rfl)
    have HX := hidW (many_i64 3 l2 xs l3 hq3)
    have HT := hidW (pTy_i64 hq2)
    clear hq1 hq2 hq3 hq4 hq5
    go_enter Try.func50, Try.ntmps50
    · go_upto_region 6 with (first
        | (go_at_call 77; refine (takeTypes_yes (M := 4) (by omega) HR.out HY.out HQ1.out).mono ?_; rintro e w1 ⟨P, pp, rfl, t1, r1, k1⟩; have v1 := (k1.block (w.heap.size + 1) (by simp) (fun e2 => by unfold OneB at e2; omega)).trans HV.out; have b1 := (k1.block w.heap.size (by simp; omega) (fun e2 => by unfold OneB at e2; omega)).trans HE.out; have c0 := blk_cell v1 0 rfl; have z0 := blk_free v1 0; have T1 := hidW (show TysAt (er (oldB (w.heap.size + 2)) w1) P ps by simpa using t1); have R1 := hidW (r1.set (k := (w.heap.size + 1)) (o := 0) (by omega) (by omega) (.slice P ps.length pp)); have K1 := hidW ((HK.out.trans k1.one).set (p := ⟨(w.heap.size + 1), 0, none⟩) (Or.inr (by simp)) (.slice P ps.length pp)); have V1 := hidW (set_block v1 0 (.slice P ps.length pp)); have B1 := hidW ((Below.heap_setCell w1 ⟨(w.heap.size + 1), 0, none⟩ (.slice P ps.length pp) w.heap.size (by simp)).trans b1); have T1B := hidW (T1.out.sub (er_set (k := (w.heap.size + 1)) (o := 0) (v := .slice P ps.length pp) (by omega) (Nat.le_refl _))); clear t1 r1 k1 v1 b1 T1)
        | (go_at_call 78; refine (takeType_yes R1.out HY1.out HQ2.out).mono ?_; rintro e w2 ⟨rfl, r2, k2⟩; have v2 := (k2.block (w.heap.size + 1) (lt_of_blk V1.out) (fun e2 => by unfold OneB at e2; omega)).trans V1.out; have b2 := (k2.block w.heap.size (lt_of_blk B1.out) (fun e2 => by unfold OneB at e2; omega)).trans B1.out; have c1 := blk_cell v2 1 rfl; have z1 := blk_free v2 1; have c2 := blk_cell v2 2 rfl; have z2 := blk_free v2 2; have R2 := hidW ((r2.set (k := (w.heap.size + 1)) (o := 1) (by omega) (by omega) (.int .i64 t.kind)).set (k := (w.heap.size + 1)) (o := 2) (by omega) (by omega) (.int .i64 t.cls)); have K2 := hidW (((K1.out.trans k2.one).set (p := ⟨(w.heap.size + 1), 1, none⟩) (Or.inr (by simp)) (.int .i64 t.kind)).set (p := ⟨(w.heap.size + 1), 2, none⟩) (Or.inr (by simp)) (.int .i64 t.cls)); have V2 := hidW (set_block (set_block v2 1 (.int .i64 t.kind)) 2 (.int .i64 t.cls)); have B2 := hidW ((Below.heap_setCell (w2.setCell ⟨(w.heap.size + 1), 1, none⟩ (.int .i64 t.kind)) ⟨(w.heap.size + 1), 2, none⟩ (.int .i64 t.cls) w.heap.size (by simp)).trans ((Below.heap_setCell w2 ⟨(w.heap.size + 1), 1, none⟩ (.int .i64 t.kind) w.heap.size (by simp)).trans b2)); have T2 := hidW (T1B.out.sub (((er_keep (p := p) (N := w.heap.size + 2) k2.one (by omega)).trans (er_set (k := (w.heap.size + 1)) (o := 1) (v := .int .i64 t.kind) (by omega) (Nat.le_refl _))).trans (er_set (k := (w.heap.size + 1)) (o := 2) (v := .int .i64 t.cls) (by omega) (Nat.le_refl _)))); clear r2 k2 v2 b2; have hw2 := lt_of_blk V2.out; have hp2 := R2.out.lt; have QA := hidW (arr_new ((w2.setCell ⟨(w.heap.size + 1), 1, none⟩ (.int .i64 t.kind)).setCell ⟨(w.heap.size + 1), 2, none⟩ (.int .i64 t.cls)) 3 #[.int .i64 0, .int .i64 0, .int .i64 0] 104 rfl (q := w2.heap.size) (by simp)))
        | (go_at_call 79; refine (takeRow_yes (R2.out.alloc a3Z) HY2.out QA.out (by simp at hp2; omega) (by simp at hw2; omega) (by omega) HQ3.out).mono ?_; rintro e w3 ⟨rfl, r3, a3, k3⟩; have v3 := (k3.block (w.heap.size + 1) (by simp at hw2 ⊢; omega) (fun e2 => by simp at hw2; rcases e2 with e2 | e2 <;> omega)).trans ((Below.heap_alloc _ _ _ hw2).trans V2.out); have b3 := (k3.block w.heap.size (by simp at hw2 ⊢; omega) (fun e2 => by simp at hw2; rcases e2 with e2 | e2 <;> omega)).trans ((Below.heap_alloc _ _ _ (lt_of_blk B2.out)).trans B2.out); have q0 := a3.cell 0 (by omega); have q1 := a3.cell 1 (by omega); have q2 := a3.cell 2 (by omega); have R3 := hidW r3; have k3n := k3.two (n := ((w2.setCell ⟨(w.heap.size + 1), 1, none⟩ (.int .i64 t.kind)).setCell ⟨(w.heap.size + 1), 2, none⟩ (.int .i64 t.cls)).heap.size) (by simp); have K3 := hidW ((K2.out.alloc a3Z).trans (k3.two (n := w.heap.size) (by simp at hw2; omega))); have V3 := hidW v3; have B3 := hidW b3; have T3 := hidW (T2.out.sub (er_keep (p := p) (N := w.heap.size + 2) (((Kp.refl _ _).alloc a3Z).trans k3n) (by omega))); clear r3 a3 k3 v3 b3 k3n))
      have c3 := blk_cell V3.out 3 rfl
      have c4 := blk_cell V3.out 4 rfl
      have c5 := blk_cell V3.out 5 rfl
      have z3 := blk_free V3.out 3
      have z4 := blk_free V3.out 4
      have z5 := blk_free V3.out 5
      go_cut [3] (fun s wx => s = .pointer (some ⟨(w.heap.size + 1), 0, none⟩) ∧ wx.heap[(w.heap.size + 1)]? = some (.cells #[.slice P ps.length pp, .int .i64 t.kind, .int .i64 t.cls, .int .i64 (nth (0 : Int) xs 0), .int .i64 (nth (0 : Int) xs 1), .int .i64 (nth (0 : Int) xs 2), .slice none 0 0, .slice none 0 0] 50 (0, 0)) ∧ Kp (OneB (w.heap.size + 1)) w3 wx)
      case first =>
        have hne : w.heap.size + 1 ≠ w2.heap.size := by simp at hw2; omega
        go_region_held3 (fun w' => w'.cell? ⟨w2.heap.size, 0, none⟩ = some (.int .i64 (nth (0 : Int) xs 0)) ∧ w'.cell? ⟨w2.heap.size, 1, none⟩ = some (.int .i64 (nth (0 : Int) xs 1)) ∧ w'.cell? ⟨w2.heap.size, 2, none⟩ = some (.int .i64 (nth (0 : Int) xs 2))) (go_keep) (fail)
        all_goals
          go_wp2
          go_meet
          case rel => exact ⟨rfl, set_block (set_block (set_block V3.out _ _) _ _) _ _, ((((Kp.refl (OneB (w.heap.size + 1)) w3).set (p := ⟨(w.heap.size + 1), _, none⟩) rfl _).set (p := ⟨(w.heap.size + 1), _, none⟩) rfl _).set (p := ⟨(w.heap.size + 1), _, none⟩) rfl _).drew⟩
      case rest =>
      obtain ⟨rfl, hx1, hx2⟩ := hcut
      have VX := hidW hx1
      have KX := hidW hx2
      have RX := hidW (R3.out.keep hx2 (fun e2 => by unfold OneB at e2; omega) (fun j hj => by rw [hj]; omega))
      have K4 := hidW (K3.out.trans (hx2.less fun j _ hj => Or.inr (by rw [hj]; omega)))
      have BX := hidW ((hx2.block w.heap.size (lt_of_blk B3.out) (fun e2 => by unfold OneB at e2; omega)).trans B3.out)
      have TX := hidW (T3.out.sub (er_to (T := oldB (w.heap.size + 2)) fun b hb hlt => ⟨hb, hx2.block b hlt fun e2 => by unfold oldB at hb; simp at hb; unfold OneB at e2; omega⟩))
      clear hx1 hx2 c3 c4 c5 z3 z4 z5
      go_wp2_with (first
        | (go_at_call 80; refine (takeCode_yes (M := 2400) (by omega) RX.out HY3.out HQ4.out).mono ?_; rintro e w4 ⟨C, pc, rfl, t4, r4, k4⟩; have v4 := (k4.block (w.heap.size + 1) (lt_of_blk VX.out) (fun e2 => by unfold OneB at e2; omega)).trans VX.out; have b4 := (k4.block w.heap.size (lt_of_blk BX.out) (fun e2 => by unfold OneB at e2; omega)).trans BX.out; have c6 := blk_cell v4 6 rfl; have z6 := blk_free v4 6; have hvx := lt_of_blk VX.out; have R4 := hidW (r4.set (k := (w.heap.size + 1)) (o := 6) (by omega) (by omega) (.slice C cs.length pc)); have K5 := hidW ((K4.out.trans k4.one).set (p := ⟨(w.heap.size + 1), 6, none⟩) (Or.inr (by simp)) (.slice C cs.length pc)); have V4 := hidW (set_block v4 6 (.slice C cs.length pc)); have B4 := hidW ((Below.heap_setCell w4 ⟨(w.heap.size + 1), 6, none⟩ (.slice C cs.length pc) w.heap.size (by simp)).trans b4); have T4 := hidW (TX.out.sub ((er_keep (p := p) (N := w.heap.size + 2) k4.one (by omega)).trans (er_set (k := (w.heap.size + 1)) (o := 6) (v := .slice C cs.length pc) (by omega) (Nat.le_refl _)))); have C4 := hidW (t4.sub ((er_less (N := w.heap.size + 2) (by omega)).trans (er_set (k := (w.heap.size + 1)) (o := 6) (v := .slice C cs.length pc) (by omega) (Nat.le_refl _)))); clear t4 r4 k4 v4 b4)
        | (go_at_call 82; refine (takeHandlers_yes (M := 8) (by omega) R4.out HY4.out HQ5.out).mono ?_; rintro e w5 ⟨K, pk, rfl, t5, r5, k5⟩; have v5 := (k5.block (w.heap.size + 1) (lt_of_blk V4.out) (fun e2 => by unfold OneB at e2; omega)).trans V4.out; have b5 := (k5.block w.heap.size (lt_of_blk B4.out) (fun e2 => by unfold OneB at e2; omega)).trans B4.out; have g0 := blk_cell v5 0 rfl; have g1 := blk_cell v5 1 rfl; have g2 := blk_cell v5 2 rfl; have g3 := blk_cell v5 3 rfl; have g4 := blk_cell v5 4 rfl; have g5 := blk_cell v5 5 rfl; have g6 := blk_cell v5 6 rfl; have g7 := blk_cell v5 7 rfl; have z7 := blk_free v5 7; have f0 := blk_cell b5 0 rfl; have f1 := blk_cell b5 1 rfl; have f2 := blk_cell b5 2 rfl; have f3 := blk_cell b5 3 rfl; have f4 := blk_cell b5 4 rfl; have f5 := blk_cell b5 5 rfl; have f6 := blk_cell b5 6 rfl; have f7 := blk_cell b5 7 rfl; have y0 := blk_free b5 0; have y1 := blk_free b5 1; have y2 := blk_free b5 2; have y3 := blk_free b5 3; have y4 := blk_free b5 4; have y5 := blk_free b5 5; have y6 := blk_free b5 6; have y7 := blk_free b5 7; have hv4 := lt_of_blk V4.out; have R5 := hidW r5; have K6 := hidW (K5.out.trans k5.one); have V5 := hidW v5; have B5 := hidW b5; have T5 := hidW (T4.out.sub (er_keep (p := p) (N := w.heap.size + 2) k5.one (by omega))); have C5 := hidW (C4.out.sub (er_keep (p := p) (N := w.heap.size + 2) k5.one (by omega))); have H5 := hidW (t5.sub (er_less (N := w.heap.size + 2) (by simp at hv4 ⊢; omega))); clear t5 r5 k5 v5 b5))
      refine bodyPost_ret (results_cell_row rfl _ _ w.heap.size _ _ _ _ rfl (set_block (set_block (set_block (set_block (set_block (set_block (set_block (set_block ((Below.heap_setCell _ _ _ _ (by simp)).trans B5.out) 0 (.slice P ps.length pp)) 1 (.int .i64 t.kind)) 2 (.int .i64 t.cls)) 3 (.int .i64 (nth (0 : Int) xs 0))) 4 (.int .i64 (nth (0 : Int) xs 1))) 5 (.int .i64 (nth (0 : Int) xs 2))) 6 (.slice C cs.length pc)) 7 (.slice K hs.length pk)) Try.underlying50 rfl info_me) rfl ?_
      refine ⟨(((((((((K6.out.set (p := ⟨(w.heap.size + 1), 7, none⟩) (Or.inr (by simp)) _).set (p := ⟨w.heap.size, 0, none⟩) (Or.inr (by simp)) _).set (p := ⟨w.heap.size, 1, none⟩) (Or.inr (by simp)) _).set (p := ⟨w.heap.size, 2, none⟩) (Or.inr (by simp)) _).set (p := ⟨w.heap.size, 3, none⟩) (Or.inr (by simp)) _).set (p := ⟨w.heap.size, 4, none⟩) (Or.inr (by simp)) _).set (p := ⟨w.heap.size, 5, none⟩) (Or.inr (by simp)) _).set (p := ⟨w.heap.size, 6, none⟩) (Or.inr (by simp)) _).set (p := ⟨w.heap.size, 7, none⟩) (Or.inr (by simp)) _).nb, Or.inr ⟨_, r, P, C, K, pp, pc, pk, HL.out, rfl, ?_, (((((((((R5.out.set (k := (w.heap.size + 1)) (o := 7) (by omega) (by omega) _).set (k := w.heap.size) (o := 0) (by omega) (by omega) _).set (k := w.heap.size) (o := 1) (by omega) (by omega) _).set (k := w.heap.size) (o := 2) (by omega) (by omega) _).set (k := w.heap.size) (o := 3) (by omega) (by omega) _).set (k := w.heap.size) (o := 4) (by omega) (by omega) _).set (k := w.heap.size) (o := 5) (by omega) (by omega) _).set (k := w.heap.size) (o := 6) (by omega) (by omega) _).set (k := w.heap.size) (o := 7) (by omega) (by omega) _)⟩⟩
      refine MeAt.sub (W := er (oldB (w.heap.size + 2)) w5) (((((((((er_set (k := (w.heap.size + 1)) (o := 7) (by omega) (Nat.le_refl _)).trans (er_set (k := w.heap.size) (o := 0) (by omega) (Nat.le_refl _))).trans (er_set (k := w.heap.size) (o := 1) (by omega) (Nat.le_refl _))).trans (er_set (k := w.heap.size) (o := 2) (by omega) (Nat.le_refl _))).trans (er_set (k := w.heap.size) (o := 3) (by omega) (Nat.le_refl _))).trans (er_set (k := w.heap.size) (o := 4) (by omega) (Nat.le_refl _))).trans (er_set (k := w.heap.size) (o := 5) (by omega) (Nat.le_refl _))).trans (er_set (k := w.heap.size) (o := 6) (by omega) (Nat.le_refl _))).trans (er_set (k := w.heap.size) (o := 7) (by omega) (by omega))) ⟨T5.out, C5.out, H5.out, HT.out.1, HT.out.2, HX.out 0, HX.out 1, HX.out 2⟩

end Go.Proofs.Ytgiiapenmjollab
