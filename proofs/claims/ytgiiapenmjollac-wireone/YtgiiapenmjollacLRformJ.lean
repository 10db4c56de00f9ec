/-
  Package rform: a method's room and its code, each by a contract.
-/
import Derived.Test.YtgiiapenmjollacLRformH
import Derived.Test.YtgiiapenmjollacLRformI
import Derived.Test.YtgiiapenmjollacLSformForm
namespace Go.Proofs.Ytgiiapenmjollac
open Go.RowKit
set_option linter.unusedVariables false
set_option linter.unusedSimpArgs false

theorem max_one (n : Nat) : (if (1 : Int) < (n : Int) then (n : Int) else 1) = max 1 (n : Int) := by split <;> omega

set_option maxHeartbeats 4000000 in
theorem proom_any (m : Me) (P C K : Option Addr) (p c k : Nat) (w : World) (hP : TysAt w P m.params) (h4 : m.params.length ≤ 4) (hk : ∀ k, k < m.params.length → (nth ty0 m.params k).kind ≠ 0) :
    Calls Try.prog 37 #[meV m P C K p c k] w fun e w' => e = .returned (.bool (proomB m)) ∧ Bl w w' := by
  have hal : Bl w (w.alloc (meO m P C K p c k)) := (Bl.refl _).alloc _
  have XP : Hid (∀ x : Fut (w.alloc (meO m P C K p c k)), TysAt x.to P m.params) := fun x => hP.bl (hal.trans x.is)
  have HK : Hid (∀ k, k < m.params.length → (nth ty0 m.params k).kind ≠ 0) := hk
  obtain ⟨x0, x1, x2, x3, x4, x5, x6, x7⟩ := MeCells.new w m P C K p c k
  have y0 := fut_cell x0
  have y3 := fut_cell x3
  have y4 := fut_cell x4
  have y5 := fut_cell x5
  clear x0 x1 x2 x3 x4 x5 x6 x7 hP hk
  have hsl := slotsN_le m.params
  unfold proomB
  by_cases hr : m.stack = 0
  · have hr' : (m.stack == 0) = true := by simpa using hr
    rw [decide_eq_true hr, Bool.true_and]
    clear hr
    by_cases hs : m.locs = 0
    · have ds : (m.locs == 0) = true := by simpa using hs
      rw [decide_eq_true hs, Bool.true_and]
      clear hs
      obtain ⟨N, hN⟩ : ∃ N, slotsN m.params = N := ⟨_, rfl⟩
      rw [hN] at hsl ⊢
      obtain ⟨R, hR⟩ : ∃ R, decide (max 1 (N : Int) ≤ m.regs ∧ m.regs ≤ 90) = R := ⟨_, rfl⟩
      rw [hR]
      rw [← max_one N] at hR
      go_enter Try.func37, Try.ntmps37
      go_wp2
      refine wp_region_fut (by kernel_rfl) (by kernel_rfl) fun hne => ?_
      repeat (go_big_quiet_step (first
        | (go_at_call 27; exact Calls.fut_eq _ (slots_any _ _ _ _ (XP.out _) (by omega) HK.out) (congrArg (fun n : Nat => Value.int .i64 (n : Int)) hN))
        | (go_at_call 13; exact Calls.fut_same_eq _ (span_any _ _ _ _) (congrArg Value.bool hR))))
      refine wpQuiet_nil ?_
      rintro _ ⟨⟨w2, hw2⟩, rfl⟩
      go_wp2
      all_goals
        go_ret
        exact ⟨rfl, hal.trans hw2⟩
    · have ds : (m.locs == 0) = false := by simpa using hs
      rw [decide_eq_false hs, Bool.false_and]
      go_enter Try.func37, Try.ntmps37
      go_wp2
      refine wp_region_fut (by kernel_rfl) (by kernel_rfl) fun hne => ?_
      repeat (go_big_quiet_step (fail))
      refine wpQuiet_nil ?_
      rintro _ ⟨⟨w2, hw2⟩, rfl⟩
      go_wp2
      go_ret
      exact ⟨rfl, hal.trans hw2⟩
  · have hr' : (m.stack == 0) = false := by simpa using hr
    rw [decide_eq_false hr, Bool.false_and]
    go_enter Try.func37, Try.ntmps37
    go_wp2
    refine wp_region_fut (by kernel_rfl) (by kernel_rfl) fun hne => ?_
    repeat (go_big_quiet_step (fail))
    refine wpQuiet_nil ?_
    rintro _ ⟨⟨w2, hw2⟩, rfl⟩
    go_wp2
    go_ret
    exact ⟨rfl, hal.trans hw2⟩

/-- Two boxes: a method's with its file, an instruction's. -/
theorem rmc_far {wr : World} {b : Nat} {m : Me} {P C K : Option Addr} {p c k nc nm : Nat} {A B : Option Addr} {x y : Nat} (H : RmC wr b m P C K p c k nc nm A B x y) (o : Obj) : RmC (wr.alloc o) b m P C K p c k nc nm A B x y := H.bl ((Bl.refl wr).alloc o)

set_option maxRecDepth 100000 in
set_option maxHeartbeats 8000000 in
theorem pcode_any (cs : List Cl) (ms : List Me) (A B : Option Addr) (x y : Nat) (m : Me) (P C K : Option Addr) (p c k : Nat) (w : World) (h1 : 1 ≤ m.regs) (h2 : m.regs ≤ 90) (hA : ClsAt w A cs) (hB : MesAt w B ms) (hC : InsAt w C m.code) :
    Calls Try.prog 38 #[rmV m P C K p c k cs.length ms.length A B x y] w fun e w' => e = .returned (.bool (pcodeB cs ms m)) ∧ Bl w w' := by
  have HA : Hid (ClsAt w A cs) := hA
  have HBB : Hid (MesAt w B ms) := hB
  have HC : Hid (InsAt w C m.code) := hC
  have hcode := hC.1
  have HNC : Hid (cs.length ≤ maxLen) := hA.1
  have HCODE : Hid (m.code.length ≤ maxLen) := hcode
  have HAL : Hid (Bl w (w.alloc (rmO m P C K p c k cs.length ms.length A B x y))) := (Bl.refl _).alloc _
  have HM := hidp (RmC.new w m P C K p c k cs.length ms.length A B x y)
  clear hA hB hC
  unfold maxLen at hcode
  unfold pcodeB
  by_cases hl : 1 ≤ (m.code.length : Int) ∧ (m.code.length : Int) ≤ 2400
  · have d1 : decide (1 ≤ (m.code.length : Int) ∧ (m.code.length : Int) ≤ 2400) = true := decide_eq_true hl
    rw [d1, Bool.true_and]
    have HG : Hid ((∀ q, q < m.code.length → pinB cs ms m.code.length m.regs m.ret.kind (nth in0 m.code q) = true) → m.code.all (pinB cs ms m.code.length m.regs m.ret.kind) = true) := all_good
    have HB : Hid (∀ q, q < m.code.length → pinB cs ms m.code.length m.regs m.ret.kind (nth in0 m.code q) = false → m.code.all (pinB cs ms m.code.length m.regs m.ret.kind) = false) := fun q => all_bad
    obtain ⟨R, hR⟩ : ∃ R, m.code.all (pinB cs ms m.code.length m.regs m.ret.kind) = R := ⟨_, rfl⟩
    rw [hR] at HG HB ⊢
    clear hR
    go_enter Try.func38, Try.ntmps38
    go_wp2_with (go_at_call 13; refine (span_any _ _ _ _).mono ?_; rintro e w0 ⟨he, hw0⟩; rw [d1] at he; subst he; rw [hw0]; clear hw0 w0)
    go_loopw [15] (fun i wr => ∃ q : Nat, q ≤ m.code.length ∧ i = .int .i64 q ∧ Hid (∀ j, j < q → pinB cs ms m.code.length m.regs m.ret.kind (nth in0 m.code j) = true) ∧ Hid (Bl w wr) ∧ Hid (RmC wr w.heap.size m P C K p c k cs.length ms.length A B x y)) (fun i _ => m.code.length - (intOf i).toNat)
    case atStart => exact ⟨0, Nat.zero_le _, rfl, fun j hj => absurd hj (Nat.not_lt_zero _), HAL.out, HM.out⟩
    case round =>
      clear HM HAL
      obtain ⟨q, hq, rfl, hgq, hg, HM⟩ := hrel
      by_cases hql : q < m.code.length
      · rcases HC.out.2 with h0 | ⟨b, off, rfl, hcell⟩
        · omega
        obtain ⟨c0, c1, c2, c3, c4, hok, Q', q', c5, hq5⟩ := hcell q hql
        replace c0 := hg.out.cell c0
        replace c1 := hg.out.cell c1
        replace c2 := hg.out.cell c2
        replace c3 := hg.out.cell c3
        replace c4 := hg.out.cell c4
        replace c5 := hg.out.cell c5
        have HN : Hid (pinB cs ms m.code.length m.regs m.ret.kind (nth in0 m.code q) = false → R = false) := HB.out q hql
        generalize hX : nth in0 m.code q = X at *
        have HX : Hid (nth in0 m.code q = X) := hX
        have HOK := hidp hok
        have HQ5 : Hid (IntsAt w Q' X.args) := hq5
        clear hcell HB hX hq5 hok
        have HAW : Hid (Bl wr (wr.alloc (riO X Q' q'))) := (Bl.refl wr).alloc _
        have HMW := hidp (rmc_far HM.out (riO X Q' q'))
        have HIW := hidp (RiC.new wr X Q' q')
        obtain ⟨m0, m1, m2, m3, m4, m5, m6, m7, m8, m9⟩ := HMW.out
        have hdef : pinB cs ms m.code.length m.regs m.ret.kind X = (decide (1 ≤ X.op ∧ X.op ≤ 24) && (pregB cs ms m.regs m.ret.kind X && (pnumB cs.length m.code.length X && prestB X))) := rfl
        obtain ⟨T0, hT0⟩ : ∃ T0, decide (1 ≤ X.op ∧ X.op ≤ 24) = T0 := ⟨_, rfl⟩
        obtain ⟨T1, hT1⟩ : ∃ T1, pregB cs ms m.regs m.ret.kind X = T1 := ⟨_, rfl⟩
        obtain ⟨T2, hT2⟩ : ∃ T2, pnumB cs.length m.code.length X = T2 := ⟨_, rfl⟩
        obtain ⟨T3, hT3⟩ : ∃ T3, prestB X = T3 := ⟨_, rfl⟩
        have HDEF : Hid (pinB cs ms m.code.length m.regs m.ret.kind X = (T0 && (T1 && (T2 && T3)))) := by rw [← hT0, ← hT1, ← hT2, ← hT3]; exact hdef
        clear hdef HG
        cases T0
        · have HF := HN.out (by rw [HDEF.out]; rfl)
          clear HN
          go_wp2_with (first
            | (go_at_call 13; refine (span_any _ _ _ _).mono ?_; rintro e w0 ⟨he, hw0⟩; rw [hT0] at he; subst he; rw [hw0]; clear hw0 w0))
          go_ret
          exact ⟨ret_bool HF.symm, hg.out.trans HAW.out⟩
        cases T1
        · have HF := HN.out (by rw [HDEF.out]; rfl)
          clear HN
          go_wp2_with (first
            | (go_at_call 13; refine (span_any _ _ _ _).mono ?_; rintro e w0 ⟨he, hw0⟩; rw [hT0] at he; subst he; rw [hw0]; clear hw0 w0)
            | (go_at_call 48; refine (preg_any X cs ms _ _ _ _ m _ _ _ _ _ _ _ _ _ h1 h2 HOK.out (HA.out.bl (hg.out.trans HAW.out)) (HBB.out.bl (hg.out.trans HAW.out)) (HQ5.out.bl (hg.out.trans HAW.out))).mono ?_; rintro e w1 ⟨he, g1⟩; rw [hT1] at he; subst he))
          go_ret
          exact ⟨ret_bool HF.symm, (hg.out.trans HAW.out).trans g1⟩
        cases T2
        · have HF := HN.out (by rw [HDEF.out]; rfl)
          clear HN
          go_wp2_with (first
            | (go_at_call 13; refine (span_any _ _ _ _).mono ?_; rintro e w0 ⟨he, hw0⟩; rw [hT0] at he; subst he; rw [hw0]; clear hw0 w0)
            | (go_at_call 48; refine (preg_any X cs ms _ _ _ _ m _ _ _ _ _ _ _ _ _ h1 h2 HOK.out (HA.out.bl (hg.out.trans HAW.out)) (HBB.out.bl (hg.out.trans HAW.out)) (HQ5.out.bl (hg.out.trans HAW.out))).mono ?_; rintro e w1 ⟨he, g1⟩; rw [hT1] at he; subst he; obtain ⟨a0, a1, a2, a3, a4, a5, a6, a7, a8, a9⟩ := HMW.out.bl g1; obtain ⟨i0, i1, i2, i3, i4, i5⟩ := HIW.out.bl g1)
            | (go_at_call 49; refine (pnum_any X _ _ _ _ _ _ m _ _ _ _ _ _ _ _ _ HNC.out HCODE.out).mono ?_; rintro e w2 ⟨he, g2⟩; rw [hT2] at he; subst he))
          go_ret
          exact ⟨ret_bool HF.symm, ((hg.out.trans HAW.out).trans g1).trans g2⟩
        cases T3
        · have HF := HN.out (by rw [HDEF.out]; rfl)
          clear HN
          go_wp2_with (first
            | (go_at_call 13; refine (span_any _ _ _ _).mono ?_; rintro e w0 ⟨he, hw0⟩; rw [hT0] at he; subst he; rw [hw0]; clear hw0 w0)
            | (go_at_call 48; refine (preg_any X cs ms _ _ _ _ m _ _ _ _ _ _ _ _ _ h1 h2 HOK.out (HA.out.bl (hg.out.trans HAW.out)) (HBB.out.bl (hg.out.trans HAW.out)) (HQ5.out.bl (hg.out.trans HAW.out))).mono ?_; rintro e w1 ⟨he, g1⟩; rw [hT1] at he; subst he; obtain ⟨a0, a1, a2, a3, a4, a5, a6, a7, a8, a9⟩ := HMW.out.bl g1; obtain ⟨i0, i1, i2, i3, i4, i5⟩ := HIW.out.bl g1)
            | (go_at_call 49; refine (pnum_any X _ _ _ _ _ _ m _ _ _ _ _ _ _ _ _ HNC.out HCODE.out).mono ?_; rintro e w2 ⟨he, g2⟩; rw [hT2] at he; subst he; obtain ⟨j0, j1, j2, j3, j4, j5⟩ := HIW.out.bl (g1.trans g2))
            | (go_at_call 50; refine (prest_any X _ _ _ HQ5.out.1).mono ?_; rintro e w3 ⟨he, g3⟩; rw [hT3] at he; subst he))
          go_ret
          exact ⟨ret_bool HF.symm, (((hg.out.trans HAW.out).trans g1).trans g2).trans g3⟩
        · have HT : Hid (pinB cs ms m.code.length m.regs m.ret.kind X = true) := by rw [HDEF.out]; rfl
          clear HN
          go_wp2_with (first
            | (go_at_call 13; refine (span_any _ _ _ _).mono ?_; rintro e w0 ⟨he, hw0⟩; rw [hT0] at he; subst he; rw [hw0]; clear hw0 w0)
            | (go_at_call 48; refine (preg_any X cs ms _ _ _ _ m _ _ _ _ _ _ _ _ _ h1 h2 HOK.out (HA.out.bl (hg.out.trans HAW.out)) (HBB.out.bl (hg.out.trans HAW.out)) (HQ5.out.bl (hg.out.trans HAW.out))).mono ?_; rintro e w1 ⟨he, g1⟩; rw [hT1] at he; subst he; obtain ⟨a0, a1, a2, a3, a4, a5, a6, a7, a8, a9⟩ := HMW.out.bl g1; obtain ⟨i0, i1, i2, i3, i4, i5⟩ := HIW.out.bl g1)
            | (go_at_call 49; refine (pnum_any X _ _ _ _ _ _ m _ _ _ _ _ _ _ _ _ HNC.out HCODE.out).mono ?_; rintro e w2 ⟨he, g2⟩; rw [hT2] at he; subst he; obtain ⟨j0, j1, j2, j3, j4, j5⟩ := HIW.out.bl (g1.trans g2))
            | (go_at_call 50; refine (prest_any X _ _ _ HQ5.out.1).mono ?_; rintro e w3 ⟨he, g3⟩; rw [hT3] at he; subst he))
          go_roundw
          case rel => exact ⟨q + 1, by omega, by go_num, fun j hj => if h : j < q then hgq.out j h else by have : j = q := by omega
                                                                                                           subst this; rw [HX.out]; exact HT.out, (((hg.out.trans HAW.out).trans g1).trans g2).trans g3, HMW.out.bl ((g1.trans g2).trans g3)⟩
          case measure => simp [intOf]; omega
      · have hkk : q = m.code.length := by omega
        subst hkk
        have HF := HG.out hgq.out
        clear HG
        go_wp2
        go_ret
        exact ⟨ret_bool HF.symm, hg.out⟩
  · have d1 : decide (1 ≤ (m.code.length : Int) ∧ (m.code.length : Int) ≤ 2400) = false := decide_eq_false hl
    rw [d1, Bool.false_and]
    go_enter Try.func38, Try.ntmps38
    go_wp2_with (go_at_call 13; refine (span_any _ _ _ _).mono ?_; rintro e w0 ⟨he, hw0⟩; rw [d1] at he; subst he; rw [hw0]; clear hw0 w0)
    go_ret
    exact ⟨rfl, HAL.out⟩

set_option maxRecDepth 100000 in
set_option maxHeartbeats 8000000 in
theorem pme_any (cs : List Cl) (ms : List Me) (A B : Option Addr) (x y : Nat) (m : Me) (P C K : Option Addr) (p c k : Nat) (w : World) (hA : ClsAt w A cs) (hB : MesAt w B ms) (hm : MeAt w m P C K) :
    Calls Try.prog 21 #[rmV m P C K p c k cs.length ms.length A B x y] w fun e w' => e = .returned (.bool (pmeB cs ms m)) ∧ Bl w w' := by
  have HA : Hid (ClsAt w A cs) := hA
  have HBB : Hid (MesAt w B ms) := hB
  have HME : Hid (MeAt w m P C K) := hm
  have HAL : Hid (Bl w (w.alloc (rmO m P C K p c k cs.length ms.length A B x y))) := (Bl.refl _).alloc _
  have HM := hidp (RmC.new w m P C K p c k cs.length ms.length A B x y)
  have hnc := hA.1
  unfold maxLen at hnc
  clear hA hB hm
  unfold pmeB
  cases hh : mhB cs.length m
  · rw [Bool.false_and]
    go_enter Try.func21, Try.ntmps21
    go_wp2_with (go_at_call 14; refine (mayHead_any m _ _ _ _ _ _ _ _ (HME.out.bl HAL.out)).mono ?_; rintro e w1 ⟨he, g1⟩; rw [hh] at he; subst he)
    go_ret
    exact ⟨rfl, HAL.out.trans g1⟩
  · rw [Bool.true_and]
    have h4 : m.params.length ≤ 4 := by
      have := hh; unfold mhB at this; rw [Bool.and_eq_true, decide_eq_true_eq] at this; exact this.1
    have HKT : Hid (∀ k, k < m.params.length → (nth ty0 m.params k).kind ≠ 0) := fun k hk => by have := mh_prm hh k hk; omega
    cases hr : proomB m
    · rw [Bool.false_and]
      go_enter Try.func21, Try.ntmps21
      go_wp2_with (first
        | (go_at_call 14; refine (mayHead_any m _ _ _ _ _ _ _ _ (HME.out.bl HAL.out)).mono ?_; rintro e w1 ⟨he, g1⟩; rw [hh] at he; subst he; obtain ⟨a0, a1, a2, a3, a4, a5, a6, a7, a8, a9⟩ := HM.out.bl g1)
        | (go_at_call 37; refine (proom_any m _ _ _ _ _ _ _ (HME.out.1.bl (HAL.out.trans g1)) h4 HKT.out).mono ?_; rintro e w2 ⟨he, g2⟩; rw [hr] at he; subst he))
      go_ret
      exact ⟨rfl, (HAL.out.trans g1).trans g2⟩
    · rw [Bool.true_and]
      have hrr : 1 ≤ m.regs ∧ m.regs ≤ 90 := by
        have := hr; unfold proomB at this; rw [Bool.and_eq_true, Bool.and_eq_true, decide_eq_true_eq, decide_eq_true_eq, decide_eq_true_eq] at this; omega
      obtain ⟨h1, h2⟩ := hrr
      obtain ⟨R, hR⟩ : ∃ R, pcodeB cs ms m = R := ⟨_, rfl⟩
      rw [hR]
      go_enter Try.func21, Try.ntmps21
      go_wp2_with (first
        | (go_at_call 14; refine (mayHead_any m _ _ _ _ _ _ _ _ (HME.out.bl HAL.out)).mono ?_; rintro e w1 ⟨he, g1⟩; rw [hh] at he; subst he; obtain ⟨a0, a1, a2, a3, a4, a5, a6, a7, a8, a9⟩ := HM.out.bl g1)
        | (go_at_call 37; refine (proom_any m _ _ _ _ _ _ _ (HME.out.1.bl (HAL.out.trans g1)) h4 HKT.out).mono ?_; rintro e w2 ⟨he, g2⟩; rw [hr] at he; subst he; obtain ⟨b0, b1, b2, b3, b4, b5, b6, b7, b8, b9⟩ := HM.out.bl (g1.trans g2))
        | (go_at_call 38; refine (pcode_any cs ms _ _ _ _ m _ _ _ _ _ _ _ h1 h2 (HA.out.bl ((HAL.out.trans g1).trans g2)) (HBB.out.bl ((HAL.out.trans g1).trans g2)) (HME.out.2.1.bl ((HAL.out.trans g1).trans g2))).mono ?_; rintro e w3 ⟨he, g3⟩; rw [hR] at he; subst he))
      go_ret
      exact ⟨rfl, ((HAL.out.trans g1).trans g2).trans g3⟩

end Go.Proofs.Ytgiiapenmjollac
