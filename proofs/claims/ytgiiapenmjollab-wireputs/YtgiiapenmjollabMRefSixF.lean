/-
  What the document says of some instructions on registers.
-/
import Derived.Test.YtgiiapenmjollabMRefSixBox
namespace Go.Proofs.Ytgiiapenmjollab
open Go.RowKit
set_option linter.unusedVariables false
set_option linter.unusedSimpArgs false

set_option maxRecDepth 100000 in
set_option maxHeartbeats 64000000 in
theorem rrins_F (x y z : Int) (i : In) (cs : List Cl) (ms : List Me) (A B : Option Addr) (a b : Nat) (m : Me) (P C K : Option Addr) (p c k : Nat) (Q : Option Addr) (q : Nat) (w : World) (hnc : cs.length ≤ 12) (hnm : ms.length ≤ 8) (hcode : m.code.length ≤ maxLen) (hlo : 1 ≤ m.regs) (hhi : m.regs ≤ 90)
    (hA : ClsAt w A cs) (hB : MesAt w B ms) (hQ : IntsAt w Q i.args)
    (hk : kindsOf i.op = some (x, y, z)) (hgrp : Hid (i.op = 18)) :
    Calls Try.prog 45 #[fiV cs.length ms.length A B a b, meV m P C K p c k, inV i Q q] w fun e w' => e = .returned (.bool (rinB cs ms m.code.length m.regs m.ret.kind i)) ∧ Bl w w' := by
  unfold maxLen at hcode
  have HFB : Hid (∀ j, j < 3 → rfldB m.regs (three i.a i.b i.c j) (three x y z j) = false → rinB cs ms m.code.length m.regs m.ret.kind i = false) := fun j hj => rin_field hk hj
  have HFG : Hid ((∀ j, j < 3 → rfldB m.regs (three i.a i.b i.c j) (three x y z j) = true) → rinB cs ms m.code.length m.regs m.ret.kind i = rrestB cs ms m.code.length m.regs m.ret.kind i) := rin_rest hk
  have HA : Hid (ClsAt w A cs) := hA
  have HB : Hid (MesAt w B ms) := hB
  have HQ : Hid (IntsAt w Q i.args) := hQ
  have HR : Hid (RBox (boxed5 w cs.length ms.length A B a b m P C K p c k i Q q x y z) w.heap.size cs.length ms.length A B a b m P C K p c k i Q q x y z) := boxed5_is w cs.length ms.length A B a b m P C K p c k i Q q x y z
  have HK : Hid (kindsOf i.op = some (x, y, z)) := hk
  clear hA hB hQ hk
  go_enter Try.func45, Try.ntmps45
  go_wp2_with (go_at_call 72; refine (rnamed_any _ _ x y z HK.out).mono ?_; rintro e w' ⟨rfl, rfl⟩)
  go_loopw [10] (fun v wr => ∃ j : Nat, j ≤ 3 ∧ v = .int .i64 j ∧ Hid (∀ l, l < j → rfldB m.regs (three i.a i.b i.c l) (three x y z l) = true) ∧ Hid (Bl w wr) ∧ Hid (RBox wr w.heap.size cs.length ms.length A B a b m P C K p c k i Q q x y z)) (fun v _ => 3 - (intOf v).toNat)
  case atStart => exact ⟨0, by omega, rfl, fun l hl => absurd hl (Nat.not_lt_zero _), ((((((Bl.refl w).alloc _).alloc _).alloc _).alloc _).alloc _), HR⟩
  case round =>
    clear HR
    obtain ⟨j, hj, rfl, hgj, hg, HR⟩ := hrel
    obtain ⟨w0, hw0⟩ : ∃ w0, w0 = wr := ⟨wr, rfl⟩
    subst hw0
    by_cases hjl : j < 3
    · have gk := fut_cell (HR.out.rk.at j hjl)
      have gd := fut_cell (HR.out.rd.at j hjl)
      have y0 := fut_cell HR.out.rm.1
      have y1 := fut_cell HR.out.rm.2.1
      have y2 := fut_cell HR.out.rm.2.2.1
      have y3 := fut_cell HR.out.rm.2.2.2.1
      have y4 := fut_cell HR.out.rm.2.2.2.2.1
      have y5 := fut_cell HR.out.rm.2.2.2.2.2.1
      have y6 := fut_cell HR.out.rm.2.2.2.2.2.2.1
      have y7 := fut_cell HR.out.rm.2.2.2.2.2.2.2
      have HN0 : Hid (rfldB m.regs (three i.a i.b i.c j) (three x y z j) = false → rinB cs ms m.code.length m.regs m.ret.kind i = false) := HFB.out j hjl
      by_cases hz : three x y z j = 0
      · have HY0 : Hid (rfldB m.regs (three i.a i.b i.c j) (three x y z j) = decide (three i.a i.b i.c j = 0)) := by unfold rfldB; rw [if_pos hz]; rfl
        rw [hz] at gk
        have hreg := hz
        clear hz
        by_cases hv : three i.a i.b i.c j = 0
        · have HY : Hid (rfldB m.regs (three i.a i.b i.c j) (three x y z j) = true) := HY0.out.trans (decide_eq_true hv)
          rw [hv] at gd
          clear hv hreg
          have hreg := hjl
          go_wp2
          refine wp_region_fut (by kernel_rfl) (by kernel_rfl) fun hne => ?_
          repeat (go_big_quiet_step ((go_at_call 73; exact Calls.fut_eq _ (rreg_any m _ _ _ _ _ _ _ _ _ hlo hhi) (congrArg Value.bool hreg))))
          refine wpQuiet_nil ?_
          rintro _ ⟨⟨w2, hw2⟩, rfl⟩
          go_wp2
          go_roundw
          case rel => exact ⟨j + 1, by omega, by go_num, fun l hl => if h : l < j then hgj.out l h else by have : l = j := by omega
                                                                                                           subst this; exact HY.out, hg.out.trans hw2, HR.out.bl hw2⟩
          case measure => simp [intOf]; omega
        · have HN : Hid (rinB cs ms m.code.length m.regs m.ret.kind i = false) := HN0.out (HY0.out.trans (decide_eq_false hv))
          have hv' : (three i.a i.b i.c j != 0) = true := by simpa using hv
          clear hv hreg
          have hreg := hjl
          go_wp2
          refine wp_region_fut (by kernel_rfl) (by kernel_rfl) fun hne => ?_
          repeat (go_big_quiet_step ((go_at_call 73; exact Calls.fut_eq _ (rreg_any m _ _ _ _ _ _ _ _ _ hlo hhi) (congrArg Value.bool hreg))))
          refine wpQuiet_nil ?_
          rintro _ ⟨⟨w2, hw2⟩, rfl⟩
          go_wp2
          go_ret
          exact ⟨ret_bool HN.out.symm, hg.out.trans hw2⟩
      · have hz' : (three x y z j == 0) = false := by simpa using hz
        by_cases hp : 0 < three x y z j
        · have hp' : decide (0 < three x y z j) = true := decide_eq_true hp
          have HY0 : Hid (rfldB m.regs (three i.a i.b i.c j) (three x y z j) = regB m.regs (three i.a i.b i.c j) (three x y z j)) := by unfold rfldB; rw [if_neg hz, if_pos hp]; rfl
          cases hreg : regB m.regs (three i.a i.b i.c j) (three x y z j)
          · have HN : Hid (rinB cs ms m.code.length m.regs m.ret.kind i = false) := HN0.out (HY0.out.trans hreg)
            go_wp2
            refine wp_region_fut (by kernel_rfl) (by kernel_rfl) fun hne => ?_
            repeat (go_big_quiet_step ((go_at_call 73; exact Calls.fut_eq _ (rreg_any m _ _ _ _ _ _ _ _ _ hlo hhi) (congrArg Value.bool hreg))))
            refine wpQuiet_nil ?_
            rintro _ ⟨⟨w2, hw2⟩, rfl⟩
            go_wp2
            go_ret
            exact ⟨ret_bool HN.out.symm, hg.out.trans hw2⟩
          · have HY : Hid (rfldB m.regs (three i.a i.b i.c j) (three x y z j) = true) := HY0.out.trans hreg
            go_wp2
            refine wp_region_fut (by kernel_rfl) (by kernel_rfl) fun hne => ?_
            repeat (go_big_quiet_step ((go_at_call 73; exact Calls.fut_eq _ (rreg_any m _ _ _ _ _ _ _ _ _ hlo hhi) (congrArg Value.bool hreg))))
            refine wpQuiet_nil ?_
            rintro _ ⟨⟨w2, hw2⟩, rfl⟩
            go_wp2
            go_roundw
            case rel => exact ⟨j + 1, by omega, by go_num, fun l hl => if h : l < j then hgj.out l h else by have : l = j := by omega
                                                                                                             subst this; exact HY.out, hg.out.trans hw2, HR.out.bl hw2⟩
            case measure => simp [intOf]; omega
        · have hp' : decide (0 < three x y z j) = false := decide_eq_false hp
          have HY : Hid (rfldB m.regs (three i.a i.b i.c j) (three x y z j) = true) := by unfold rfldB; rw [if_neg hz, if_neg hp]; rfl
          have hreg := hz
          go_wp2
          refine wp_region_fut (by kernel_rfl) (by kernel_rfl) fun hne => ?_
          repeat (go_big_quiet_step ((go_at_call 73; exact Calls.fut_eq _ (rreg_any m _ _ _ _ _ _ _ _ _ hlo hhi) (congrArg Value.bool hreg))))
          refine wpQuiet_nil ?_
          rintro _ ⟨⟨w2, hw2⟩, rfl⟩
          go_wp2
          go_roundw
          case rel => exact ⟨j + 1, by omega, by go_num, fun l hl => if h : l < j then hgj.out l h else by have : l = j := by omega
                                                                                                           subst this; exact HY.out, hg.out.trans hw2, HR.out.bl hw2⟩
          case measure => simp [intOf]; omega
    · obtain rfl : j = 3 := by omega
      have HRR : Hid (rinB cs ms m.code.length m.regs m.ret.kind i = rrestB cs ms m.code.length m.regs m.ret.kind i) := HFG.out hgj.out
      clear HFB HFG hgj hj hjl
      obtain ⟨a0, a1, a2, a3, a4, a5⟩ := HR.out.ri.lit
      obtain ⟨m0, m1, m2, m3, m4, m5, m6, m7⟩ := HR.out.rm.lit
      obtain ⟨f0, f1⟩ := HR.out.rf.lit
      have G : Hid (Bl w0 w0) := Bl.refl w0
      by_cases hop : i.op = 18
      · rw [hop] at a0
        have HOP : Hid (i.op = 18) := hop
        clear hop
        by_cases hn : i.n = 0
        · rw [hn] at a4
          have hre : rinB cs ms m.code.length m.regs m.ret.kind i = (decide (0 ≤ i.a ∧ i.a < ms.length ∧ i.args.length = (nth me0 ms i.a.toNat).params.length) && (List.range i.args.length).all (fun k => regB m.regs (nth (0 : Int) i.args k) (nth ty0 (nth me0 ms i.a.toNat).params k).kind)) := HRR.out.trans (by simp [rrestB, HOP.out, hn])
          clear HRR hn
          have z0 := fut_cell a0
          have z5 := fut_cell a5
          have zf := fut_cell f1
          by_cases ha : 0 ≤ i.a ∧ i.a ≤ (ms.length : Int) - 1
          · obtain ⟨u, hu⟩ : ∃ u : Nat, i.a = u := ⟨i.a.toNat, by omega⟩
            have hul : u < ms.length := by omega
            have da : decide (0 ≤ (u : Int) ∧ (u : Int) ≤ (ms.length : Int) - 1) = true := decide_eq_true (by omega)
            rw [hu] at a1 hre
            rw [Int.toNat_natCast] at hre
            clear ha
            have z1 := fut_cell a1
            have hcl := HB.out.bl hg.out
            rcases hcl.2 with h0 | ⟨b', off', rfl, hcc⟩
            · omega
            obtain ⟨P', C', K', p', c', k', k1, -, -, -, -, -, -, -, hme⟩ := hcc u hul
            have hty := hme.1
            have hfl := hty.1
            have hql := HQ.out.1
            unfold maxLen at hfl hql
            have zk := fut_cell k1
            have HTY : Hid (TysAt w0 P' (nth me0 ms u).params) := hty
            have HRE : Hid (rinB cs ms m.code.length m.regs m.ret.kind i = (decide (0 ≤ (u : Int) ∧ (u : Int) < ms.length ∧ i.args.length = (nth me0 ms u).params.length) && (List.range i.args.length).all (fun k => regB m.regs (nth (0 : Int) i.args k) (nth ty0 (nth me0 ms u).params k).kind))) := hre
            have HU : Hid (i.a = u) := hu
            clear hcl hcc hty hme hre hu
            generalize hF : (nth me0 ms u).params = Fd at *
            clear hF
            by_cases hl : i.args.length = Fd.length
            · have HL : Hid (i.args.length = Fd.length) := hl
              have HALL : Hid (rinB cs ms m.code.length m.regs m.ret.kind i = (List.range i.args.length).all (fun k => regB m.regs (nth (0 : Int) i.args k) (nth ty0 Fd k).kind)) := HRE.out.trans (by rw [decide_eq_true ⟨by omega, by omega, hl⟩]; rfl)
              have hl' : ((i.args.length : Int) != (Fd.length : Int)) = false := by rw [hl]; simp
              clear hl HRE
              go_wp2
              refine wp_region_fut (by kernel_rfl) (by kernel_rfl) fun hne => ?_
              repeat (go_big_quiet_step ((go_at_call 41; exact Calls.fut_same_eq _ (within_any _ _ _ _) (congrArg Value.bool da))))
              refine wpQuiet_nil ?_
              rintro _ ⟨⟨w2, hw2⟩, rfl⟩
              go_wp2
              clear hne z0 z1 z5 zf zk
              go_loopw [13] (fun v wr2 => ∃ j : Nat, j ≤ i.args.length ∧ v = .int .i64 j ∧ Hid (∀ l, l < j → regB m.regs (nth (0 : Int) i.args l) (nth ty0 Fd l).kind = true) ∧ Hid (Bl w0 wr2)) (fun v _ => i.args.length - (intOf v).toNat)
              case atStart => exact ⟨0, Nat.zero_le _, rfl, fun l hl => absurd hl (Nat.not_lt_zero _), hw2⟩
              case round =>
                obtain ⟨j, hj, rfl, hgj, hg2⟩ := hrel
                have R2 := HR.out.bl hg2.out
                obtain ⟨e0, e1, e2, e3, e4, e5⟩ := R2.ri.lit
                by_cases hjl : j < i.args.length
                · obtain ⟨q0, q1, q2, q3, q4, q5, q6, q7⟩ := R2.rm.lit
                  obtain ⟨p0, p1⟩ := R2.rf.lit
                  rw [HU.out] at e1
                  have k2 := hg2.out.cell k1
                  have hLL := HL.out
                  rcases (HTY.out.bl hg2.out).2 with h0 | ⟨bt, ot, rfl, htt⟩
                  · omega
                  have t1 := (htt j (by omega)).1
                  rcases (HQ.out.bl (hg.out.trans hg2.out)).2 with h0 | ⟨bq, oq, rfl, hqq⟩
                  · omega
                  have t2 := (hqq j hjl).1
                  have hjf : j < Fd.length := by omega
                  clear hLL
                  have x1 := fut_cell e1
                  have x5 := fut_cell e5
                  have y0 := fut_cell q0
                  have y1 := fut_cell q1
                  have y2 := fut_cell q2
                  have y3 := fut_cell q3
                  have y4 := fut_cell q4
                  have y5 := fut_cell q5
                  have y6 := fut_cell q6
                  have y7 := fut_cell q7
                  have xf := fut_cell p1
                  have xk := fut_cell k2
                  have xt := fut_cell t1
                  have xq := fut_cell t2
                  clear R2 e0 e1 e2 e3 e4 q0 q1 q2 q3 q4 q5 q6 q7 p0 p1 k2 t1 t2 htt hqq
                  cases hreg : regB m.regs (nth (0 : Int) i.args j) (nth ty0 Fd j).kind
                  · have HNN : Hid (rinB cs ms m.code.length m.regs m.ret.kind i = false) := HALL.out.trans (List.all_eq_false.2 ⟨j, by simpa using hjl, by rw [hreg]; decide⟩)
                    go_wp2
                    refine wp_region_fut (by kernel_rfl) (by kernel_rfl) fun hne => ?_
                    repeat (go_big_quiet_step ((go_at_call 73; exact Calls.fut_eq _ (rreg_any m _ _ _ _ _ _ _ _ _ hlo hhi) (congrArg Value.bool hreg))))
                    refine wpQuiet_nil ?_
                    rintro _ ⟨⟨w3, hw3⟩, rfl⟩
                    go_wp2
                    go_ret
                    exact ⟨ret_bool HNN.out.symm, (hg.out.trans hg2.out).trans hw3⟩
                  · have HY : Hid (regB m.regs (nth (0 : Int) i.args j) (nth ty0 Fd j).kind = true) := hreg
                    go_wp2
                    refine wp_region_fut (by kernel_rfl) (by kernel_rfl) fun hne => ?_
                    repeat (go_big_quiet_step ((go_at_call 73; exact Calls.fut_eq _ (rreg_any m _ _ _ _ _ _ _ _ _ hlo hhi) (congrArg Value.bool hreg))))
                    refine wpQuiet_nil ?_
                    rintro _ ⟨⟨w3, hw3⟩, rfl⟩
                    go_wp2
                    go_roundw
                    case rel => exact ⟨j + 1, by omega, by go_num, fun l hl => if h : l < j then hgj.out l h else by have : l = j := by omega
                                                                                                                     subst this; exact HY.out, hg2.out.trans hw3⟩
                    case measure => simp [intOf]; omega
                · obtain rfl : j = i.args.length := by omega
                  have HNN : Hid (rinB cs ms m.code.length m.regs m.ret.kind i = true) := HALL.out.trans (List.all_eq_true.2 fun l hl => hgj.out l (by simpa using hl))
                  go_wp2
                  go_ret
                  exact ⟨ret_bool HNN.out.symm, hg.out.trans hg2.out⟩
            · have HNN : Hid (rinB cs ms m.code.length m.regs m.ret.kind i = false) := HRE.out.trans (by rw [decide_eq_false (by omega)]; rfl)
              have hl' : ((i.args.length : Int) != (Fd.length : Int)) = true := by simp; omega
              clear HRE
              go_wp2
              refine wp_region_fut (by kernel_rfl) (by kernel_rfl) fun hne => ?_
              repeat (go_big_quiet_step ((go_at_call 41; exact Calls.fut_same_eq _ (within_any _ _ _ _) (congrArg Value.bool da))))
              refine wpQuiet_nil ?_
              rintro _ ⟨⟨w2, hw2⟩, rfl⟩
              go_wp2
              go_ret
              exact ⟨ret_bool HNN.out.symm, hg.out.trans hw2⟩
          · have da : decide (0 ≤ i.a ∧ i.a ≤ (ms.length : Int) - 1) = false := decide_eq_false ha
            have z1 := fut_cell a1
            have HNN : Hid (rinB cs ms m.code.length m.regs m.ret.kind i = false) := hre.trans (by rw [decide_eq_false (by omega)]; rfl)
            clear hre ha
            go_wp2
            refine wp_region_fut (by kernel_rfl) (by kernel_rfl) fun hne => ?_
            repeat (go_big_quiet_step ((go_at_call 41; exact Calls.fut_same_eq _ (within_any _ _ _ _) (congrArg Value.bool da))))
            refine wpQuiet_nil ?_
            rintro _ ⟨⟨w2, hw2⟩, rfl⟩
            go_wp2
            go_ret
            exact ⟨ret_bool HNN.out.symm, hg.out.trans hw2⟩
        · have hn' : (i.n != 0) = true := by simpa using hn
          go_wp2
          go_ret
          refine ⟨ret_bool ?_, hg.out.trans G.out⟩
          rw [HRR.out, Bool.eq_iff_iff]; simp [rrestB, HOP.out, hn]
      exact absurd hgrp.out hop

end Go.Proofs.Ytgiiapenmjollab
