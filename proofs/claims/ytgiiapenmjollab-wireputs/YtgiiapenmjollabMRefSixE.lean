/-
  What the document says of some instructions on registers.
-/
import Derived.Test.YtgiiapenmjollabMRefSixBox
namespace Go.Proofs.Ytgiiapenmjollab
open Go.RowKit
set_option linter.unusedVariables false
set_option linter.unusedSimpArgs false

set_option maxRecDepth 100000 in
set_option maxHeartbeats 64000000 in
theorem rrins_E (x y z : Int) (i : In) (cs : List Cl) (ms : List Me) (A B : Option Addr) (a b : Nat) (m : Me) (P C K : Option Addr) (p c k : Nat) (Q : Option Addr) (q : Nat) (w : World) (hnc : cs.length ≤ 12) (hnm : ms.length ≤ 8) (hcode : m.code.length ≤ maxLen) (hlo : 1 ≤ m.regs) (hhi : m.regs ≤ 90)
    (hA : ClsAt w A cs) (hB : MesAt w B ms) (hQ : IntsAt w Q i.args)
    (hk : kindsOf i.op = some (x, y, z)) (hgrp : i.op = 14 ∨ i.op = 15) :
    Calls Try.prog 45 #[fiV cs.length ms.length A B a b, meV m P C K p c k, inV i Q q] w fun e w' => e = .returned (.bool (rinB cs ms m.code.length m.regs m.ret.kind i)) ∧ Bl w w' := by
  unfold maxLen at hcode
  have HFB : Hid (∀ j, j < 3 → rfldB m.regs (three i.a i.b i.c j) (three x y z j) = false → rinB cs ms m.code.length m.regs m.ret.kind i = false) := fun j hj => rin_field hk hj
  have HFG : Hid ((∀ j, j < 3 → rfldB m.regs (three i.a i.b i.c j) (three x y z j) = true) → rinB cs ms m.code.length m.regs m.ret.kind i = rrestB cs ms m.code.length m.regs m.ret.kind i) := rin_rest hk
  have HA : Hid (ClsAt w A cs) := hA
  have HB : Hid (MesAt w B ms) := hB
  have HQ : Hid (IntsAt w Q i.args) := hQ
  have HR : Hid (RBox (boxed5 w cs.length ms.length A B a b m P C K p c k i Q q x y z) w.heap.size cs.length ms.length A B a b m P C K p c k i Q q x y z) := boxed5_is w cs.length ms.length A B a b m P C K p c k i Q q x y z
  have HK : Hid (kindsOf i.op = some (x, y, z)) := hk
  clear hA hB hQ hk
  go_enter Try.func45, Try.ntmps45
  go_wp2_with (go_at_call 72; refine (rnamed_any _ _ x y z HK.out).mono ?_; rintro e w' ⟨rfl, rfl⟩)
  go_loopw [10] (fun v wr => ∃ j : Nat, j ≤ 3 ∧ v = .int .i64 j ∧ Hid (∀ l, l < j → rfldB m.regs (three i.a i.b i.c l) (three x y z l) = true) ∧ Hid (Bl w wr) ∧ Hid (RBox wr w.heap.size cs.length ms.length A B a b m P C K p c k i Q q x y z)) (fun v _ => 3 - (intOf v).toNat)
  case atStart => exact ⟨0, by omega, rfl, fun l hl => absurd hl (Nat.not_lt_zero _), ((((((Bl.refl w).alloc _).alloc _).alloc _).alloc _).alloc _), HR⟩
  case round =>
    clear HR
    obtain ⟨j, hj, rfl, hgj, hg, HR⟩ := hrel
    by_cases hjl : j < 3
    · have gk := fut_cell (HR.out.rk.at j hjl)
      have gd := fut_cell (HR.out.rd.at j hjl)
      have y0 := fut_cell HR.out.rm.1
      have y1 := fut_cell HR.out.rm.2.1
      have y2 := fut_cell HR.out.rm.2.2.1
      have y3 := fut_cell HR.out.rm.2.2.2.1
      have y4 := fut_cell HR.out.rm.2.2.2.2.1
      have y5 := fut_cell HR.out.rm.2.2.2.2.2.1
      have y6 := fut_cell HR.out.rm.2.2.2.2.2.2.1
      have y7 := fut_cell HR.out.rm.2.2.2.2.2.2.2
      have HN0 : Hid (rfldB m.regs (three i.a i.b i.c j) (three x y z j) = false → rinB cs ms m.code.length m.regs m.ret.kind i = false) := HFB.out j hjl
      by_cases hz : three x y z j = 0
      · have HY0 : Hid (rfldB m.regs (three i.a i.b i.c j) (three x y z j) = decide (three i.a i.b i.c j = 0)) := by unfold rfldB; rw [if_pos hz]; rfl
        rw [hz] at gk
        have hreg := hz
        clear hz
        by_cases hv : three i.a i.b i.c j = 0
        · have HY : Hid (rfldB m.regs (three i.a i.b i.c j) (three x y z j) = true) := HY0.out.trans (decide_eq_true hv)
          rw [hv] at gd
          clear hv hreg
          have hreg := hjl
          go_wp2
          refine wp_region_fut (by kernel_rfl) (by kernel_rfl) fun hne => ?_
          repeat (go_big_quiet_step ((go_at_call 73; exact Calls.fut_eq _ (rreg_any m _ _ _ _ _ _ _ _ _ hlo hhi) (congrArg Value.bool hreg))))
          refine wpQuiet_nil ?_
          rintro _ ⟨⟨w2, hw2⟩, rfl⟩
          go_wp2
          go_roundw
          case rel => exact ⟨j + 1, by omega, by go_num, fun l hl => if h : l < j then hgj.out l h else by have : l = j := by omega
                                                                                                           subst this; exact HY.out, hg.out.trans hw2, HR.out.bl hw2⟩
          case measure => simp [intOf]; omega
        · have HN : Hid (rinB cs ms m.code.length m.regs m.ret.kind i = false) := HN0.out (HY0.out.trans (decide_eq_false hv))
          have hv' : (three i.a i.b i.c j != 0) = true := by simpa using hv
          clear hv hreg
          have hreg := hjl
          go_wp2
          refine wp_region_fut (by kernel_rfl) (by kernel_rfl) fun hne => ?_
          repeat (go_big_quiet_step ((go_at_call 73; exact Calls.fut_eq _ (rreg_any m _ _ _ _ _ _ _ _ _ hlo hhi) (congrArg Value.bool hreg))))
          refine wpQuiet_nil ?_
          rintro _ ⟨⟨w2, hw2⟩, rfl⟩
          go_wp2
          go_ret
          exact ⟨ret_bool HN.out.symm, hg.out.trans hw2⟩
      · have hz' : (three x y z j == 0) = false := by simpa using hz
        by_cases hp : 0 < three x y z j
        · have hp' : decide (0 < three x y z j) = true := decide_eq_true hp
          have HY0 : Hid (rfldB m.regs (three i.a i.b i.c j) (three x y z j) = regB m.regs (three i.a i.b i.c j) (three x y z j)) := by unfold rfldB; rw [if_neg hz, if_pos hp]; rfl
          cases hreg : regB m.regs (three i.a i.b i.c j) (three x y z j)
          · have HN : Hid (rinB cs ms m.code.length m.regs m.ret.kind i = false) := HN0.out (HY0.out.trans hreg)
            go_wp2
            refine wp_region_fut (by kernel_rfl) (by kernel_rfl) fun hne => ?_
            repeat (go_big_quiet_step ((go_at_call 73; exact Calls.fut_eq _ (rreg_any m _ _ _ _ _ _ _ _ _ hlo hhi) (congrArg Value.bool hreg))))
            refine wpQuiet_nil ?_
            rintro _ ⟨⟨w2, hw2⟩, rfl⟩
            go_wp2
            go_ret
            exact ⟨ret_bool HN.out.symm, hg.out.trans hw2⟩
          · have HY : Hid (rfldB m.regs (three i.a i.b i.c j) (three x y z j) = true) := HY0.out.trans hreg
            go_wp2
            refine wp_region_fut (by kernel_rfl) (by kernel_rfl) fun hne => ?_
            repeat (go_big_quiet_step ((go_at_call 73; exact Calls.fut_eq _ (rreg_any m _ _ _ _ _ _ _ _ _ hlo hhi) (congrArg Value.bool hreg))))
            refine wpQuiet_nil ?_
            rintro _ ⟨⟨w2, hw2⟩, rfl⟩
            go_wp2
            go_roundw
            case rel => exact ⟨j + 1, by omega, by go_num, fun l hl => if h : l < j then hgj.out l h else by have : l = j := by omega
                                                                                                             subst this; exact HY.out, hg.out.trans hw2, HR.out.bl hw2⟩
            case measure => simp [intOf]; omega
        · have hp' : decide (0 < three x y z j) = false := decide_eq_false hp
          have HY : Hid (rfldB m.regs (three i.a i.b i.c j) (three x y z j) = true) := by unfold rfldB; rw [if_neg hz, if_neg hp]; rfl
          have hreg := hz
          go_wp2
          refine wp_region_fut (by kernel_rfl) (by kernel_rfl) fun hne => ?_
          repeat (go_big_quiet_step ((go_at_call 73; exact Calls.fut_eq _ (rreg_any m _ _ _ _ _ _ _ _ _ hlo hhi) (congrArg Value.bool hreg))))
          refine wpQuiet_nil ?_
          rintro _ ⟨⟨w2, hw2⟩, rfl⟩
          go_wp2
          go_roundw
          case rel => exact ⟨j + 1, by omega, by go_num, fun l hl => if h : l < j then hgj.out l h else by have : l = j := by omega
                                                                                                           subst this; exact HY.out, hg.out.trans hw2, HR.out.bl hw2⟩
          case measure => simp [intOf]; omega
    · obtain rfl : j = 3 := by omega
      have HRR : Hid (rinB cs ms m.code.length m.regs m.ret.kind i = rrestB cs ms m.code.length m.regs m.ret.kind i) := HFG.out hgj.out
      clear HFB HFG hgj hj hjl
      obtain ⟨a0, a1, a2, a3, a4, a5⟩ := HR.out.ri.lit
      obtain ⟨m0, m1, m2, m3, m4, m5, m6, m7⟩ := HR.out.rm.lit
      obtain ⟨f0, f1⟩ := HR.out.rf.lit
      have G : Hid (Bl wr wr) := Bl.refl wr
      by_cases hop : i.op = 14
      · rw [hop] at a0
        have HOP : Hid (i.op = 14) := hop
        clear hop
        by_cases har : i.args.length = 0
        · have HAR : Hid (i.args.length = 0) := har
          have hre : rinB cs ms m.code.length m.regs m.ret.kind i = (decide (0 ≤ i.c ∧ i.c < cs.length ∧ 0 ≤ i.n ∧ i.n < (nth cl0 cs i.c.toNat).fields.length) && regB m.regs i.a (nth ty0 (nth cl0 cs i.c.toNat).fields i.n.toNat).kind) := HRR.out.trans (by simp [rrestB, HOP.out, HAR.out])
          clear HRR
          have z0 := fut_cell a0
          have z1 := fut_cell a1
          have z4 := fut_cell a4
          have z5 := fut_cell a5
          have zf := fut_cell f0
          by_cases hc : 0 ≤ i.c ∧ i.c ≤ (cs.length : Int) - 1
          · obtain ⟨u, hu⟩ : ∃ u : Nat, i.c = u := ⟨i.c.toNat, by omega⟩
            have hul : u < cs.length := by omega
            have dc : decide (0 ≤ (u : Int) ∧ (u : Int) ≤ (cs.length : Int) - 1) = true := decide_eq_true (by omega)
            rw [hu] at a3 hre
            rw [Int.toNat_natCast] at hre
            clear hc
            have z3 := fut_cell a3
            have hcl := HA.out.bl hg.out
            rcases hcl.2 with h0 | ⟨b', off', rfl, hcc⟩
            · omega
            obtain ⟨-, -, A', c', k1, hty⟩ := hcc u hul
            have hfl := hty.1
            unfold maxLen at hfl
            have zk := fut_cell k1
            have HTY : Hid (TysAt wr A' (nth cl0 cs u).fields) := hty
            have HRE : Hid (rinB cs ms m.code.length m.regs m.ret.kind i = (decide (0 ≤ (u : Int) ∧ (u : Int) < cs.length ∧ 0 ≤ i.n ∧ i.n < (nth cl0 cs u).fields.length) && regB m.regs i.a (nth ty0 (nth cl0 cs u).fields i.n.toNat).kind)) := hre
            have HU : Hid (i.c = u) := hu
            clear hcl hcc hty hre hu
            generalize hF : (nth cl0 cs u).fields = Fd at *
            clear hF
            by_cases n1 : i.n < 0
            · have n1' : decide (i.n < 0) = true := decide_eq_true n1
              have HNN : Hid (rinB cs ms m.code.length m.regs m.ret.kind i = false) := HRE.out.trans (by rw [decide_eq_false (by omega)]; rfl)
              go_wp2
              refine wp_region_fut (by kernel_rfl) (by kernel_rfl) fun hne => ?_
              repeat (go_big_quiet_step ((go_at_call 41; exact Calls.fut_same_eq _ (within_any _ _ _ _) (congrArg Value.bool dc))))
              refine wpQuiet_nil ?_
              rintro _ ⟨⟨w2, hw2⟩, rfl⟩
              go_wp2
              go_ret
              exact ⟨ret_bool HNN.out.symm, hg.out.trans hw2⟩
            · have n1' : decide (i.n < 0) = false := decide_eq_false n1
              by_cases n2 : (Fd.length : Int) ≤ i.n
              · have n2' : decide ((Fd.length : Int) ≤ i.n) = true := decide_eq_true n2
                have HNN : Hid (rinB cs ms m.code.length m.regs m.ret.kind i = false) := HRE.out.trans (by rw [decide_eq_false (by omega)]; rfl)
                go_wp2
                refine wp_region_fut (by kernel_rfl) (by kernel_rfl) fun hne => ?_
                repeat (go_big_quiet_step ((go_at_call 41; exact Calls.fut_same_eq _ (within_any _ _ _ _) (congrArg Value.bool dc))))
                refine wpQuiet_nil ?_
                rintro _ ⟨⟨w2, hw2⟩, rfl⟩
                go_wp2
                go_ret
                exact ⟨ret_bool HNN.out.symm, hg.out.trans hw2⟩
              · have n2' : decide ((Fd.length : Int) ≤ i.n) = false := decide_eq_false n2
                obtain ⟨v, hv⟩ : ∃ v : Nat, i.n = v := ⟨i.n.toNat, by omega⟩
                have hvl : v < Fd.length := by omega
                have HV : Hid (rinB cs ms m.code.length m.regs m.ret.kind i = regB m.regs i.a (nth ty0 Fd v).kind) := HRE.out.trans (by rw [decide_eq_true (by omega), hv, Int.toNat_natCast]; rfl)
                rw [hv] at a4 z4 n1' n2'
                clear n1 n2 HRE
                have HN : Hid (i.n = v) := hv
                clear hv
                go_wp2
                refine wp_region_fut (by kernel_rfl) (by kernel_rfl) fun hne => ?_
                repeat (go_big_quiet_step ((go_at_call 41; exact Calls.fut_same_eq _ (within_any _ _ _ _) (congrArg Value.bool dc))))
                refine wpQuiet_nil ?_
                rintro _ ⟨⟨w2, hw2⟩, rfl⟩
                go_wp2
                clear hne z0 z1 z3 z4 z5 zf zk
                have R2 := HR.out.bl hw2
                obtain ⟨e0, e1, e2, e3, e4, e5⟩ := R2.ri.lit
                obtain ⟨q0, q1, q2, q3, q4, q5, q6, q7⟩ := R2.rm.lit
                obtain ⟨p0, p1⟩ := R2.rf.lit
                rw [HU.out] at e3
                rw [HN.out] at e4
                have k2 := hw2.cell k1
                rcases (HTY.out.bl hw2).2 with h0 | ⟨bt, ot, rfl, htt⟩
                · omega
                have t1 := (htt v hvl).1
                have x1 := fut_cell e1
                have x3 := fut_cell e3
                have x4 := fut_cell e4
                have y0 := fut_cell q0
                have y1 := fut_cell q1
                have y2 := fut_cell q2
                have y3 := fut_cell q3
                have y4 := fut_cell q4
                have y5 := fut_cell q5
                have y6 := fut_cell q6
                have y7 := fut_cell q7
                have xf := fut_cell p0
                have xk := fut_cell k2
                have xt := fut_cell t1
                clear R2 e0 e1 e2 e3 e4 e5 q0 q1 q2 q3 q4 q5 q6 q7 p0 p1 k2 t1 htt
                cases hreg : regB m.regs i.a (nth ty0 Fd v).kind
                all_goals
                  rw [hreg] at HV
                  refine wp_region_fut (by kernel_rfl) (by kernel_rfl) fun hne => ?_
                  repeat (go_big_quiet_step ((go_at_call 73; exact Calls.fut_eq _ (rreg_any m _ _ _ _ _ _ _ _ _ hlo hhi) (congrArg Value.bool hreg))))
                  refine wpQuiet_nil ?_
                  rintro _ ⟨⟨w3, hw3⟩, rfl⟩
                  go_wp2
                  go_ret
                  exact ⟨ret_bool HV.out.symm, (hg.out.trans hw2).trans hw3⟩
          · have dc : decide (0 ≤ i.c ∧ i.c ≤ (cs.length : Int) - 1) = false := decide_eq_false hc
            have z3 := fut_cell a3
            have HNN : Hid (rinB cs ms m.code.length m.regs m.ret.kind i = false) := hre.trans (by rw [decide_eq_false (by omega)]; rfl)
            clear hre hc
            go_wp2
            refine wp_region_fut (by kernel_rfl) (by kernel_rfl) fun hne => ?_
            repeat (go_big_quiet_step ((go_at_call 41; exact Calls.fut_same_eq _ (within_any _ _ _ _) (congrArg Value.bool dc))))
            refine wpQuiet_nil ?_
            rintro _ ⟨⟨w2, hw2⟩, rfl⟩
            go_wp2
            go_ret
            exact ⟨ret_bool HNN.out.symm, hg.out.trans hw2⟩
        · have har' : 0 < i.args.length := by omega
          have HAR : Hid (¬ i.args.length = 0) := har
          clear har
          go_wp2
          go_ret
          refine ⟨ret_bool ?_, hg.out.trans G.out⟩
          rw [HRR.out, Bool.eq_iff_iff]; simp [rrestB, HOP.out, HAR.out]; (try omega); (try simp_all)
      by_cases hop : i.op = 15
      · rw [hop] at a0
        have HOP : Hid (i.op = 15) := hop
        clear hop
        by_cases har : i.args.length = 0
        · have HAR : Hid (i.args.length = 0) := har
          have hre : rinB cs ms m.code.length m.regs m.ret.kind i = (decide (0 ≤ i.c ∧ i.c < cs.length ∧ 0 ≤ i.n ∧ i.n < (nth cl0 cs i.c.toNat).fields.length) && regB m.regs i.a (nth ty0 (nth cl0 cs i.c.toNat).fields i.n.toNat).kind) := HRR.out.trans (by simp [rrestB, HOP.out, HAR.out])
          clear HRR
          have z0 := fut_cell a0
          have z1 := fut_cell a1
          have z4 := fut_cell a4
          have z5 := fut_cell a5
          have zf := fut_cell f0
          by_cases hc : 0 ≤ i.c ∧ i.c ≤ (cs.length : Int) - 1
          · obtain ⟨u, hu⟩ : ∃ u : Nat, i.c = u := ⟨i.c.toNat, by omega⟩
            have hul : u < cs.length := by omega
            have dc : decide (0 ≤ (u : Int) ∧ (u : Int) ≤ (cs.length : Int) - 1) = true := decide_eq_true (by omega)
            rw [hu] at a3 hre
            rw [Int.toNat_natCast] at hre
            clear hc
            have z3 := fut_cell a3
            have hcl := HA.out.bl hg.out
            rcases hcl.2 with h0 | ⟨b', off', rfl, hcc⟩
            · omega
            obtain ⟨-, -, A', c', k1, hty⟩ := hcc u hul
            have hfl := hty.1
            unfold maxLen at hfl
            have zk := fut_cell k1
            have HTY : Hid (TysAt wr A' (nth cl0 cs u).fields) := hty
            have HRE : Hid (rinB cs ms m.code.length m.regs m.ret.kind i = (decide (0 ≤ (u : Int) ∧ (u : Int) < cs.length ∧ 0 ≤ i.n ∧ i.n < (nth cl0 cs u).fields.length) && regB m.regs i.a (nth ty0 (nth cl0 cs u).fields i.n.toNat).kind)) := hre
            have HU : Hid (i.c = u) := hu
            clear hcl hcc hty hre hu
            generalize hF : (nth cl0 cs u).fields = Fd at *
            clear hF
            by_cases n1 : i.n < 0
            · have n1' : decide (i.n < 0) = true := decide_eq_true n1
              have HNN : Hid (rinB cs ms m.code.length m.regs m.ret.kind i = false) := HRE.out.trans (by rw [decide_eq_false (by omega)]; rfl)
              go_wp2
              refine wp_region_fut (by kernel_rfl) (by kernel_rfl) fun hne => ?_
              repeat (go_big_quiet_step ((go_at_call 41; exact Calls.fut_same_eq _ (within_any _ _ _ _) (congrArg Value.bool dc))))
              refine wpQuiet_nil ?_
              rintro _ ⟨⟨w2, hw2⟩, rfl⟩
              go_wp2
              go_ret
              exact ⟨ret_bool HNN.out.symm, hg.out.trans hw2⟩
            · have n1' : decide (i.n < 0) = false := decide_eq_false n1
              by_cases n2 : (Fd.length : Int) ≤ i.n
              · have n2' : decide ((Fd.length : Int) ≤ i.n) = true := decide_eq_true n2
                have HNN : Hid (rinB cs ms m.code.length m.regs m.ret.kind i = false) := HRE.out.trans (by rw [decide_eq_false (by omega)]; rfl)
                go_wp2
                refine wp_region_fut (by kernel_rfl) (by kernel_rfl) fun hne => ?_
                repeat (go_big_quiet_step ((go_at_call 41; exact Calls.fut_same_eq _ (within_any _ _ _ _) (congrArg Value.bool dc))))
                refine wpQuiet_nil ?_
                rintro _ ⟨⟨w2, hw2⟩, rfl⟩
                go_wp2
                go_ret
                exact ⟨ret_bool HNN.out.symm, hg.out.trans hw2⟩
              · have n2' : decide ((Fd.length : Int) ≤ i.n) = false := decide_eq_false n2
                obtain ⟨v, hv⟩ : ∃ v : Nat, i.n = v := ⟨i.n.toNat, by omega⟩
                have hvl : v < Fd.length := by omega
                have HV : Hid (rinB cs ms m.code.length m.regs m.ret.kind i = regB m.regs i.a (nth ty0 Fd v).kind) := HRE.out.trans (by rw [decide_eq_true (by omega), hv, Int.toNat_natCast]; rfl)
                rw [hv] at a4 z4 n1' n2'
                clear n1 n2 HRE
                have HN : Hid (i.n = v) := hv
                clear hv
                go_wp2
                refine wp_region_fut (by kernel_rfl) (by kernel_rfl) fun hne => ?_
                repeat (go_big_quiet_step ((go_at_call 41; exact Calls.fut_same_eq _ (within_any _ _ _ _) (congrArg Value.bool dc))))
                refine wpQuiet_nil ?_
                rintro _ ⟨⟨w2, hw2⟩, rfl⟩
                go_wp2
                clear hne z0 z1 z3 z4 z5 zf zk
                have R2 := HR.out.bl hw2
                obtain ⟨e0, e1, e2, e3, e4, e5⟩ := R2.ri.lit
                obtain ⟨q0, q1, q2, q3, q4, q5, q6, q7⟩ := R2.rm.lit
                obtain ⟨p0, p1⟩ := R2.rf.lit
                rw [HU.out] at e3
                rw [HN.out] at e4
                have k2 := hw2.cell k1
                rcases (HTY.out.bl hw2).2 with h0 | ⟨bt, ot, rfl, htt⟩
                · omega
                have t1 := (htt v hvl).1
                have x1 := fut_cell e1
                have x3 := fut_cell e3
                have x4 := fut_cell e4
                have y0 := fut_cell q0
                have y1 := fut_cell q1
                have y2 := fut_cell q2
                have y3 := fut_cell q3
                have y4 := fut_cell q4
                have y5 := fut_cell q5
                have y6 := fut_cell q6
                have y7 := fut_cell q7
                have xf := fut_cell p0
                have xk := fut_cell k2
                have xt := fut_cell t1
                clear R2 e0 e1 e2 e3 e4 e5 q0 q1 q2 q3 q4 q5 q6 q7 p0 p1 k2 t1 htt
                cases hreg : regB m.regs i.a (nth ty0 Fd v).kind
                all_goals
                  rw [hreg] at HV
                  refine wp_region_fut (by kernel_rfl) (by kernel_rfl) fun hne => ?_
                  repeat (go_big_quiet_step ((go_at_call 73; exact Calls.fut_eq _ (rreg_any m _ _ _ _ _ _ _ _ _ hlo hhi) (congrArg Value.bool hreg))))
                  refine wpQuiet_nil ?_
                  rintro _ ⟨⟨w3, hw3⟩, rfl⟩
                  go_wp2
                  go_ret
                  exact ⟨ret_bool HV.out.symm, (hg.out.trans hw2).trans hw3⟩
          · have dc : decide (0 ≤ i.c ∧ i.c ≤ (cs.length : Int) - 1) = false := decide_eq_false hc
            have z3 := fut_cell a3
            have HNN : Hid (rinB cs ms m.code.length m.regs m.ret.kind i = false) := hre.trans (by rw [decide_eq_false (by omega)]; rfl)
            clear hre hc
            go_wp2
            refine wp_region_fut (by kernel_rfl) (by kernel_rfl) fun hne => ?_
            repeat (go_big_quiet_step ((go_at_call 41; exact Calls.fut_same_eq _ (within_any _ _ _ _) (congrArg Value.bool dc))))
            refine wpQuiet_nil ?_
            rintro _ ⟨⟨w2, hw2⟩, rfl⟩
            go_wp2
            go_ret
            exact ⟨ret_bool HNN.out.symm, hg.out.trans hw2⟩
        · have har' : 0 < i.args.length := by omega
          have HAR : Hid (¬ i.args.length = 0) := har
          clear har
          go_wp2
          go_ret
          refine ⟨ret_bool ?_, hg.out.trans G.out⟩
          rw [HRR.out, Bool.eq_iff_iff]; simp [rrestB, HOP.out, HAR.out]; (try omega); (try simp_all)
      omega

end Go.Proofs.Ytgiiapenmjollab
