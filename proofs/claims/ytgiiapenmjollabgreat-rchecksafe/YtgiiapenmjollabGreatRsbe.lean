import Derived.Test.YtgiiapenmjollabGreatRsbb
import Derived.Test.YtgiiapenmjollabGreatRsbc
import Derived.Test.YtgiiapenmjollabGreatRsbd
namespace Go.Proofs.YtgiiapenmjollabGreat
set_option linter.all false
set_option maxHeartbeats 40000000
set_option maxRecDepth 100000
open Go.RowKit
theorem rrins_E (x y z:Int) (i:In) (cs:List Cl) (ms:List Me) (A B:Option Addr) (a b:Nat) (m:Me) (P C K:Option Addr) (p c k:Nat) (Q:Option Addr) (q:Nat) (w:World) (hnc:cs.length≤12) (hnm:ms.length≤8) (hcode:m.code.length≤maxLen) (hlo:1≤m.regs) (hhi:m.regs≤90)
  (hA:ClsAt w A cs) (hB:MesAt w B ms) (hQ:IntsAt w Q i.args)
  (hk:kindsOf i.op=some (x,y,z)) (hgrp:i.op=14∨i.op=15) :
  Calls Tryz.prog 39 #[fiV cs.length ms.length A B a b,meV m P C K p c k,inV i Q q] w fun e w'=>e=.returned (.bool (rinB cs ms m.code.length m.regs m.ret.kind i))∧Bl w w':=by
 unfold maxLen at hcode
 have HFB:Hid (∀j,j<3→rfldB m.regs (three i.a i.b i.c j) (three x y z j)=false→rinB cs ms m.code.length m.regs m.ret.kind i=false):=fun j hj=>rin_field hk hj
 have HFG:Hid ((∀j,j<3→rfldB m.regs (three i.a i.b i.c j) (three x y z j)=true)→rinB cs ms m.code.length m.regs m.ret.kind i=rrestB cs ms m.code.length m.regs m.ret.kind i):=rin_rest hk
 have HA:Hid (ClsAt w A cs):=hA
 have HB:Hid (MesAt w B ms):=hB
 have HQ:Hid (IntsAt w Q i.args):=hQ
 have HR:Hid (RBox (boxed5 w cs.length ms.length A B a b m P C K p c k i Q q x y z) w.heap.size cs.length ms.length A B a b m P C K p c k i Q q x y z):=boxed5_is w cs.length ms.length A B a b m P C K p c k i Q q x y z
 have HK:Hid (kindsOf i.op=some (x,y,z)):=hk
 clear hA hB hQ hk
 go_enter Tryz.func39,Tryz.ntmps39
 go_wp2_with (go_at_call 78;refine (rnamed_any _ _ x y z HK.out).mono ?_;rintro e w' ⟨rfl,rfl⟩)
 go_loopw [10] (fun v wr=>∃j:Nat,j≤3∧v=.int .i64 j∧Hid (∀l,l<j→rfldB m.regs (three i.a i.b i.c l) (three x y z l)=true)∧Hid (Bl w wr)∧Hid (RBox wr w.heap.size cs.length ms.length A B a b m P C K p c k i Q q x y z)) (fun v _=>3-(intOf v).toNat)
 case atStart=>exact ⟨0,by omega,rfl,fun l hl=>absurd hl (Nat.not_lt_zero _),((((((Bl.refl w).alloc _).alloc _).alloc _).alloc _).alloc _),HR⟩
 case round =>
  clear HR
  obtain ⟨j,hj,rfl,hgj,hg,HR⟩:=hrel
  by_cases hjl:j<3
  ·have gk:=fut_cell (HR.out.rk.at j hjl)
   have gd:=fut_cell (HR.out.rd.at j hjl)
   have y0:=fut_cell HR.out.rm.1
   have y1:=fut_cell HR.out.rm.2.1
   have y2:=fut_cell HR.out.rm.2.2.1
   have y3:=fut_cell HR.out.rm.2.2.2.1
   have y4:=fut_cell HR.out.rm.2.2.2.2.1
   have y5:=fut_cell HR.out.rm.2.2.2.2.2.1
   have y6:=fut_cell HR.out.rm.2.2.2.2.2.2.1
   have y7:=fut_cell HR.out.rm.2.2.2.2.2.2.2
   have HN0:Hid (rfldB m.regs (three i.a i.b i.c j) (three x y z j)=false→rinB cs ms m.code.length m.regs m.ret.kind i=false):=HFB.out j hjl
   by_cases hz:three x y z j=0
   ·have HY0:Hid (rfldB m.regs (three i.a i.b i.c j) (three x y z j)=decide (three i.a i.b i.c j=0)):=by unfold rfldB;rw [if_pos hz];rfl
    rw [hz] at gk
    have hreg:=hz
    clear hz
    by_cases hv:three i.a i.b i.c j=0
    ·have HY:Hid (rfldB m.regs (three i.a i.b i.c j) (three x y z j)=true):=HY0.out.trans (decide_eq_true hv)
     rw [hv] at gd
     clear hv hreg
     have hreg:=hjl
     go_wp2
     refine wp_region_fut (by kernel_rfl) (by kernel_rfl) fun hne=>?_
     repeat (go_big_quiet_step ((go_at_call 79;exact Calls.fut_eq _ (rreg_any m _ _ _ _ _ _ _ _ _ hlo hhi) (congrArg Value.bool hreg))))
     refine wpQuiet_nil ?_
     rintro _ ⟨⟨w2,hw2⟩,rfl⟩
     go_wp2
     go_roundw
     case rel=>exact ⟨j+1,by omega,by go_num,fun l hl=>if h:l<j then hgj.out l h else by have:l=j:=(by omega);subst this;exact HY.out,hg.out.trans hw2,HR.out.bl hw2⟩
     case measure=>simp [intOf];omega
    ·have HN:Hid (rinB cs ms m.code.length m.regs m.ret.kind i=false):=HN0.out (HY0.out.trans (decide_eq_false hv))
     have hv':(three i.a i.b i.c j !=0)=true:=by simpa using hv
     clear hv hreg
     have hreg:=hjl
     go_wp2
     refine wp_region_fut (by kernel_rfl) (by kernel_rfl) fun hne=>?_
     repeat (go_big_quiet_step ((go_at_call 79;exact Calls.fut_eq _ (rreg_any m _ _ _ _ _ _ _ _ _ hlo hhi) (congrArg Value.bool hreg))))
     refine wpQuiet_nil ?_
     rintro _ ⟨⟨w2,hw2⟩,rfl⟩
     go_wp2
     go_ret
     exact ⟨ret_bool HN.out.symm,hg.out.trans hw2⟩
   ·have hz':(three x y z j==0)=false:=by simpa using hz
    by_cases hp:0<three x y z j
    ·have hp':decide (0<three x y z j)=true:=decide_eq_true hp
     have HY0:Hid (rfldB m.regs (three i.a i.b i.c j) (three x y z j)=regB m.regs (three i.a i.b i.c j) (three x y z j)):=by unfold rfldB;rw [if_neg hz,if_pos hp];rfl
     cases hreg:regB m.regs (three i.a i.b i.c j) (three x y z j)
     ·have HN:Hid (rinB cs ms m.code.length m.regs m.ret.kind i=false):=HN0.out (HY0.out.trans hreg)
      go_wp2
      refine wp_region_fut (by kernel_rfl) (by kernel_rfl) fun hne=>?_
      repeat (go_big_quiet_step ((go_at_call 79;exact Calls.fut_eq _ (rreg_any m _ _ _ _ _ _ _ _ _ hlo hhi) (congrArg Value.bool hreg))))
      refine wpQuiet_nil ?_
      rintro _ ⟨⟨w2,hw2⟩,rfl⟩
      go_wp2
      go_ret
      exact ⟨ret_bool HN.out.symm,hg.out.trans hw2⟩
     ·have HY:Hid (rfldB m.regs (three i.a i.b i.c j) (three x y z j)=true):=HY0.out.trans hreg
      go_wp2
      refine wp_region_fut (by kernel_rfl) (by kernel_rfl) fun hne=>?_
      repeat (go_big_quiet_step ((go_at_call 79;exact Calls.fut_eq _ (rreg_any m _ _ _ _ _ _ _ _ _ hlo hhi) (congrArg Value.bool hreg))))
      refine wpQuiet_nil ?_
      rintro _ ⟨⟨w2,hw2⟩,rfl⟩
      go_wp2
      go_roundw
      case rel=>exact ⟨j+1,by omega,by go_num,fun l hl=>if h:l<j then hgj.out l h else by have:l=j:=(by omega);subst this;exact HY.out,hg.out.trans hw2,HR.out.bl hw2⟩
      case measure=>simp [intOf];omega
    ·have hp':decide (0<three x y z j)=false:=decide_eq_false hp
     have HY:Hid (rfldB m.regs (three i.a i.b i.c j) (three x y z j)=true):=by unfold rfldB;rw [if_neg hz,if_neg hp];rfl
     have hreg:=hz
     go_wp2
     refine wp_region_fut (by kernel_rfl) (by kernel_rfl) fun hne=>?_
     repeat (go_big_quiet_step ((go_at_call 79;exact Calls.fut_eq _ (rreg_any m _ _ _ _ _ _ _ _ _ hlo hhi) (congrArg Value.bool hreg))))
     refine wpQuiet_nil ?_
     rintro _ ⟨⟨w2,hw2⟩,rfl⟩
     go_wp2
     go_roundw
     case rel=>exact ⟨j+1,by omega,by go_num,fun l hl=>if h:l<j then hgj.out l h else by have:l=j:=(by omega);subst this;exact HY.out,hg.out.trans hw2,HR.out.bl hw2⟩
     case measure=>simp [intOf];omega
  ·obtain rfl:j=3:=by omega
   have HRR:Hid (rinB cs ms m.code.length m.regs m.ret.kind i=rrestB cs ms m.code.length m.regs m.ret.kind i):=HFG.out hgj.out
   clear HFB HFG hgj hj hjl
   obtain ⟨a0,a1,a2,a3,a4,a5⟩:=HR.out.ri.lit
   obtain ⟨m0,m1,m2,m3,m4,m5,m6,m7⟩:=HR.out.rm.lit
   obtain ⟨f0,f1⟩:=HR.out.rf.lit
   have G:Hid (Bl wr wr):=Bl.refl wr
   by_cases hop:i.op=14
   ·rw [hop] at a0
    have HOP:Hid (i.op=14):=hop
    clear hop
    by_cases har:i.args.length=0
    ·have HAR:Hid (i.args.length=0):=har
     have hre:rinB cs ms m.code.length m.regs m.ret.kind i=(decide (0≤i.c∧i.c<cs.length∧0≤i.n∧i.n<(nth cl0 cs i.c.toNat).fields.length)&&regB m.regs i.a (nth ty0 (nth cl0 cs i.c.toNat).fields i.n.toNat).kind):=HRR.out.trans (by simp [rrestB,HOP.out,HAR.out])
     clear HRR
     have z0:=fut_cell a0
     have z1:=fut_cell a1
     have z4:=fut_cell a4
     have z5:=fut_cell a5
     have zf:=fut_cell f0
     by_cases hc:0≤i.c∧i.c≤(cs.length:Int)-1
     ·obtain ⟨u,hu⟩:∃u:Nat,i.c=u:=⟨i.c.toNat,by omega⟩
      have hul:u<cs.length:=by omega
      have dc:decide (0≤(u:Int)∧(u:Int)≤(cs.length:Int)-1)=true:=decide_eq_true (by omega)
      rw [hu] at a3 hre
      rw [Int.toNat_natCast] at hre
      clear hc
      have z3:=fut_cell a3
      have hcl:=HA.out.bl hg.out
      rcases hcl.2 with h0|⟨b',off',rfl,hcc⟩
      ·omega
      obtain ⟨-,-,A',c',k1,hty⟩:=hcc u hul
      have hfl:=hty.1
      unfold maxLen at hfl
      have zk:=fut_cell k1
      have HTY:Hid (TysAt wr A' (nth cl0 cs u).fields):=hty
      have HRE:Hid (rinB cs ms m.code.length m.regs m.ret.kind i=(decide (0≤(u:Int)∧(u:Int)<cs.length∧0≤i.n∧i.n<(nth cl0 cs u).fields.length)&&regB m.regs i.a (nth ty0 (nth cl0 cs u).fields i.n.toNat).kind)):=hre
      have HU:Hid (i.c=u):=hu
      clear hcl hcc hty hre hu
      generalize hF:(nth cl0 cs u).fields=Fd at *
      clear hF
      by_cases n1:i.n<0
      ·have n1':decide (i.n<0)=true:=decide_eq_true n1
       have HNN:Hid (rinB cs ms m.code.length m.regs m.ret.kind i=false):=HRE.out.trans (by rw [decide_eq_false (by omega)];rfl)
       go_wp2
       refine wp_region_fut (by kernel_rfl) (by kernel_rfl) fun hne=>?_
       repeat (go_big_quiet_step ((go_at_call 36;exact Calls.fut_same_eq _ (within_any _ _ _ _) (congrArg Value.bool dc))))
       refine wpQuiet_nil ?_
       rintro _ ⟨⟨w2,hw2⟩,rfl⟩
       go_wp2
       go_ret
       exact ⟨ret_bool HNN.out.symm,hg.out.trans hw2⟩
      ·have n1':decide (i.n<0)=false:=decide_eq_false n1
       by_cases n2:(Fd.length:Int)≤i.n
       ·have n2':decide ((Fd.length:Int)≤i.n)=true:=decide_eq_true n2
        have HNN:Hid (rinB cs ms m.code.length m.regs m.ret.kind i=false):=HRE.out.trans (by rw [decide_eq_false (by omega)];rfl)
        go_wp2
        refine wp_region_fut (by kernel_rfl) (by kernel_rfl) fun hne=>?_
        repeat (go_big_quiet_step ((go_at_call 36;exact Calls.fut_same_eq _ (within_any _ _ _ _) (congrArg Value.bool dc))))
        refine wpQuiet_nil ?_
        rintro _ ⟨⟨w2,hw2⟩,rfl⟩
        go_wp2
        go_ret
        exact ⟨ret_bool HNN.out.symm,hg.out.trans hw2⟩
       ·have n2':decide ((Fd.length:Int)≤i.n)=false:=decide_eq_false n2
        obtain ⟨v,hv⟩:∃v:Nat,i.n=v:=⟨i.n.toNat,by omega⟩
        have hvl:v<Fd.length:=by omega
        have HV:Hid (rinB cs ms m.code.length m.regs m.ret.kind i=regB m.regs i.a (nth ty0 Fd v).kind):=HRE.out.trans (by rw [decide_eq_true (by omega),hv,Int.toNat_natCast];rfl)
        rw [hv] at a4 z4 n1' n2'
        clear n1 n2 HRE
        have HN:Hid (i.n=v):=hv
        clear hv
        go_wp2
        refine wp_region_fut (by kernel_rfl) (by kernel_rfl) fun hne=>?_
        repeat (go_big_quiet_step ((go_at_call 36;exact Calls.fut_same_eq _ (within_any _ _ _ _) (congrArg Value.bool dc))))
        refine wpQuiet_nil ?_
        rintro _ ⟨⟨w2,hw2⟩,rfl⟩
        go_wp2
        clear hne z0 z1 z3 z4 z5 zf zk
        have R2:=HR.out.bl hw2
        obtain ⟨e0,e1,e2,e3,e4,e5⟩:=R2.ri.lit
        obtain ⟨q0,q1,q2,q3,q4,q5,q6,q7⟩:=R2.rm.lit
        obtain ⟨p0,p1⟩:=R2.rf.lit
        rw [HU.out] at e3
        rw [HN.out] at e4
        have k2:=hw2.cell k1
        rcases (HTY.out.bl hw2).2 with h0|⟨bt,ot,rfl,htt⟩
        ·omega
        have t1:=(htt v hvl).1
        have x1:=fut_cell e1
        have x3:=fut_cell e3
        have x4:=fut_cell e4
        have y0:=fut_cell q0
        have y1:=fut_cell q1
        have y2:=fut_cell q2
        have y3:=fut_cell q3
        have y4:=fut_cell q4
        have y5:=fut_cell q5
        have y6:=fut_cell q6
        have y7:=fut_cell q7
        have xf:=fut_cell p0
        have xk:=fut_cell k2
        have xt:=fut_cell t1
        clear R2 e0 e1 e2 e3 e4 e5 q0 q1 q2 q3 q4 q5 q6 q7 p0 p1 k2 t1 htt
        cases hreg:regB m.regs i.a (nth ty0 Fd v).kind
        all_goals
         rw [hreg] at HV
         refine wp_region_fut (by kernel_rfl) (by kernel_rfl) fun hne=>?_
         repeat (go_big_quiet_step ((go_at_call 79;exact Calls.fut_eq _ (rreg_any m _ _ _ _ _ _ _ _ _ hlo hhi) (congrArg Value.bool hreg))))
         refine wpQuiet_nil ?_
         rintro _ ⟨⟨w3,hw3⟩,rfl⟩
         go_wp2
         go_ret
         exact ⟨ret_bool HV.out.symm,(hg.out.trans hw2).trans hw3⟩
     ·have dc:decide (0≤i.c∧i.c≤(cs.length:Int)-1)=false:=decide_eq_false hc
      have z3:=fut_cell a3
      have HNN:Hid (rinB cs ms m.code.length m.regs m.ret.kind i=false):=hre.trans (by rw [decide_eq_false (by omega)];rfl)
      clear hre hc
      go_wp2
      refine wp_region_fut (by kernel_rfl) (by kernel_rfl) fun hne=>?_
      repeat (go_big_quiet_step ((go_at_call 36;exact Calls.fut_same_eq _ (within_any _ _ _ _) (congrArg Value.bool dc))))
      refine wpQuiet_nil ?_
      rintro _ ⟨⟨w2,hw2⟩,rfl⟩
      go_wp2
      go_ret
      exact ⟨ret_bool HNN.out.symm,hg.out.trans hw2⟩
    ·have har':0<i.args.length:=by omega
     have HAR:Hid (¬i.args.length=0):=har
     clear har
     go_wp2
     go_ret
     refine ⟨ret_bool ?_,hg.out.trans G.out⟩
     rw [HRR.out,Bool.eq_iff_iff];simp [rrestB,HOP.out,HAR.out];(try omega);(try simp_all)
   by_cases hop:i.op=15
   ·rw [hop] at a0
    have HOP:Hid (i.op=15):=hop
    clear hop
    by_cases har:i.args.length=0
    ·have HAR:Hid (i.args.length=0):=har
     have hre:rinB cs ms m.code.length m.regs m.ret.kind i=(decide (0≤i.c∧i.c<cs.length∧0≤i.n∧i.n<(nth cl0 cs i.c.toNat).fields.length)&&regB m.regs i.a (nth ty0 (nth cl0 cs i.c.toNat).fields i.n.toNat).kind):=HRR.out.trans (by simp [rrestB,HOP.out,HAR.out])
     clear HRR
     have z0:=fut_cell a0
     have z1:=fut_cell a1
     have z4:=fut_cell a4
     have z5:=fut_cell a5
     have zf:=fut_cell f0
     by_cases hc:0≤i.c∧i.c≤(cs.length:Int)-1
     ·obtain ⟨u,hu⟩:∃u:Nat,i.c=u:=⟨i.c.toNat,by omega⟩
      have hul:u<cs.length:=by omega
      have dc:decide (0≤(u:Int)∧(u:Int)≤(cs.length:Int)-1)=true:=decide_eq_true (by omega)
      rw [hu] at a3 hre
      rw [Int.toNat_natCast] at hre
      clear hc
      have z3:=fut_cell a3
      have hcl:=HA.out.bl hg.out
      rcases hcl.2 with h0|⟨b',off',rfl,hcc⟩
      ·omega
      obtain ⟨-,-,A',c',k1,hty⟩:=hcc u hul
      have hfl:=hty.1
      unfold maxLen at hfl
      have zk:=fut_cell k1
      have HTY:Hid (TysAt wr A' (nth cl0 cs u).fields):=hty
      have HRE:Hid (rinB cs ms m.code.length m.regs m.ret.kind i=(decide (0≤(u:Int)∧(u:Int)<cs.length∧0≤i.n∧i.n<(nth cl0 cs u).fields.length)&&regB m.regs i.a (nth ty0 (nth cl0 cs u).fields i.n.toNat).kind)):=hre
      have HU:Hid (i.c=u):=hu
      clear hcl hcc hty hre hu
      generalize hF:(nth cl0 cs u).fields=Fd at *
      clear hF
      by_cases n1:i.n<0
      ·have n1':decide (i.n<0)=true:=decide_eq_true n1
       have HNN:Hid (rinB cs ms m.code.length m.regs m.ret.kind i=false):=HRE.out.trans (by rw [decide_eq_false (by omega)];rfl)
       go_wp2
       refine wp_region_fut (by kernel_rfl) (by kernel_rfl) fun hne=>?_
       repeat (go_big_quiet_step ((go_at_call 36;exact Calls.fut_same_eq _ (within_any _ _ _ _) (congrArg Value.bool dc))))
       refine wpQuiet_nil ?_
       rintro _ ⟨⟨w2,hw2⟩,rfl⟩
       go_wp2
       go_ret
       exact ⟨ret_bool HNN.out.symm,hg.out.trans hw2⟩
      ·have n1':decide (i.n<0)=false:=decide_eq_false n1
       by_cases n2:(Fd.length:Int)≤i.n
       ·have n2':decide ((Fd.length:Int)≤i.n)=true:=decide_eq_true n2
        have HNN:Hid (rinB cs ms m.code.length m.regs m.ret.kind i=false):=HRE.out.trans (by rw [decide_eq_false (by omega)];rfl)
        go_wp2
        refine wp_region_fut (by kernel_rfl) (by kernel_rfl) fun hne=>?_
        repeat (go_big_quiet_step ((go_at_call 36;exact Calls.fut_same_eq _ (within_any _ _ _ _) (congrArg Value.bool dc))))
        refine wpQuiet_nil ?_
        rintro _ ⟨⟨w2,hw2⟩,rfl⟩
        go_wp2
        go_ret
        exact ⟨ret_bool HNN.out.symm,hg.out.trans hw2⟩
       ·have n2':decide ((Fd.length:Int)≤i.n)=false:=decide_eq_false n2
        obtain ⟨v,hv⟩:∃v:Nat,i.n=v:=⟨i.n.toNat,by omega⟩
        have hvl:v<Fd.length:=by omega
        have HV:Hid (rinB cs ms m.code.length m.regs m.ret.kind i=regB m.regs i.a (nth ty0 Fd v).kind):=HRE.out.trans (by rw [decide_eq_true (by omega),hv,Int.toNat_natCast];rfl)
        rw [hv] at a4 z4 n1' n2'
        clear n1 n2 HRE
        have HN:Hid (i.n=v):=hv
        clear hv
        go_wp2
        refine wp_region_fut (by kernel_rfl) (by kernel_rfl) fun hne=>?_
        repeat (go_big_quiet_step ((go_at_call 36;exact Calls.fut_same_eq _ (within_any _ _ _ _) (congrArg Value.bool dc))))
        refine wpQuiet_nil ?_
        rintro _ ⟨⟨w2,hw2⟩,rfl⟩
        go_wp2
        clear hne z0 z1 z3 z4 z5 zf zk
        have R2:=HR.out.bl hw2
        obtain ⟨e0,e1,e2,e3,e4,e5⟩:=R2.ri.lit
        obtain ⟨q0,q1,q2,q3,q4,q5,q6,q7⟩:=R2.rm.lit
        obtain ⟨p0,p1⟩:=R2.rf.lit
        rw [HU.out] at e3
        rw [HN.out] at e4
        have k2:=hw2.cell k1
        rcases (HTY.out.bl hw2).2 with h0|⟨bt,ot,rfl,htt⟩
        ·omega
        have t1:=(htt v hvl).1
        have x1:=fut_cell e1
        have x3:=fut_cell e3
        have x4:=fut_cell e4
        have y0:=fut_cell q0
        have y1:=fut_cell q1
        have y2:=fut_cell q2
        have y3:=fut_cell q3
        have y4:=fut_cell q4
        have y5:=fut_cell q5
        have y6:=fut_cell q6
        have y7:=fut_cell q7
        have xf:=fut_cell p0
        have xk:=fut_cell k2
        have xt:=fut_cell t1
        clear R2 e0 e1 e2 e3 e4 e5 q0 q1 q2 q3 q4 q5 q6 q7 p0 p1 k2 t1 htt
        cases hreg:regB m.regs i.a (nth ty0 Fd v).kind
        all_goals
         rw [hreg] at HV
         refine wp_region_fut (by kernel_rfl) (by kernel_rfl) fun hne=>?_
         repeat (go_big_quiet_step ((go_at_call 79;exact Calls.fut_eq _ (rreg_any m _ _ _ _ _ _ _ _ _ hlo hhi) (congrArg Value.bool hreg))))
         refine wpQuiet_nil ?_
         rintro _ ⟨⟨w3,hw3⟩,rfl⟩
         go_wp2
         go_ret
         exact ⟨ret_bool HV.out.symm,(hg.out.trans hw2).trans hw3⟩
     ·have dc:decide (0≤i.c∧i.c≤(cs.length:Int)-1)=false:=decide_eq_false hc
      have z3:=fut_cell a3
      have HNN:Hid (rinB cs ms m.code.length m.regs m.ret.kind i=false):=hre.trans (by rw [decide_eq_false (by omega)];rfl)
      clear hre hc
      go_wp2
      refine wp_region_fut (by kernel_rfl) (by kernel_rfl) fun hne=>?_
      repeat (go_big_quiet_step ((go_at_call 36;exact Calls.fut_same_eq _ (within_any _ _ _ _) (congrArg Value.bool dc))))
      refine wpQuiet_nil ?_
      rintro _ ⟨⟨w2,hw2⟩,rfl⟩
      go_wp2
      go_ret
      exact ⟨ret_bool HNN.out.symm,hg.out.trans hw2⟩
    ·have har':0<i.args.length:=by omega
     have HAR:Hid (¬i.args.length=0):=har
     clear har
     go_wp2
     go_ret
     refine ⟨ret_bool ?_,hg.out.trans G.out⟩
     rw [HRR.out,Bool.eq_iff_iff];simp [rrestB,HOP.out,HAR.out];(try omega);(try simp_all)
   omega
theorem rrins_F (x y z:Int) (i:In) (cs:List Cl) (ms:List Me) (A B:Option Addr) (a b:Nat) (m:Me) (P C K:Option Addr) (p c k:Nat) (Q:Option Addr) (q:Nat) (w:World) (hnc:cs.length≤12) (hnm:ms.length≤8) (hcode:m.code.length≤maxLen) (hlo:1≤m.regs) (hhi:m.regs≤90)
  (hA:ClsAt w A cs) (hB:MesAt w B ms) (hQ:IntsAt w Q i.args)
  (hk:kindsOf i.op=some (x,y,z)) (hgrp:Hid (i.op=18)) :
  Calls Tryz.prog 39 #[fiV cs.length ms.length A B a b,meV m P C K p c k,inV i Q q] w fun e w'=>e=.returned (.bool (rinB cs ms m.code.length m.regs m.ret.kind i))∧Bl w w':=by
 unfold maxLen at hcode
 have HFB:Hid (∀j,j<3→rfldB m.regs (three i.a i.b i.c j) (three x y z j)=false→rinB cs ms m.code.length m.regs m.ret.kind i=false):=fun j hj=>rin_field hk hj
 have HFG:Hid ((∀j,j<3→rfldB m.regs (three i.a i.b i.c j) (three x y z j)=true)→rinB cs ms m.code.length m.regs m.ret.kind i=rrestB cs ms m.code.length m.regs m.ret.kind i):=rin_rest hk
 have HA:Hid (ClsAt w A cs):=hA
 have HB:Hid (MesAt w B ms):=hB
 have HQ:Hid (IntsAt w Q i.args):=hQ
 have HR:Hid (RBox (boxed5 w cs.length ms.length A B a b m P C K p c k i Q q x y z) w.heap.size cs.length ms.length A B a b m P C K p c k i Q q x y z):=boxed5_is w cs.length ms.length A B a b m P C K p c k i Q q x y z
 have HK:Hid (kindsOf i.op=some (x,y,z)):=hk
 clear hA hB hQ hk
 go_enter Tryz.func39,Tryz.ntmps39
 go_wp2_with (go_at_call 78;refine (rnamed_any _ _ x y z HK.out).mono ?_;rintro e w' ⟨rfl,rfl⟩)
 go_loopw [10] (fun v wr=>∃j:Nat,j≤3∧v=.int .i64 j∧Hid (∀l,l<j→rfldB m.regs (three i.a i.b i.c l) (three x y z l)=true)∧Hid (Bl w wr)∧Hid (RBox wr w.heap.size cs.length ms.length A B a b m P C K p c k i Q q x y z)) (fun v _=>3-(intOf v).toNat)
 case atStart=>exact ⟨0,by omega,rfl,fun l hl=>absurd hl (Nat.not_lt_zero _),((((((Bl.refl w).alloc _).alloc _).alloc _).alloc _).alloc _),HR⟩
 case round =>
  clear HR
  obtain ⟨j,hj,rfl,hgj,hg,HR⟩:=hrel
  obtain ⟨w0,hw0⟩:∃w0,w0=wr:=⟨wr,rfl⟩
  subst hw0
  by_cases hjl:j<3
  ·have gk:=fut_cell (HR.out.rk.at j hjl)
   have gd:=fut_cell (HR.out.rd.at j hjl)
   have y0:=fut_cell HR.out.rm.1
   have y1:=fut_cell HR.out.rm.2.1
   have y2:=fut_cell HR.out.rm.2.2.1
   have y3:=fut_cell HR.out.rm.2.2.2.1
   have y4:=fut_cell HR.out.rm.2.2.2.2.1
   have y5:=fut_cell HR.out.rm.2.2.2.2.2.1
   have y6:=fut_cell HR.out.rm.2.2.2.2.2.2.1
   have y7:=fut_cell HR.out.rm.2.2.2.2.2.2.2
   have HN0:Hid (rfldB m.regs (three i.a i.b i.c j) (three x y z j)=false→rinB cs ms m.code.length m.regs m.ret.kind i=false):=HFB.out j hjl
   by_cases hz:three x y z j=0
   ·have HY0:Hid (rfldB m.regs (three i.a i.b i.c j) (three x y z j)=decide (three i.a i.b i.c j=0)):=by unfold rfldB;rw [if_pos hz];rfl
    rw [hz] at gk
    have hreg:=hz
    clear hz
    by_cases hv:three i.a i.b i.c j=0
    ·have HY:Hid (rfldB m.regs (three i.a i.b i.c j) (three x y z j)=true):=HY0.out.trans (decide_eq_true hv)
     rw [hv] at gd
     clear hv hreg
     have hreg:=hjl
     go_wp2
     refine wp_region_fut (by kernel_rfl) (by kernel_rfl) fun hne=>?_
     repeat (go_big_quiet_step ((go_at_call 79;exact Calls.fut_eq _ (rreg_any m _ _ _ _ _ _ _ _ _ hlo hhi) (congrArg Value.bool hreg))))
     refine wpQuiet_nil ?_
     rintro _ ⟨⟨w2,hw2⟩,rfl⟩
     go_wp2
     go_roundw
     case rel=>exact ⟨j+1,by omega,by go_num,fun l hl=>if h:l<j then hgj.out l h else by have:l=j:=(by omega);subst this;exact HY.out,hg.out.trans hw2,HR.out.bl hw2⟩
     case measure=>simp [intOf];omega
    ·have HN:Hid (rinB cs ms m.code.length m.regs m.ret.kind i=false):=HN0.out (HY0.out.trans (decide_eq_false hv))
     have hv':(three i.a i.b i.c j !=0)=true:=by simpa using hv
     clear hv hreg
     have hreg:=hjl
     go_wp2
     refine wp_region_fut (by kernel_rfl) (by kernel_rfl) fun hne=>?_
     repeat (go_big_quiet_step ((go_at_call 79;exact Calls.fut_eq _ (rreg_any m _ _ _ _ _ _ _ _ _ hlo hhi) (congrArg Value.bool hreg))))
     refine wpQuiet_nil ?_
     rintro _ ⟨⟨w2,hw2⟩,rfl⟩
     go_wp2
     go_ret
     exact ⟨ret_bool HN.out.symm,hg.out.trans hw2⟩
   ·have hz':(three x y z j==0)=false:=by simpa using hz
    by_cases hp:0<three x y z j
    ·have hp':decide (0<three x y z j)=true:=decide_eq_true hp
     have HY0:Hid (rfldB m.regs (three i.a i.b i.c j) (three x y z j)=regB m.regs (three i.a i.b i.c j) (three x y z j)):=by unfold rfldB;rw [if_neg hz,if_pos hp];rfl
     cases hreg:regB m.regs (three i.a i.b i.c j) (three x y z j)
     ·have HN:Hid (rinB cs ms m.code.length m.regs m.ret.kind i=false):=HN0.out (HY0.out.trans hreg)
      go_wp2
      refine wp_region_fut (by kernel_rfl) (by kernel_rfl) fun hne=>?_
      repeat (go_big_quiet_step ((go_at_call 79;exact Calls.fut_eq _ (rreg_any m _ _ _ _ _ _ _ _ _ hlo hhi) (congrArg Value.bool hreg))))
      refine wpQuiet_nil ?_
      rintro _ ⟨⟨w2,hw2⟩,rfl⟩
      go_wp2
      go_ret
      exact ⟨ret_bool HN.out.symm,hg.out.trans hw2⟩
     ·have HY:Hid (rfldB m.regs (three i.a i.b i.c j) (three x y z j)=true):=HY0.out.trans hreg
      go_wp2
      refine wp_region_fut (by kernel_rfl) (by kernel_rfl) fun hne=>?_
      repeat (go_big_quiet_step ((go_at_call 79;exact Calls.fut_eq _ (rreg_any m _ _ _ _ _ _ _ _ _ hlo hhi) (congrArg Value.bool hreg))))
      refine wpQuiet_nil ?_
      rintro _ ⟨⟨w2,hw2⟩,rfl⟩
      go_wp2
      go_roundw
      case rel=>exact ⟨j+1,by omega,by go_num,fun l hl=>if h:l<j then hgj.out l h else by have:l=j:=(by omega);subst this;exact HY.out,hg.out.trans hw2,HR.out.bl hw2⟩
      case measure=>simp [intOf];omega
    ·have hp':decide (0<three x y z j)=false:=decide_eq_false hp
     have HY:Hid (rfldB m.regs (three i.a i.b i.c j) (three x y z j)=true):=by unfold rfldB;rw [if_neg hz,if_neg hp];rfl
     have hreg:=hz
     go_wp2
     refine wp_region_fut (by kernel_rfl) (by kernel_rfl) fun hne=>?_
     repeat (go_big_quiet_step ((go_at_call 79;exact Calls.fut_eq _ (rreg_any m _ _ _ _ _ _ _ _ _ hlo hhi) (congrArg Value.bool hreg))))
     refine wpQuiet_nil ?_
     rintro _ ⟨⟨w2,hw2⟩,rfl⟩
     go_wp2
     go_roundw
     case rel=>exact ⟨j+1,by omega,by go_num,fun l hl=>if h:l<j then hgj.out l h else by have:l=j:=(by omega);subst this;exact HY.out,hg.out.trans hw2,HR.out.bl hw2⟩
     case measure=>simp [intOf];omega
  ·obtain rfl:j=3:=by omega
   have HRR:Hid (rinB cs ms m.code.length m.regs m.ret.kind i=rrestB cs ms m.code.length m.regs m.ret.kind i):=HFG.out hgj.out
   clear HFB HFG hgj hj hjl
   obtain ⟨a0,a1,a2,a3,a4,a5⟩:=HR.out.ri.lit
   obtain ⟨m0,m1,m2,m3,m4,m5,m6,m7⟩:=HR.out.rm.lit
   obtain ⟨f0,f1⟩:=HR.out.rf.lit
   have G:Hid (Bl w0 w0):=Bl.refl w0
   by_cases hop:i.op=18
   ·rw [hop] at a0
    have HOP:Hid (i.op=18):=hop
    clear hop
    by_cases hn:i.n=0
    ·rw [hn] at a4
     have hre:rinB cs ms m.code.length m.regs m.ret.kind i=(decide (0≤i.a∧i.a<ms.length∧i.args.length=(nth me0 ms i.a.toNat).params.length)&&(List.range i.args.length).all (fun k=>regB m.regs (nth (0:Int) i.args k) (nth ty0 (nth me0 ms i.a.toNat).params k).kind)):=HRR.out.trans (by simp [rrestB,HOP.out,hn])
     clear HRR hn
     have z0:=fut_cell a0
     have z5:=fut_cell a5
     have zf:=fut_cell f1
     by_cases ha:0≤i.a∧i.a≤(ms.length:Int)-1
     ·obtain ⟨u,hu⟩:∃u:Nat,i.a=u:=⟨i.a.toNat,by omega⟩
      have hul:u<ms.length:=by omega
      have da:decide (0≤(u:Int)∧(u:Int)≤(ms.length:Int)-1)=true:=decide_eq_true (by omega)
      rw [hu] at a1 hre
      rw [Int.toNat_natCast] at hre
      clear ha
      have z1:=fut_cell a1
      have hcl:=HB.out.bl hg.out
      rcases hcl.2 with h0|⟨b',off',rfl,hcc⟩
      ·omega
      obtain ⟨P',C',K',p',c',k',k1,-,-,-,-,-,-,-,hme⟩:=hcc u hul
      have hty:=hme.1
      have hfl:=hty.1
      have hql:=HQ.out.1
      unfold maxLen at hfl hql
      have zk:=fut_cell k1
      have HTY:Hid (TysAt w0 P' (nth me0 ms u).params):=hty
      have HRE:Hid (rinB cs ms m.code.length m.regs m.ret.kind i=(decide (0≤(u:Int)∧(u:Int)<ms.length∧i.args.length=(nth me0 ms u).params.length)&&(List.range i.args.length).all (fun k=>regB m.regs (nth (0:Int) i.args k) (nth ty0 (nth me0 ms u).params k).kind))):=hre
      have HU:Hid (i.a=u):=hu
      clear hcl hcc hty hme hre hu
      generalize hF:(nth me0 ms u).params=Fd at *
      clear hF
      by_cases hl:i.args.length=Fd.length
      ·have HL:Hid (i.args.length=Fd.length):=hl
       have HALL:Hid (rinB cs ms m.code.length m.regs m.ret.kind i=(List.range i.args.length).all (fun k=>regB m.regs (nth (0:Int) i.args k) (nth ty0 Fd k).kind)):=HRE.out.trans (by rw [decide_eq_true ⟨by omega,by omega,hl⟩];rfl)
       have hl':((i.args.length:Int) !=(Fd.length:Int))=false:=by rw [hl];simp
       clear hl HRE
       go_wp2
       refine wp_region_fut (by kernel_rfl) (by kernel_rfl) fun hne=>?_
       repeat (go_big_quiet_step ((go_at_call 36;exact Calls.fut_same_eq _ (within_any _ _ _ _) (congrArg Value.bool da))))
       refine wpQuiet_nil ?_
       rintro _ ⟨⟨w2,hw2⟩,rfl⟩
       go_wp2
       clear hne z0 z1 z5 zf zk
       go_loopw [13] (fun v wr2=>∃j:Nat,j≤i.args.length∧v=.int .i64 j∧Hid (∀l,l<j→regB m.regs (nth (0:Int) i.args l) (nth ty0 Fd l).kind=true)∧Hid (Bl w0 wr2)) (fun v _=>i.args.length-(intOf v).toNat)
       case atStart=>exact ⟨0,Nat.zero_le _,rfl,fun l hl=>absurd hl (Nat.not_lt_zero _),hw2⟩
       case round =>
        obtain ⟨j,hj,rfl,hgj,hg2⟩:=hrel
        have R2:=HR.out.bl hg2.out
        obtain ⟨e0,e1,e2,e3,e4,e5⟩:=R2.ri.lit
        by_cases hjl:j<i.args.length
        ·obtain ⟨q0,q1,q2,q3,q4,q5,q6,q7⟩:=R2.rm.lit
         obtain ⟨p0,p1⟩:=R2.rf.lit
         rw [HU.out] at e1
         have k2:=hg2.out.cell k1
         have hLL:=HL.out
         rcases (HTY.out.bl hg2.out).2 with h0|⟨bt,ot,rfl,htt⟩
         ·omega
         have t1:=(htt j (by omega)).1
         rcases (HQ.out.bl (hg.out.trans hg2.out)).2 with h0|⟨bq,oq,rfl,hqq⟩
         ·omega
         have t2:=(hqq j hjl).1
         have hjf:j<Fd.length:=by omega
         clear hLL
         have x1:=fut_cell e1
         have x5:=fut_cell e5
         have y0:=fut_cell q0
         have y1:=fut_cell q1
         have y2:=fut_cell q2
         have y3:=fut_cell q3
         have y4:=fut_cell q4
         have y5:=fut_cell q5
         have y6:=fut_cell q6
         have y7:=fut_cell q7
         have xf:=fut_cell p1
         have xk:=fut_cell k2
         have xt:=fut_cell t1
         have xq:=fut_cell t2
         clear R2 e0 e1 e2 e3 e4 q0 q1 q2 q3 q4 q5 q6 q7 p0 p1 k2 t1 t2 htt hqq
         cases hreg:regB m.regs (nth (0:Int) i.args j) (nth ty0 Fd j).kind
         ·have HNN:Hid (rinB cs ms m.code.length m.regs m.ret.kind i=false):=HALL.out.trans (List.all_eq_false.2 ⟨j,by simpa using hjl,by rw [hreg];decide⟩)
          go_wp2
          refine wp_region_fut (by kernel_rfl) (by kernel_rfl) fun hne=>?_
          repeat (go_big_quiet_step ((go_at_call 79;exact Calls.fut_eq _ (rreg_any m _ _ _ _ _ _ _ _ _ hlo hhi) (congrArg Value.bool hreg))))
          refine wpQuiet_nil ?_
          rintro _ ⟨⟨w3,hw3⟩,rfl⟩
          go_wp2
          go_ret
          exact ⟨ret_bool HNN.out.symm,(hg.out.trans hg2.out).trans hw3⟩
         ·have HY:Hid (regB m.regs (nth (0:Int) i.args j) (nth ty0 Fd j).kind=true):=hreg
          go_wp2
          refine wp_region_fut (by kernel_rfl) (by kernel_rfl) fun hne=>?_
          repeat (go_big_quiet_step ((go_at_call 79;exact Calls.fut_eq _ (rreg_any m _ _ _ _ _ _ _ _ _ hlo hhi) (congrArg Value.bool hreg))))
          refine wpQuiet_nil ?_
          rintro _ ⟨⟨w3,hw3⟩,rfl⟩
          go_wp2
          go_roundw
          case rel=>exact ⟨j+1,by omega,by go_num,fun l hl=>if h:l<j then hgj.out l h else by have:l=j:=(by omega);subst this;exact HY.out,hg2.out.trans hw3⟩
          case measure=>simp [intOf];omega
        ·obtain rfl:j=i.args.length:=by omega
         have HNN:Hid (rinB cs ms m.code.length m.regs m.ret.kind i=true):=HALL.out.trans (List.all_eq_true.2 fun l hl=>hgj.out l (by simpa using hl))
         go_wp2
         go_ret
         exact ⟨ret_bool HNN.out.symm,hg.out.trans hg2.out⟩
      ·have HNN:Hid (rinB cs ms m.code.length m.regs m.ret.kind i=false):=HRE.out.trans (by rw [decide_eq_false (by omega)];rfl)
       have hl':((i.args.length:Int) !=(Fd.length:Int))=true:=by simp;omega
       clear HRE
       go_wp2
       refine wp_region_fut (by kernel_rfl) (by kernel_rfl) fun hne=>?_
       repeat (go_big_quiet_step ((go_at_call 36;exact Calls.fut_same_eq _ (within_any _ _ _ _) (congrArg Value.bool da))))
       refine wpQuiet_nil ?_
       rintro _ ⟨⟨w2,hw2⟩,rfl⟩
       go_wp2
       go_ret
       exact ⟨ret_bool HNN.out.symm,hg.out.trans hw2⟩
     ·have da:decide (0≤i.a∧i.a≤(ms.length:Int)-1)=false:=decide_eq_false ha
      have z1:=fut_cell a1
      have HNN:Hid (rinB cs ms m.code.length m.regs m.ret.kind i=false):=hre.trans (by rw [decide_eq_false (by omega)];rfl)
      clear hre ha
      go_wp2
      refine wp_region_fut (by kernel_rfl) (by kernel_rfl) fun hne=>?_
      repeat (go_big_quiet_step ((go_at_call 36;exact Calls.fut_same_eq _ (within_any _ _ _ _) (congrArg Value.bool da))))
      refine wpQuiet_nil ?_
      rintro _ ⟨⟨w2,hw2⟩,rfl⟩
      go_wp2
      go_ret
      exact ⟨ret_bool HNN.out.symm,hg.out.trans hw2⟩
    ·have hn':(i.n !=0)=true:=by simpa using hn
     go_wp2
     go_ret
     refine ⟨ret_bool ?_,hg.out.trans G.out⟩
     rw [HRR.out,Bool.eq_iff_iff];simp [rrestB,HOP.out,hn]
   exact absurd hgrp.out hop
theorem kinds_some {op x y z:Int} (h:kindsOf op=some (x,y,z)):1≤op∧op≤24:=by
 refine Decidable.byContradiction fun hc=>?_
 have hk:kindsOf op=none:=by
  unfold kindsOf
  rw [if_neg (by omega),if_neg (by omega),if_neg (by omega),if_neg (by omega),if_neg (by omega),if_neg (by omega),if_neg (by omega),if_neg (by omega),if_neg (by omega),if_neg (by omega),if_neg (by omega),if_neg (by omega),if_neg (by omega),if_neg (by omega),if_neg (by omega),if_neg (by omega),if_neg (by omega),if_neg (by omega),if_neg (by omega),if_neg (by omega),if_neg (by omega),if_neg (by omega),if_neg (by omega),if_neg (by omega)]
 rw [hk] at h
 cases h
theorem rrins_any (i:In) (cs:List Cl) (ms:List Me) (A B:Option Addr) (a b:Nat) (m:Me) (P C K:Option Addr) (p c k:Nat) (Q:Option Addr) (q:Nat) (w:World) (hnc:cs.length≤12) (hnm:ms.length≤8) (hcode:m.code.length≤maxLen) (hlo:1≤m.regs) (hhi:m.regs≤90)
  (hA:ClsAt w A cs) (hB:MesAt w B ms) (hQ:IntsAt w Q i.args) :
  Calls Tryz.prog 39 #[fiV cs.length ms.length A B a b,meV m P C K p c k,inV i Q q] w fun e w'=>e=.returned (.bool (rinB cs ms m.code.length m.regs m.ret.kind i))∧Bl w w':=by
 cases hk:kindsOf i.op with
 | none =>
  unfold maxLen at hcode
  have hb:rinB cs ms m.code.length m.regs m.ret.kind i=false:=by unfold rinB;rw [hk]
  rw [hb]
  have h24:=kinds_none hk
  clear hb hk hA hB hQ
  go_enter Tryz.func39,Tryz.ntmps39
  go_wp2_with (go_at_call 78;refine (rnamed_none _ _ h24).mono ?_;rintro e w' ⟨rfl,rfl⟩)
  go_ret
  exact ⟨rfl,(((Bl.refl _).alloc _).alloc _).alloc _⟩
 | some xyz =>
  obtain ⟨x,y,z⟩:=xyz
  have h24:=kinds_some hk
  by_cases gA:i.op=1∨i.op=2∨i.op=3∨i.op=5∨i.op=6∨i.op=7
  ·exact rrins_A x y z i cs ms A B a b m P C K p c k Q q w hnc hnm hcode hlo hhi hA hB hQ hk gA
  by_cases gB:i.op=8∨i.op=9∨i.op=21∨i.op=22∨i.op=24∨i.op=10∨i.op=12
  ·exact rrins_B x y z i cs ms A B a b m P C K p c k Q q w hnc hnm hcode hlo hhi hA hB hQ hk gB
  by_cases gC:i.op=11∨i.op=13∨i.op=16∨i.op=17∨i.op=20
  ·exact rrins_C x y z i cs ms A B a b m P C K p c k Q q w hnc hnm hcode hlo hhi hA hB hQ hk gC
  by_cases gD:i.op=4∨i.op=19∨i.op=23
  ·exact rrins_D x y z i cs ms A B a b m P C K p c k Q q w hnc hnm hcode hlo hhi hA hB hQ hk gD
  by_cases gE:i.op=14∨i.op=15
  ·exact rrins_E x y z i cs ms A B a b m P C K p c k Q q w hnc hnm hcode hlo hhi hA hB hQ hk gE
  by_cases gF:i.op=18
  ·exact rrins_F x y z i cs ms A B a b m P C K p c k Q q w hnc hnm hcode hlo hhi hA hB hQ hk gF
  omega
theorem rme_head {cs:List Cl} {ms:List Me} {m:Me} (h:headB cs.length m 2400=false):rmeB cs ms m=false:=by unfold rmeB;rw [h];rfl
theorem rme_nums {cs:List Cl} {ms:List Me} {m:Me} (h:¬(m.stack=0∧m.locs=0∧1≤m.regs∧m.regs≤90∧(slotsN m.params:Int)≤m.regs)):rmeB cs ms m=false:=by
 unfold rmeB;rw [decide_eq_false h,Bool.and_false];rfl
theorem rme_ins {cs:List Cl} {ms:List Me} {m:Me} {q:Nat} (hq:q<m.code.length) (h:rinB cs ms m.code.length m.regs m.ret.kind (nth in0 m.code q)=false):rmeB cs ms m=false:=by
 unfold rmeB;rw [all_bad hq h,Bool.and_false]
theorem rme_good {cs:List Cl} {ms:List Me} {m:Me} (h0:headB cs.length m 2400=true) (h:m.stack=0∧m.locs=0∧1≤m.regs∧m.regs≤90∧(slotsN m.params:Int)≤m.regs)
  (hi:∀q,q<m.code.length→rinB cs ms m.code.length m.regs m.ret.kind (nth in0 m.code q)=true):rmeB cs ms m=true:=by
 unfold rmeB;rw [h0,decide_eq_true h,all_good hi];rfl
theorem rfmay_cls {f:Fi} (h:mayB f.classes=false):rfmayB f=false:=by unfold rfmayB;rw [h];rfl
theorem rfmay_many {f:Fi} (h:¬(1≤f.methods.length∧f.methods.length≤8)):rfmayB f=false:=by unfold rfmayB;rw [decide_eq_false h,Bool.and_false];rfl
theorem rfmay_me {f:Fi} {q:Nat} (hq:q<f.methods.length) (h:rmeB f.classes f.methods (nth me0 f.methods q)=false):rfmayB f=false:=by
 unfold rfmayB;rw [all_bad hq h,Bool.and_false]
theorem rfmay_good {f:Fi} (h0:mayB f.classes=true) (h:1≤f.methods.length∧f.methods.length≤8)
  (hi:∀q,q<f.methods.length→rmeB f.classes f.methods (nth me0 f.methods q)=true):rfmayB f=true:=by
 unfold rfmayB;rw [h0,decide_eq_true h,all_good hi];rfl
theorem rfmay_any (f:Fi) (A B:Option Addr) (a b:Nat) (w:World) (hA:ClsAt w A f.classes) (hB:MesAt w B f.methods) :
  Calls Tryz.prog 17 #[fiV f.classes.length f.methods.length A B a b] w fun e w'=>e=.returned (.bool (rfmayB f))∧Bl w w':=by
 have HA:Hid (ClsAt w A f.classes):=hA
 have HB:Hid (MesAt w B f.methods):=hB
 have hcm:=hA.1
 have hmm:=hB.1
 unfold maxLen at hcm hmm
 clear hA hB
 have HF:Hid (FiBox (w.alloc (.cells #[.slice A f.classes.length a,.slice B f.methods.length b] 25)) w.heap.size 0 f.classes.length f.methods.length A B a b):=⟨cell_of_new rfl,cell_of_new rfl⟩
 have HW:Hid (Bl w (w.alloc (.cells #[.slice A f.classes.length a,.slice B f.methods.length b] 25))):=(Bl.refl w).alloc _
 cases hm:mayB f.classes
 ·have hb:=rfmay_cls hm
  rw [hb]
  go_enter Tryz.func17,Tryz.ntmps17
  go_wp2_with (go_at_call 35;refine (rmay_any _ _ _ _ (HA.out.bl HW.out)).mono ?_;rintro e w1 ⟨he,g1⟩;rw [hm] at he;subst he)
  go_ret
  exact ⟨rfl,HW.out.trans g1⟩
 by_cases hn:1≤(f.methods.length:Int)∧(f.methods.length:Int)≤8
 ·have dn:decide (1≤(f.methods.length:Int)∧(f.methods.length:Int)≤8)=true:=decide_eq_true hn
  have HG:Hid ((∀q,q<f.methods.length→rmeB f.classes f.methods (nth me0 f.methods q)=true)→rfmayB f=true):=rfmay_good hm (by omega)
  have hnc:=(may_tree hm).2.2
  go_enter Tryz.func17,Tryz.ntmps17
  go_wp2_with (first
   | (go_at_call 35;refine (rmay_any _ _ _ _ (HA.out.bl HW.out)).mono ?_;rintro e w1 ⟨he,g1⟩;rw [hm] at he;subst he;have q1:=(HF.out.bl g1).2;simp only [Nat.zero_add] at q1)
   | (go_at_call 36;refine (within_any _ _ _ _).mono ?_;rintro e w2 ⟨he,rfl⟩;rw [dn] at he;subst he))
  go_loopw [3] (fun i wr=>∃k:Nat,k≤f.methods.length∧i=.int .i64 k∧Hid (∀j,j<k→rmeB f.classes f.methods (nth me0 f.methods j)=true)∧Hid (Bl w wr)∧Hid (FiBox wr w.heap.size 0 f.classes.length f.methods.length A B a b)) (fun i _=>f.methods.length-(intOf i).toNat)
  case atStart=>exact ⟨0,Nat.zero_le _,rfl,fun j hj=>absurd hj (Nat.not_lt_zero _),HW.out.trans g1,HF.out.bl g1⟩
  case round =>
   clear HF HW q1 g1 hm
   obtain ⟨k,hk,rfl,hgk,hg,HF⟩:=hrel
   rename World=>w0
   have hf1:=HF.out.2
   simp only [Nat.zero_add] at hf1
   by_cases hkl:k<f.methods.length
   ·have hmes:=HB.out.bl hg.out
    rcases hmes.2 with h0|⟨b',off',rfl,hcell⟩
    ·omega
    obtain ⟨P,C,K,p,c,kk,c0,c1,c2,c3,c4,c5,c6,c7,hme⟩:=hcell k hkl
    have HBAD:Hid (rmeB f.classes f.methods (nth me0 f.methods k)=false→rfmayB f=false):=rfmay_me hkl
    generalize hM:nth me0 f.methods k=m at *
    have HM:Hid (nth me0 f.methods k=m):=hM
    have hcl:=hme.2.1.1
    have hpl:=hme.1.1
    clear hmes hcell hM
    have bm:MeBox (w0.alloc (.cells #[.slice P m.params.length p,.int .i64 m.ret.kind,.int .i64 m.ret.cls,.int .i64 m.stack,.int .i64 m.locs,.int .i64 m.regs,.slice C m.code.length c,.slice K m.hands.length kk] 50)) w0.heap.size 0 m P C K p c kk:=⟨cell_of_new rfl,cell_of_new rfl,cell_of_new rfl,cell_of_new rfl,cell_of_new rfl,cell_of_new rfl,cell_of_new rfl,cell_of_new rfl⟩
    have hal:Bl w0 (w0.alloc (.cells #[.slice P m.params.length p,.int .i64 m.ret.kind,.int .i64 m.ret.cls,.int .i64 m.stack,.int .i64 m.locs,.int .i64 m.regs,.slice C m.code.length c,.slice K m.hands.length kk] 50)):=(Bl.refl w0).alloc _
    have bf:=HF.out.bl hal
    have XP:Hid (∀x:Fut (w0.alloc (.cells #[.slice P m.params.length p,.int .i64 m.ret.kind,.int .i64 m.ret.cls,.int .i64 m.stack,.int .i64 m.locs,.int .i64 m.regs,.slice C m.code.length c,.slice K m.hands.length kk] 50)),TysAt x.to P m.params):=fun x=>hme.1.bl (hal.trans x.is)
    have XK:Hid (∀x:Fut (w0.alloc (.cells #[.slice P m.params.length p,.int .i64 m.ret.kind,.int .i64 m.ret.cls,.int .i64 m.stack,.int .i64 m.locs,.int .i64 m.regs,.slice C m.code.length c,.slice K m.hands.length kk] 50)),HdsAt x.to K m.hands):=fun x=>hme.2.2.1.bl (hal.trans x.is)
    have HC:Hid (InsAt w0 C m.code):=hme.2.1
    have HAL:Hid (Bl w0 (w0.alloc (.cells #[.slice P m.params.length p,.int .i64 m.ret.kind,.int .i64 m.ret.cls,.int .i64 m.stack,.int .i64 m.locs,.int .i64 m.regs,.slice C m.code.length c,.slice K m.hands.length kk] 50))):=hal
    have HBM:Hid (MeBox (w0.alloc (.cells #[.slice P m.params.length p,.int .i64 m.ret.kind,.int .i64 m.ret.cls,.int .i64 m.stack,.int .i64 m.locs,.int .i64 m.regs,.slice C m.code.length c,.slice K m.hands.length kk] 50)) w0.heap.size 0 m P C K p c kk):=bm
    have HBF:Hid (FiBox (w0.alloc (.cells #[.slice P m.params.length p,.int .i64 m.ret.kind,.int .i64 m.ret.cls,.int .i64 m.stack,.int .i64 m.locs,.int .i64 m.regs,.slice C m.code.length c,.slice K m.hands.length kk] 50)) w.heap.size 0 f.classes.length f.methods.length (A) (some ⟨b',off',none⟩) a b):=bf
    have x0:=fut_cell bf.1
    have x1:=fut_cell bf.2
    have y0:=fut_cell bm.1
    have y1:=fut_cell bm.2.1
    have y2:=fut_cell bm.2.2.1
    have y3:=fut_cell bm.2.2.2.1
    have y4:=fut_cell bm.2.2.2.2.1
    have y5:=fut_cell bm.2.2.2.2.2.1
    have y6:=fut_cell bm.2.2.2.2.2.2.1
    have y7:=fut_cell bm.2.2.2.2.2.2.2
    clear bm bf hal hme HF
    cases hh:headB f.classes.length m 2400
    ·have HN:Hid (rfmayB f=false):=HBAD.out (rme_head hh)
     have ds:=hh
     go_wp2
     refine wp_region_fut (by kernel_rfl) (by kernel_rfl) fun hne=>?_
     repeat (go_big_quiet_step (first
      | (go_at_call 37;exact Calls.fut_eq _ (rhead_any _ _ _ _ _ _ m _ _ _ _ _ _ _ _ (XP.out _) (XK.out _) hnc hcl) (congrArg Value.bool hh))
      | (go_at_call 38;exact Calls.fut_same _ (rslots_any _ _ _ _ (XP.out _) (by omega)))
      | (go_at_call 36;exact Calls.fut_same_eq _ (within_any _ _ _ _) (congrArg Value.bool ds))))
     refine wpQuiet_nil ?_
     rintro _ ⟨⟨w2,hw2⟩,rfl⟩
     go_wp2
     go_ret
     exact ⟨ret_bool HN.out.symm,(hg.out.trans HAL.out).trans hw2⟩
    ·have hfew:=head_few4 hh
     by_cases hr:m.stack=0
     ·have hr':(m.stack !=0)=false:=by simpa using hr
      have HR:Hid (m.stack=0):=hr
      clear hr
      by_cases hr2:m.locs=0
      ·have hr2':(m.locs !=0)=false:=by simpa using hr2
       have HR2:Hid (m.locs=0):=hr2
       clear hr2
       by_cases hs:1≤m.regs∧m.regs≤90
       ·have ds:decide (1≤m.regs∧m.regs≤90)=true:=decide_eq_true hs
        by_cases hl:m.regs<(slotsN m.params:Int)
        ·have dl:decide (m.regs<(slotsN m.params:Int))=true:=decide_eq_true hl
         have HN:Hid (rfmayB f=false):=HBAD.out (rme_nums (by omega))
         go_wp2
         refine wp_region_fut (by kernel_rfl) (by kernel_rfl) fun hne=>?_
         repeat (go_big_quiet_step (first
          | (go_at_call 37;exact Calls.fut_eq _ (rhead_any _ _ _ _ _ _ m _ _ _ _ _ _ _ _ (XP.out _) (XK.out _) hnc hcl) (congrArg Value.bool hh))
          | (go_at_call 38;exact Calls.fut_same _ (rslots_any _ _ _ _ (XP.out _) (by omega)))
          | (go_at_call 36;exact Calls.fut_same_eq _ (within_any _ _ _ _) (congrArg Value.bool ds))))
         refine wpQuiet_nil ?_
         rintro _ ⟨⟨w2,hw2⟩,rfl⟩
         go_wp2
         go_ret
         exact ⟨ret_bool HN.out.symm,(hg.out.trans HAL.out).trans hw2⟩
        ·have dl:decide (m.regs<(slotsN m.params:Int))=false:=decide_eq_false hl
         have HGM:Hid ((∀q,q<m.code.length→rinB f.classes f.methods m.code.length m.regs m.ret.kind (nth in0 m.code q)=true)→rmeB f.classes f.methods m=true):=rme_good hh ⟨HR.out,HR2.out,by omega⟩
         go_wp2
         refine wp_region_fut (by kernel_rfl) (by kernel_rfl) fun hne=>?_
         repeat (go_big_quiet_step (first
          | (go_at_call 37;exact Calls.fut_eq _ (rhead_any _ _ _ _ _ _ m _ _ _ _ _ _ _ _ (XP.out _) (XK.out _) hnc hcl) (congrArg Value.bool hh))
          | (go_at_call 38;exact Calls.fut_same _ (rslots_any _ _ _ _ (XP.out _) (by omega)))
          | (go_at_call 36;exact Calls.fut_same_eq _ (within_any _ _ _ _) (congrArg Value.bool ds))))
         refine wpQuiet_nil ?_
         rintro _ ⟨⟨w2,hw2⟩,rfl⟩
         go_wp2
         clear x0 x1 y0 y1 y2 y3 y4 y5 y6 y7 hne
         go_loopw [5] (fun i wr2=>∃q:Nat,q≤m.code.length∧i=.int .i64 q∧Hid (∀j,j<q→rinB f.classes f.methods m.code.length m.regs m.ret.kind (nth in0 m.code j)=true)∧Hid (Bl w0 wr2)∧Hid (FiBox wr2 w.heap.size 0 f.classes.length f.methods.length A (some ⟨b',off',none⟩) a b)∧Hid (MeBox wr2 w0.heap.size 0 m P C K p c kk)) (fun i _=>m.code.length-(intOf i).toNat)
         case atStart=>exact ⟨0,Nat.zero_le _,rfl,fun j hj=>absurd hj (Nat.not_lt_zero _),HAL.out.trans hw2,HBF.out.bl hw2,HBM.out.bl hw2⟩
         case round =>
          clear HBF HBM HAL hw2 XP XK
          obtain ⟨q,hq,rfl,hgq,hg2,HBF,HBM⟩:=hrel
          have hm6:=HBM.out.2.2.2.2.2.2.1
          simp only [Nat.zero_add] at hm6
          by_cases hql:q<m.code.length
          ·have hic:=HC.out.bl hg2.out
           rcases hic.2 with h0|⟨b2,off2,rfl,hcell⟩
           ·omega
           obtain ⟨c0,c1,c2,c3,c4,-,A',ca,c5,hia⟩:=hcell q hql
           have HNI:Hid (rinB f.classes f.methods m.code.length m.regs m.ret.kind (nth in0 m.code q)=false→rfmayB f=false):=fun h=>HBAD.out (rme_ins hql h)
           generalize hX:nth in0 m.code q=X at *
           have HX:Hid (nth in0 m.code q=X):=hX
           clear hic hcell hX
           have x0:=fut_cell HBF.out.1
           have x1:=fut_cell HBF.out.2
           have y0:=fut_cell HBM.out.1
           have y1:=fut_cell HBM.out.2.1
           have y2:=fut_cell HBM.out.2.2.1
           have y3:=fut_cell HBM.out.2.2.2.1
           have y4:=fut_cell HBM.out.2.2.2.2.1
           have y5:=fut_cell HBM.out.2.2.2.2.2.1
           have y6:=fut_cell HBM.out.2.2.2.2.2.2.1
           have y7:=fut_cell HBM.out.2.2.2.2.2.2.2
           have z0:=fut_cell c0
           have z1:=fut_cell c1
           have z2:=fut_cell c2
           have z3:=fut_cell c3
           have z4:=fut_cell c4
           have z5:=fut_cell c5
           clear c0 c1 c2 c3 c4 c5
           have XA:Hid (∀x:Fut wr,ClsAt x.to A f.classes):=fun x=>HA.out.bl ((hg.out.trans hg2.out).trans x.is)
           have XB:Hid (∀x:Fut wr,MesAt x.to (some ⟨b',off',none⟩) f.methods):=fun x=>HB.out.bl ((hg.out.trans hg2.out).trans x.is)
           have XQ:Hid (∀x:Fut wr,IntsAt x.to A' X.args):=fun x=>hia.bl x.is
           clear hia
           cases hi:rinB f.classes f.methods m.code.length m.regs m.ret.kind X
           ·have HN:Hid (rfmayB f=false):=HNI.out hi
            go_wp2
            refine wp_region_fut (by kernel_rfl) (by kernel_rfl) fun hne=>?_
            repeat (go_big_quiet_step ((go_at_call 39;exact Calls.fut_eq _ (rrins_any X f.classes f.methods _ _ _ _ m _ _ _ _ _ _ _ _ _ hnc (by omega) hcl hs.1 hs.2 (XA.out _) (XB.out _) (XQ.out _)) (congrArg Value.bool hi))))
            refine wpQuiet_nil ?_
            rintro _ ⟨⟨w3,hw3⟩,rfl⟩
            go_wp2
            go_ret
            exact ⟨ret_bool HN.out.symm,(hg.out.trans hg2.out).trans hw3⟩
           ·have HI:Hid (rinB f.classes f.methods m.code.length m.regs m.ret.kind X=true):=hi
            go_wp2
            refine wp_region_fut (by kernel_rfl) (by kernel_rfl) fun hne=>?_
            repeat (go_big_quiet_step ((go_at_call 39;exact Calls.fut_eq _ (rrins_any X f.classes f.methods _ _ _ _ m _ _ _ _ _ _ _ _ _ hnc (by omega) hcl hs.1 hs.2 (XA.out _) (XB.out _) (XQ.out _)) (congrArg Value.bool hi))))
            refine wpQuiet_nil ?_
            rintro _ ⟨⟨w3,hw3⟩,rfl⟩
            go_wp2
            go_roundw
            case rel=>exact ⟨q+1,by omega,by go_num,fun j hj=>if h:j<q then hgq.out j h else by have:j=q:=(by omega);subst this;rw [HX.out];exact HI.out,hg2.out.trans hw3,HBF.out.bl hw3,HBM.out.bl hw3⟩
            case measure=>simp [intOf];omega
          ·obtain rfl:q=m.code.length:=by omega
           have HT:Hid (rmeB f.classes f.methods m=true):=HGM.out hgq.out
           go_wp2
           go_roundw
           case rel=>exact ⟨k+1,by omega,by go_num,fun j hj=>if h:j<k then hgk.out j h else by have:j=k:=(by omega);subst this;rw [HM.out];exact HT.out,hg.out.trans hg2.out,HBF⟩
           case measure=>simp [intOf];omega
       ·have ds:decide (1≤m.regs∧m.regs≤90)=false:=decide_eq_false hs
        have HN:Hid (rfmayB f=false):=HBAD.out (rme_nums (by omega))
        go_wp2
        refine wp_region_fut (by kernel_rfl) (by kernel_rfl) fun hne=>?_
        repeat (go_big_quiet_step (first
         | (go_at_call 37;exact Calls.fut_eq _ (rhead_any _ _ _ _ _ _ m _ _ _ _ _ _ _ _ (XP.out _) (XK.out _) hnc hcl) (congrArg Value.bool hh))
         | (go_at_call 38;exact Calls.fut_same _ (rslots_any _ _ _ _ (XP.out _) (by omega)))
         | (go_at_call 36;exact Calls.fut_same_eq _ (within_any _ _ _ _) (congrArg Value.bool ds))))
        refine wpQuiet_nil ?_
        rintro _ ⟨⟨w2,hw2⟩,rfl⟩
        go_wp2
        go_ret
        exact ⟨ret_bool HN.out.symm,(hg.out.trans HAL.out).trans hw2⟩
      ·have hr2':(m.locs !=0)=true:=by simpa using hr2
       have ds:=hh
       have HN:Hid (rfmayB f=false):=HBAD.out (rme_nums (by omega))
       go_wp2
       refine wp_region_fut (by kernel_rfl) (by kernel_rfl) fun hne=>?_
       repeat (go_big_quiet_step (first
        | (go_at_call 37;exact Calls.fut_eq _ (rhead_any _ _ _ _ _ _ m _ _ _ _ _ _ _ _ (XP.out _) (XK.out _) hnc hcl) (congrArg Value.bool hh))
        | (go_at_call 38;exact Calls.fut_same _ (rslots_any _ _ _ _ (XP.out _) (by omega)))
        | (go_at_call 36;exact Calls.fut_same_eq _ (within_any _ _ _ _) (congrArg Value.bool ds))))
       refine wpQuiet_nil ?_
       rintro _ ⟨⟨w2,hw2⟩,rfl⟩
       go_wp2
       go_ret
       exact ⟨ret_bool HN.out.symm,(hg.out.trans HAL.out).trans hw2⟩
     ·have hr':(m.stack !=0)=true:=by simpa using hr
      have ds:=hh
      have HN:Hid (rfmayB f=false):=HBAD.out (rme_nums (by omega))
      go_wp2
      refine wp_region_fut (by kernel_rfl) (by kernel_rfl) fun hne=>?_
      repeat (go_big_quiet_step (first
       | (go_at_call 37;exact Calls.fut_eq _ (rhead_any _ _ _ _ _ _ m _ _ _ _ _ _ _ _ (XP.out _) (XK.out _) hnc hcl) (congrArg Value.bool hh))
       | (go_at_call 38;exact Calls.fut_same _ (rslots_any _ _ _ _ (XP.out _) (by omega)))
       | (go_at_call 36;exact Calls.fut_same_eq _ (within_any _ _ _ _) (congrArg Value.bool ds))))
      refine wpQuiet_nil ?_
      rintro _ ⟨⟨w2,hw2⟩,rfl⟩
      go_wp2
      go_ret
      exact ⟨ret_bool HN.out.symm,(hg.out.trans HAL.out).trans hw2⟩
   ·obtain rfl:k=f.methods.length:=by omega
    have HN:Hid (rfmayB f=true):=HG.out hgk.out
    go_wp2
    go_ret
    exact ⟨ret_bool HN.out.symm,hg.out⟩
 ·have hb:=rfmay_many (f:=f) (by omega)
  rw [hb]
  have dn:decide (1≤(f.methods.length:Int)∧(f.methods.length:Int)≤8)=false:=decide_eq_false hn
  go_enter Tryz.func17,Tryz.ntmps17
  go_wp2_with (first
   | (go_at_call 35;refine (rmay_any _ _ _ _ (HA.out.bl HW.out)).mono ?_;rintro e w1 ⟨he,g1⟩;rw [hm] at he;subst he;have q1:=(HF.out.bl g1).2;simp only [Nat.zero_add] at q1)
   | (go_at_call 36;refine (within_any _ _ _ _).mono ?_;rintro e w2 ⟨he,rfl⟩;rw [dn] at he;subst he))
  go_ret
  exact ⟨rfl,HW.out.trans g1⟩
end Go.Proofs.YtgiiapenmjollabGreat
