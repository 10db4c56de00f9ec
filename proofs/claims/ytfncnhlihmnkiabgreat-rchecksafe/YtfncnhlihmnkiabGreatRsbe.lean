import Derived.Test.YtfncnhlihmnkiabGreatRsaw
import Derived.Test.YtfncnhlihmnkiabGreatRsaz
import Derived.Test.YtfncnhlihmnkiabGreatRsba
import Derived.Test.YtfncnhlihmnkiabGreatRsbb
import Derived.Test.YtfncnhlihmnkiabGreatRsbc
import Derived.Test.YtfncnhlihmnkiabGreatRsbd
import Derived.Test.YtfncnhlihmnkiabGreatChecked
import Derived.KernelRfl
import Derived.ProofKit
import Derived.OpenShut
import Derived.ReadAgain
namespace Go.Proofs.YtfncnhlihmnkiabGreat
set_option linter.all false
set_option maxHeartbeats 40000000
set_option maxRecDepth 100000
open Go.RowKit
theorem rrins_F (x y z:Int) (i:In) (cs:List Cl) (ms:List Me) (A B:Option Addr) (a b:Nat) (m:Me) (P C K:Option Addr) (p c k:Nat) (Q:Option Addr) (q:Nat) (w:World) (hnc:cs.length≤12) (hnm:ms.length≤8) (hcode:m.code.length≤maxLen) (hlo:1≤m.regs) (hhi:m.regs≤90)
  (hA:ClsAt w A cs) (hB:MesAt w B ms) (hQ:IntsAt w Q i.args)
  (hk:kindsOf i.op=some (x,y,z)) (hgrp:Hid (i.op=18)) :
  Calls Tryz.prog 36 #[fiV cs.length ms.length A B a b,meV m P C K p c k,inV i Q q] w fun e w'=>e=.returned (.bool (rinB cs ms m.code.length m.regs m.ret.kind i))∧Bl w w':=by
 unfold maxLen at hcode
 have HFB:Hid (∀j,j<3→rfldB m.regs (three i.a i.b i.c j) (three x y z j)=false→rinB cs ms m.code.length m.regs m.ret.kind i=false):=fun j hj=>rin_field hk hj
 have HFG:Hid ((∀j,j<3→rfldB m.regs (three i.a i.b i.c j) (three x y z j)=true)→rinB cs ms m.code.length m.regs m.ret.kind i=rrestB cs ms m.code.length m.regs m.ret.kind i):=rin_rest hk
 have HA:Hid (ClsAt w A cs):=hA
 have HB:Hid (MesAt w B ms):=hB
 have HQ:Hid (IntsAt w Q i.args):=hQ
 have HR:Hid (RBox (boxed5 w cs.length ms.length A B a b m P C K p c k i Q q x y z) w.heap.size cs.length ms.length A B a b m P C K p c k i Q q x y z):=boxed5_is w cs.length ms.length A B a b m P C K p c k i Q q x y z
 have HK:Hid (kindsOf i.op=some (x,y,z)):=hk
 clear hA hB hQ hk
 go_enter Tryz.func36,Tryz.ntmps36
 go_wp2_with (go_at_call 74;refine (rnamed_any _ _ x y z HK.out).mono ?_;rintro e w' ⟨rfl,rfl⟩)
 go_loopw [10] (fun v wr=>∃j:Nat,j≤3∧v=.int .i64 j∧Hid (∀l,l<j→rfldB m.regs (three i.a i.b i.c l) (three x y z l)=true)∧Hid (Bl w wr)∧Hid (RBox wr w.heap.size cs.length ms.length A B a b m P C K p c k i Q q x y z)) (fun v _=>3-(intOf v).toNat)
 case atStart=>exact ⟨0,by omega,rfl,fun l hl=>absurd hl (Nat.not_lt_zero _),((((((Bl.refl w).alloc _).alloc _).alloc _).alloc _).alloc _),HR⟩
 case round =>
  clear HR
  obtain ⟨j,hj,rfl,hgj,hg,HR⟩:=hrel
  obtain ⟨w0,hw0⟩:∃w0,w0=wr:=⟨wr,rfl⟩
  subst hw0
  by_cases hjl:j<3
  ·have gk:=fut_cell (HR.out.rk.at j hjl)
   have gd:=fut_cell (HR.out.rd.at j hjl)
   have y0:=fut_cell HR.out.rm.1
   have y1:=fut_cell HR.out.rm.2.1
   have y2:=fut_cell HR.out.rm.2.2.1
   have y3:=fut_cell HR.out.rm.2.2.2.1
   have y4:=fut_cell HR.out.rm.2.2.2.2.1
   have y5:=fut_cell HR.out.rm.2.2.2.2.2.1
   have y6:=fut_cell HR.out.rm.2.2.2.2.2.2.1
   have y7:=fut_cell HR.out.rm.2.2.2.2.2.2.2
   have HN0:Hid (rfldB m.regs (three i.a i.b i.c j) (three x y z j)=false→rinB cs ms m.code.length m.regs m.ret.kind i=false):=HFB.out j hjl
   by_cases hz:three x y z j=0
   ·have HY0:Hid (rfldB m.regs (three i.a i.b i.c j) (three x y z j)=decide (three i.a i.b i.c j=0)):=by unfold rfldB;rw [if_pos hz];rfl
    rw [hz] at gk
    have hreg:=hz
    clear hz
    by_cases hv:three i.a i.b i.c j=0
    ·have HY:Hid (rfldB m.regs (three i.a i.b i.c j) (three x y z j)=true):=HY0.out.trans (decide_eq_true hv)
     rw [hv] at gd
     clear hv hreg
     have hreg:=hjl
     go_wp2
     refine wp_region_fut (by kernel_rfl) (by kernel_rfl) fun hne=>?_
     repeat (go_big_quiet_step ((go_at_call 75;exact Calls.fut_eq _ (rreg_any m _ _ _ _ _ _ _ _ _ hlo hhi) (congrArg Value.bool hreg))))
     refine wpQuiet_nil ?_
     rintro _ ⟨⟨w2,hw2⟩,rfl⟩
     go_wp2
     go_roundw
     case rel=>exact ⟨j+1,by omega,by go_num,fun l hl=>if h:l<j then hgj.out l h else by have:l=j:=(by omega);subst this;exact HY.out,hg.out.trans hw2,HR.out.bl hw2⟩
     case measure=>simp [intOf];omega
    ·have HN:Hid (rinB cs ms m.code.length m.regs m.ret.kind i=false):=HN0.out (HY0.out.trans (decide_eq_false hv))
     have hv':(three i.a i.b i.c j !=0)=true:=by simpa using hv
     clear hv hreg
     have hreg:=hjl
     go_wp2
     refine wp_region_fut (by kernel_rfl) (by kernel_rfl) fun hne=>?_
     repeat (go_big_quiet_step ((go_at_call 75;exact Calls.fut_eq _ (rreg_any m _ _ _ _ _ _ _ _ _ hlo hhi) (congrArg Value.bool hreg))))
     refine wpQuiet_nil ?_
     rintro _ ⟨⟨w2,hw2⟩,rfl⟩
     go_wp2
     go_ret
     exact ⟨ret_bool HN.out.symm,hg.out.trans hw2⟩
   ·have hz':(three x y z j==0)=false:=by simpa using hz
    by_cases hp:0<three x y z j
    ·have hp':decide (0<three x y z j)=true:=decide_eq_true hp
     have HY0:Hid (rfldB m.regs (three i.a i.b i.c j) (three x y z j)=regB m.regs (three i.a i.b i.c j) (three x y z j)):=by unfold rfldB;rw [if_neg hz,if_pos hp];rfl
     cases hreg:regB m.regs (three i.a i.b i.c j) (three x y z j)
     ·have HN:Hid (rinB cs ms m.code.length m.regs m.ret.kind i=false):=HN0.out (HY0.out.trans hreg)
      go_wp2
      refine wp_region_fut (by kernel_rfl) (by kernel_rfl) fun hne=>?_
      repeat (go_big_quiet_step ((go_at_call 75;exact Calls.fut_eq _ (rreg_any m _ _ _ _ _ _ _ _ _ hlo hhi) (congrArg Value.bool hreg))))
      refine wpQuiet_nil ?_
      rintro _ ⟨⟨w2,hw2⟩,rfl⟩
      go_wp2
      go_ret
      exact ⟨ret_bool HN.out.symm,hg.out.trans hw2⟩
     ·have HY:Hid (rfldB m.regs (three i.a i.b i.c j) (three x y z j)=true):=HY0.out.trans hreg
      go_wp2
      refine wp_region_fut (by kernel_rfl) (by kernel_rfl) fun hne=>?_
      repeat (go_big_quiet_step ((go_at_call 75;exact Calls.fut_eq _ (rreg_any m _ _ _ _ _ _ _ _ _ hlo hhi) (congrArg Value.bool hreg))))
      refine wpQuiet_nil ?_
      rintro _ ⟨⟨w2,hw2⟩,rfl⟩
      go_wp2
      go_roundw
      case rel=>exact ⟨j+1,by omega,by go_num,fun l hl=>if h:l<j then hgj.out l h else by have:l=j:=(by omega);subst this;exact HY.out,hg.out.trans hw2,HR.out.bl hw2⟩
      case measure=>simp [intOf];omega
    ·have hp':decide (0<three x y z j)=false:=decide_eq_false hp
     have HY:Hid (rfldB m.regs (three i.a i.b i.c j) (three x y z j)=true):=by unfold rfldB;rw [if_neg hz,if_neg hp];rfl
     have hreg:=hz
     go_wp2
     refine wp_region_fut (by kernel_rfl) (by kernel_rfl) fun hne=>?_
     repeat (go_big_quiet_step ((go_at_call 75;exact Calls.fut_eq _ (rreg_any m _ _ _ _ _ _ _ _ _ hlo hhi) (congrArg Value.bool hreg))))
     refine wpQuiet_nil ?_
     rintro _ ⟨⟨w2,hw2⟩,rfl⟩
     go_wp2
     go_roundw
     case rel=>exact ⟨j+1,by omega,by go_num,fun l hl=>if h:l<j then hgj.out l h else by have:l=j:=(by omega);subst this;exact HY.out,hg.out.trans hw2,HR.out.bl hw2⟩
     case measure=>simp [intOf];omega
  ·obtain rfl:j=3:=by omega
   have HRR:Hid (rinB cs ms m.code.length m.regs m.ret.kind i=rrestB cs ms m.code.length m.regs m.ret.kind i):=HFG.out hgj.out
   clear HFB HFG hgj hj hjl
   obtain ⟨a0,a1,a2,a3,a4,a5⟩:=HR.out.ri.lit
   obtain ⟨m0,m1,m2,m3,m4,m5,m6,m7⟩:=HR.out.rm.lit
   obtain ⟨f0,f1⟩:=HR.out.rf.lit
   have G:Hid (Bl w0 w0):=Bl.refl w0
   by_cases hop:i.op=18
   ·rw [hop] at a0
    have HOP:Hid (i.op=18):=hop
    clear hop
    by_cases hn:i.n=0
    ·rw [hn] at a4
     have hre:rinB cs ms m.code.length m.regs m.ret.kind i=(decide (0≤i.a∧i.a<ms.length∧i.args.length=(nth me0 ms i.a.toNat).params.length)&&(List.range i.args.length).all (fun k=>regB m.regs (nth (0:Int) i.args k) (nth ty0 (nth me0 ms i.a.toNat).params k).kind)):=HRR.out.trans (by simp [rrestB,HOP.out,hn])
     clear HRR hn
     have z0:=fut_cell a0
     have z5:=fut_cell a5
     have zf:=fut_cell f1
     by_cases ha:0≤i.a∧i.a≤(ms.length:Int)-1
     ·obtain ⟨u,hu⟩:∃u:Nat,i.a=u:=⟨i.a.toNat,by omega⟩
      have hul:u<ms.length:=by omega
      have da:decide (0≤(u:Int)∧(u:Int)≤(ms.length:Int)-1)=true:=decide_eq_true (by omega)
      rw [hu] at a1 hre
      rw [Int.toNat_natCast] at hre
      clear ha
      have z1:=fut_cell a1
      have hcl:=HB.out.bl hg.out
      rcases hcl.2 with h0|⟨b',off',rfl,hcc⟩
      ·omega
      obtain ⟨P',C',K',p',c',k',k1,-,-,-,-,-,-,-,hme⟩:=hcc u hul
      have hty:=hme.1
      have hfl:=hty.1
      have hql:=HQ.out.1
      unfold maxLen at hfl hql
      have zk:=fut_cell k1
      have HTY:Hid (TysAt w0 P' (nth me0 ms u).params):=hty
      have HRE:Hid (rinB cs ms m.code.length m.regs m.ret.kind i=(decide (0≤(u:Int)∧(u:Int)<ms.length∧i.args.length=(nth me0 ms u).params.length)&&(List.range i.args.length).all (fun k=>regB m.regs (nth (0:Int) i.args k) (nth ty0 (nth me0 ms u).params k).kind))):=hre
      have HU:Hid (i.a=u):=hu
      clear hcl hcc hty hme hre hu
      generalize hF:(nth me0 ms u).params=Fd at *
      clear hF
      by_cases hl:i.args.length=Fd.length
      ·have HL:Hid (i.args.length=Fd.length):=hl
       have HALL:Hid (rinB cs ms m.code.length m.regs m.ret.kind i=(List.range i.args.length).all (fun k=>regB m.regs (nth (0:Int) i.args k) (nth ty0 Fd k).kind)):=HRE.out.trans (by rw [decide_eq_true ⟨by omega,by omega,hl⟩];rfl)
       have hl':((i.args.length:Int) !=(Fd.length:Int))=false:=by rw [hl];simp
       clear hl HRE
       go_wp2
       refine wp_region_fut (by kernel_rfl) (by kernel_rfl) fun hne=>?_
       repeat (go_big_quiet_step ((go_at_call 33;exact Calls.fut_same_eq _ (within_any _ _ _ _) (congrArg Value.bool da))))
       refine wpQuiet_nil ?_
       rintro _ ⟨⟨w2,hw2⟩,rfl⟩
       go_wp2
       clear hne z0 z1 z5 zf zk
       go_loopw [13] (fun v wr2=>∃j:Nat,j≤i.args.length∧v=.int .i64 j∧Hid (∀l,l<j→regB m.regs (nth (0:Int) i.args l) (nth ty0 Fd l).kind=true)∧Hid (Bl w0 wr2)) (fun v _=>i.args.length-(intOf v).toNat)
       case atStart=>exact ⟨0,Nat.zero_le _,rfl,fun l hl=>absurd hl (Nat.not_lt_zero _),hw2⟩
       case round =>
        obtain ⟨j,hj,rfl,hgj,hg2⟩:=hrel
        have R2:=HR.out.bl hg2.out
        obtain ⟨e0,e1,e2,e3,e4,e5⟩:=R2.ri.lit
        by_cases hjl:j<i.args.length
        ·obtain ⟨q0,q1,q2,q3,q4,q5,q6,q7⟩:=R2.rm.lit
         obtain ⟨p0,p1⟩:=R2.rf.lit
         rw [HU.out] at e1
         have k2:=hg2.out.cell k1
         have hLL:=HL.out
         rcases (HTY.out.bl hg2.out).2 with h0|⟨bt,ot,rfl,htt⟩
         ·omega
         have t1:=(htt j (by omega)).1
         rcases (HQ.out.bl (hg.out.trans hg2.out)).2 with h0|⟨bq,oq,rfl,hqq⟩
         ·omega
         have t2:=(hqq j hjl).1
         have hjf:j<Fd.length:=by omega
         clear hLL
         have x1:=fut_cell e1
         have x5:=fut_cell e5
         have y0:=fut_cell q0
         have y1:=fut_cell q1
         have y2:=fut_cell q2
         have y3:=fut_cell q3
         have y4:=fut_cell q4
         have y5:=fut_cell q5
         have y6:=fut_cell q6
         have y7:=fut_cell q7
         have xf:=fut_cell p1
         have xk:=fut_cell k2
         have xt:=fut_cell t1
         have xq:=fut_cell t2
         clear R2 e0 e1 e2 e3 e4 q0 q1 q2 q3 q4 q5 q6 q7 p0 p1 k2 t1 t2 htt hqq
         cases hreg:regB m.regs (nth (0:Int) i.args j) (nth ty0 Fd j).kind
         ·have HNN:Hid (rinB cs ms m.code.length m.regs m.ret.kind i=false):=HALL.out.trans (List.all_eq_false.2 ⟨j,by simpa using hjl,by rw [hreg];decide⟩)
          go_wp2
          refine wp_region_fut (by kernel_rfl) (by kernel_rfl) fun hne=>?_
          repeat (go_big_quiet_step ((go_at_call 75;exact Calls.fut_eq _ (rreg_any m _ _ _ _ _ _ _ _ _ hlo hhi) (congrArg Value.bool hreg))))
          refine wpQuiet_nil ?_
          rintro _ ⟨⟨w3,hw3⟩,rfl⟩
          go_wp2
          go_ret
          exact ⟨ret_bool HNN.out.symm,(hg.out.trans hg2.out).trans hw3⟩
         ·have HY:Hid (regB m.regs (nth (0:Int) i.args j) (nth ty0 Fd j).kind=true):=hreg
          go_wp2
          refine wp_region_fut (by kernel_rfl) (by kernel_rfl) fun hne=>?_
          repeat (go_big_quiet_step ((go_at_call 75;exact Calls.fut_eq _ (rreg_any m _ _ _ _ _ _ _ _ _ hlo hhi) (congrArg Value.bool hreg))))
          refine wpQuiet_nil ?_
          rintro _ ⟨⟨w3,hw3⟩,rfl⟩
          go_wp2
          go_roundw
          case rel=>exact ⟨j+1,by omega,by go_num,fun l hl=>if h:l<j then hgj.out l h else by have:l=j:=(by omega);subst this;exact HY.out,hg2.out.trans hw3⟩
          case measure=>simp [intOf];omega
        ·obtain rfl:j=i.args.length:=by omega
         have HNN:Hid (rinB cs ms m.code.length m.regs m.ret.kind i=true):=HALL.out.trans (List.all_eq_true.2 fun l hl=>hgj.out l (by simpa using hl))
         go_wp2
         go_ret
         exact ⟨ret_bool HNN.out.symm,hg.out.trans hg2.out⟩
      ·have HNN:Hid (rinB cs ms m.code.length m.regs m.ret.kind i=false):=HRE.out.trans (by rw [decide_eq_false (by omega)];rfl)
       have hl':((i.args.length:Int) !=(Fd.length:Int))=true:=by simp;omega
       clear HRE
       go_wp2
       refine wp_region_fut (by kernel_rfl) (by kernel_rfl) fun hne=>?_
       repeat (go_big_quiet_step ((go_at_call 33;exact Calls.fut_same_eq _ (within_any _ _ _ _) (congrArg Value.bool da))))
       refine wpQuiet_nil ?_
       rintro _ ⟨⟨w2,hw2⟩,rfl⟩
       go_wp2
       go_ret
       exact ⟨ret_bool HNN.out.symm,hg.out.trans hw2⟩
     ·have da:decide (0≤i.a∧i.a≤(ms.length:Int)-1)=false:=decide_eq_false ha
      have z1:=fut_cell a1
      have HNN:Hid (rinB cs ms m.code.length m.regs m.ret.kind i=false):=hre.trans (by rw [decide_eq_false (by omega)];rfl)
      clear hre ha
      go_wp2
      refine wp_region_fut (by kernel_rfl) (by kernel_rfl) fun hne=>?_
      repeat (go_big_quiet_step ((go_at_call 33;exact Calls.fut_same_eq _ (within_any _ _ _ _) (congrArg Value.bool da))))
      refine wpQuiet_nil ?_
      rintro _ ⟨⟨w2,hw2⟩,rfl⟩
      go_wp2
      go_ret
      exact ⟨ret_bool HNN.out.symm,hg.out.trans hw2⟩
    ·have hn':(i.n !=0)=true:=by simpa using hn
     go_wp2
     go_ret
     refine ⟨ret_bool ?_,hg.out.trans G.out⟩
     rw [HRR.out,Bool.eq_iff_iff];simp [rrestB,HOP.out,hn]
   exact absurd hgrp.out hop
theorem kinds_some {op x y z:Int} (h:kindsOf op=some (x,y,z)):1≤op∧op≤24:=by
 refine Decidable.byContradiction fun hc=>?_
 have hk:kindsOf op=none:=by
  unfold kindsOf
  rw [if_neg (by omega),if_neg (by omega),if_neg (by omega),if_neg (by omega),if_neg (by omega),if_neg (by omega),if_neg (by omega),if_neg (by omega),if_neg (by omega),if_neg (by omega),if_neg (by omega),if_neg (by omega),if_neg (by omega),if_neg (by omega),if_neg (by omega),if_neg (by omega),if_neg (by omega),if_neg (by omega),if_neg (by omega),if_neg (by omega),if_neg (by omega),if_neg (by omega),if_neg (by omega),if_neg (by omega)]
 rw [hk] at h
 cases h
theorem rrins_any (i:In) (cs:List Cl) (ms:List Me) (A B:Option Addr) (a b:Nat) (m:Me) (P C K:Option Addr) (p c k:Nat) (Q:Option Addr) (q:Nat) (w:World) (hnc:cs.length≤12) (hnm:ms.length≤8) (hcode:m.code.length≤maxLen) (hlo:1≤m.regs) (hhi:m.regs≤90)
  (hA:ClsAt w A cs) (hB:MesAt w B ms) (hQ:IntsAt w Q i.args) :
  Calls Tryz.prog 36 #[fiV cs.length ms.length A B a b,meV m P C K p c k,inV i Q q] w fun e w'=>e=.returned (.bool (rinB cs ms m.code.length m.regs m.ret.kind i))∧Bl w w':=by
 cases hk:kindsOf i.op with
 | none =>
  unfold maxLen at hcode
  have hb:rinB cs ms m.code.length m.regs m.ret.kind i=false:=by unfold rinB;rw [hk]
  rw [hb]
  have h24:=kinds_none hk
  clear hb hk hA hB hQ
  go_enter Tryz.func36,Tryz.ntmps36
  go_wp2_with (go_at_call 74;refine (rnamed_none _ _ h24).mono ?_;rintro e w' ⟨rfl,rfl⟩)
  go_ret
  exact ⟨rfl,(((Bl.refl _).alloc _).alloc _).alloc _⟩
 | some xyz =>
  obtain ⟨x,y,z⟩:=xyz
  have h24:=kinds_some hk
  by_cases gA:i.op=1∨i.op=2∨i.op=3∨i.op=5∨i.op=6∨i.op=7
  ·exact rrins_A x y z i cs ms A B a b m P C K p c k Q q w hnc hnm hcode hlo hhi hA hB hQ hk gA
  by_cases gB:i.op=8∨i.op=9∨i.op=21∨i.op=22∨i.op=24∨i.op=10∨i.op=12
  ·exact rrins_B x y z i cs ms A B a b m P C K p c k Q q w hnc hnm hcode hlo hhi hA hB hQ hk gB
  by_cases gC:i.op=11∨i.op=13∨i.op=16∨i.op=17∨i.op=20
  ·exact rrins_C x y z i cs ms A B a b m P C K p c k Q q w hnc hnm hcode hlo hhi hA hB hQ hk gC
  by_cases gD:i.op=4∨i.op=19∨i.op=23
  ·exact rrins_D x y z i cs ms A B a b m P C K p c k Q q w hnc hnm hcode hlo hhi hA hB hQ hk gD
  by_cases gE:i.op=14∨i.op=15
  ·exact rrins_E x y z i cs ms A B a b m P C K p c k Q q w hnc hnm hcode hlo hhi hA hB hQ hk gE
  by_cases gF:i.op=18
  ·exact rrins_F x y z i cs ms A B a b m P C K p c k Q q w hnc hnm hcode hlo hhi hA hB hQ hk gF
  omega
theorem rme_head {cs:List Cl} {ms:List Me} {m:Me} (h:headB cs.length m 2400=false):rmeB cs ms m=false:=by unfold rmeB;rw [h];rfl
theorem rme_nums {cs:List Cl} {ms:List Me} {m:Me} (h:¬(m.stack=0∧m.locs=0∧1≤m.regs∧m.regs≤90∧(slotsN m.params:Int)≤m.regs)):rmeB cs ms m=false:=by
 unfold rmeB;rw [decide_eq_false h,Bool.and_false];rfl
theorem rme_ins {cs:List Cl} {ms:List Me} {m:Me} {q:Nat} (hq:q<m.code.length) (h:rinB cs ms m.code.length m.regs m.ret.kind (nth in0 m.code q)=false):rmeB cs ms m=false:=by
 unfold rmeB;rw [all_bad hq h,Bool.and_false]
theorem rme_good {cs:List Cl} {ms:List Me} {m:Me} (h0:headB cs.length m 2400=true) (h:m.stack=0∧m.locs=0∧1≤m.regs∧m.regs≤90∧(slotsN m.params:Int)≤m.regs)
  (hi:∀q,q<m.code.length→rinB cs ms m.code.length m.regs m.ret.kind (nth in0 m.code q)=true):rmeB cs ms m=true:=by
 unfold rmeB;rw [h0,decide_eq_true h,all_good hi];rfl
theorem rfmay_cls {f:Fi} (h:mayB f.classes=false):rfmayB f=false:=by unfold rfmayB;rw [h];rfl
theorem rfmay_many {f:Fi} (h:¬(1≤f.methods.length∧f.methods.length≤8)):rfmayB f=false:=by unfold rfmayB;rw [decide_eq_false h,Bool.and_false];rfl
theorem rfmay_me {f:Fi} {q:Nat} (hq:q<f.methods.length) (h:rmeB f.classes f.methods (nth me0 f.methods q)=false):rfmayB f=false:=by
 unfold rfmayB;rw [all_bad hq h,Bool.and_false]
theorem rfmay_good {f:Fi} (h0:mayB f.classes=true) (h:1≤f.methods.length∧f.methods.length≤8)
  (hi:∀q,q<f.methods.length→rmeB f.classes f.methods (nth me0 f.methods q)=true):rfmayB f=true:=by
 unfold rfmayB;rw [h0,decide_eq_true h,all_good hi];rfl
theorem rfmay_any (f:Fi) (A B:Option Addr) (a b:Nat) (w:World) (hA:ClsAt w A f.classes) (hB:MesAt w B f.methods) :
  Calls Tryz.prog 15 #[fiV f.classes.length f.methods.length A B a b] w fun e w'=>e=.returned (.bool (rfmayB f))∧Bl w w':=by
 have HA:Hid (ClsAt w A f.classes):=hA
 have HB:Hid (MesAt w B f.methods):=hB
 have hcm:=hA.1
 have hmm:=hB.1
 unfold maxLen at hcm hmm
 clear hA hB
 have HF:Hid (FiBox (w.alloc (.cells #[.slice A f.classes.length a,.slice B f.methods.length b] 25)) w.heap.size 0 f.classes.length f.methods.length A B a b):=⟨cell_of_new rfl,cell_of_new rfl⟩
 have HW:Hid (Bl w (w.alloc (.cells #[.slice A f.classes.length a,.slice B f.methods.length b] 25))):=(Bl.refl w).alloc _
 cases hm:mayB f.classes
 ·have hb:=rfmay_cls hm
  rw [hb]
  go_enter Tryz.func15,Tryz.ntmps15
  go_wp2_with (go_at_call 32;refine (rmay_any _ _ _ _ (HA.out.bl HW.out)).mono ?_;rintro e w1 ⟨he,g1⟩;rw [hm] at he;subst he)
  go_ret
  exact ⟨rfl,HW.out.trans g1⟩
 by_cases hn:1≤(f.methods.length:Int)∧(f.methods.length:Int)≤8
 ·have dn:decide (1≤(f.methods.length:Int)∧(f.methods.length:Int)≤8)=true:=decide_eq_true hn
  have HG:Hid ((∀q,q<f.methods.length→rmeB f.classes f.methods (nth me0 f.methods q)=true)→rfmayB f=true):=rfmay_good hm (by omega)
  have hnc:=(may_tree hm).2.2
  go_enter Tryz.func15,Tryz.ntmps15
  go_wp2_with (first
   | (go_at_call 32;refine (rmay_any _ _ _ _ (HA.out.bl HW.out)).mono ?_;rintro e w1 ⟨he,g1⟩;rw [hm] at he;subst he;have q1:=(HF.out.bl g1).2;simp only [Nat.zero_add] at q1)
   | (go_at_call 33;refine (within_any _ _ _ _).mono ?_;rintro e w2 ⟨he,rfl⟩;rw [dn] at he;subst he))
  go_loopw [3] (fun i wr=>∃k:Nat,k≤f.methods.length∧i=.int .i64 k∧Hid (∀j,j<k→rmeB f.classes f.methods (nth me0 f.methods j)=true)∧Hid (Bl w wr)∧Hid (FiBox wr w.heap.size 0 f.classes.length f.methods.length A B a b)) (fun i _=>f.methods.length-(intOf i).toNat)
  case atStart=>exact ⟨0,Nat.zero_le _,rfl,fun j hj=>absurd hj (Nat.not_lt_zero _),HW.out.trans g1,HF.out.bl g1⟩
  case round =>
   clear HF HW q1 g1 hm
   obtain ⟨k,hk,rfl,hgk,hg,HF⟩:=hrel
   rename World=>w0
   have hf1:=HF.out.2
   simp only [Nat.zero_add] at hf1
   by_cases hkl:k<f.methods.length
   ·have hmes:=HB.out.bl hg.out
    rcases hmes.2 with h0|⟨b',off',rfl,hcell⟩
    ·omega
    obtain ⟨P,C,K,p,c,kk,c0,c1,c2,c3,c4,c5,c6,c7,hme⟩:=hcell k hkl
    have HBAD:Hid (rmeB f.classes f.methods (nth me0 f.methods k)=false→rfmayB f=false):=rfmay_me hkl
    generalize hM:nth me0 f.methods k=m at *
    have HM:Hid (nth me0 f.methods k=m):=hM
    have hcl:=hme.2.1.1
    have hpl:=hme.1.1
    clear hmes hcell hM
    have bm:MeBox (w0.alloc (.cells #[.slice P m.params.length p,.int .i64 m.ret.kind,.int .i64 m.ret.cls,.int .i64 m.stack,.int .i64 m.locs,.int .i64 m.regs,.slice C m.code.length c,.slice K m.hands.length kk] 54)) w0.heap.size 0 m P C K p c kk:=⟨cell_of_new rfl,cell_of_new rfl,cell_of_new rfl,cell_of_new rfl,cell_of_new rfl,cell_of_new rfl,cell_of_new rfl,cell_of_new rfl⟩
    have hal:Bl w0 (w0.alloc (.cells #[.slice P m.params.length p,.int .i64 m.ret.kind,.int .i64 m.ret.cls,.int .i64 m.stack,.int .i64 m.locs,.int .i64 m.regs,.slice C m.code.length c,.slice K m.hands.length kk] 54)):=(Bl.refl w0).alloc _
    have bf:=HF.out.bl hal
    have XP:Hid (∀x:Fut (w0.alloc (.cells #[.slice P m.params.length p,.int .i64 m.ret.kind,.int .i64 m.ret.cls,.int .i64 m.stack,.int .i64 m.locs,.int .i64 m.regs,.slice C m.code.length c,.slice K m.hands.length kk] 54)),TysAt x.to P m.params):=fun x=>hme.1.bl (hal.trans x.is)
    have XK:Hid (∀x:Fut (w0.alloc (.cells #[.slice P m.params.length p,.int .i64 m.ret.kind,.int .i64 m.ret.cls,.int .i64 m.stack,.int .i64 m.locs,.int .i64 m.regs,.slice C m.code.length c,.slice K m.hands.length kk] 54)),HdsAt x.to K m.hands):=fun x=>hme.2.2.1.bl (hal.trans x.is)
    have HC:Hid (InsAt w0 C m.code):=hme.2.1
    have HAL:Hid (Bl w0 (w0.alloc (.cells #[.slice P m.params.length p,.int .i64 m.ret.kind,.int .i64 m.ret.cls,.int .i64 m.stack,.int .i64 m.locs,.int .i64 m.regs,.slice C m.code.length c,.slice K m.hands.length kk] 54))):=hal
    have HBM:Hid (MeBox (w0.alloc (.cells #[.slice P m.params.length p,.int .i64 m.ret.kind,.int .i64 m.ret.cls,.int .i64 m.stack,.int .i64 m.locs,.int .i64 m.regs,.slice C m.code.length c,.slice K m.hands.length kk] 54)) w0.heap.size 0 m P C K p c kk):=bm
    have HBF:Hid (FiBox (w0.alloc (.cells #[.slice P m.params.length p,.int .i64 m.ret.kind,.int .i64 m.ret.cls,.int .i64 m.stack,.int .i64 m.locs,.int .i64 m.regs,.slice C m.code.length c,.slice K m.hands.length kk] 54)) w.heap.size 0 f.classes.length f.methods.length (A) (some ⟨b',off',none⟩) a b):=bf
    have x0:=fut_cell bf.1
    have x1:=fut_cell bf.2
    have y0:=fut_cell bm.1
    have y1:=fut_cell bm.2.1
    have y2:=fut_cell bm.2.2.1
    have y3:=fut_cell bm.2.2.2.1
    have y4:=fut_cell bm.2.2.2.2.1
    have y5:=fut_cell bm.2.2.2.2.2.1
    have y6:=fut_cell bm.2.2.2.2.2.2.1
    have y7:=fut_cell bm.2.2.2.2.2.2.2
    clear bm bf hal hme HF
    cases hh:headB f.classes.length m 2400
    ·have HN:Hid (rfmayB f=false):=HBAD.out (rme_head hh)
     have ds:=hh
     go_wp2
     refine wp_region_fut (by kernel_rfl) (by kernel_rfl) fun hne=>?_
     repeat (go_big_quiet_step (first
      | (go_at_call 34;exact Calls.fut_eq _ (rhead_any _ _ _ _ _ _ m _ _ _ _ _ _ _ _ (XP.out _) (XK.out _) hnc hcl) (congrArg Value.bool hh))
      | (go_at_call 35;exact Calls.fut_same _ (rslots_any _ _ _ _ (XP.out _) (by omega)))
      | (go_at_call 33;exact Calls.fut_same_eq _ (within_any _ _ _ _) (congrArg Value.bool ds))))
     refine wpQuiet_nil ?_
     rintro _ ⟨⟨w2,hw2⟩,rfl⟩
     go_wp2
     go_ret
     exact ⟨ret_bool HN.out.symm,(hg.out.trans HAL.out).trans hw2⟩
    ·have hfew:=head_few4 hh
     by_cases hr:m.stack=0
     ·have hr':(m.stack !=0)=false:=by simpa using hr
      have HR:Hid (m.stack=0):=hr
      clear hr
      by_cases hr2:m.locs=0
      ·have hr2':(m.locs !=0)=false:=by simpa using hr2
       have HR2:Hid (m.locs=0):=hr2
       clear hr2
       by_cases hs:1≤m.regs∧m.regs≤90
       ·have ds:decide (1≤m.regs∧m.regs≤90)=true:=decide_eq_true hs
        by_cases hl:m.regs<(slotsN m.params:Int)
        ·have dl:decide (m.regs<(slotsN m.params:Int))=true:=decide_eq_true hl
         have HN:Hid (rfmayB f=false):=HBAD.out (rme_nums (by omega))
         go_wp2
         refine wp_region_fut (by kernel_rfl) (by kernel_rfl) fun hne=>?_
         repeat (go_big_quiet_step (first
          | (go_at_call 34;exact Calls.fut_eq _ (rhead_any _ _ _ _ _ _ m _ _ _ _ _ _ _ _ (XP.out _) (XK.out _) hnc hcl) (congrArg Value.bool hh))
          | (go_at_call 35;exact Calls.fut_same _ (rslots_any _ _ _ _ (XP.out _) (by omega)))
          | (go_at_call 33;exact Calls.fut_same_eq _ (within_any _ _ _ _) (congrArg Value.bool ds))))
         refine wpQuiet_nil ?_
         rintro _ ⟨⟨w2,hw2⟩,rfl⟩
         go_wp2
         go_ret
         exact ⟨ret_bool HN.out.symm,(hg.out.trans HAL.out).trans hw2⟩
        ·have dl:decide (m.regs<(slotsN m.params:Int))=false:=decide_eq_false hl
         have HGM:Hid ((∀q,q<m.code.length→rinB f.classes f.methods m.code.length m.regs m.ret.kind (nth in0 m.code q)=true)→rmeB f.classes f.methods m=true):=rme_good hh ⟨HR.out,HR2.out,by omega⟩
         go_wp2
         refine wp_region_fut (by kernel_rfl) (by kernel_rfl) fun hne=>?_
         repeat (go_big_quiet_step (first
          | (go_at_call 34;exact Calls.fut_eq _ (rhead_any _ _ _ _ _ _ m _ _ _ _ _ _ _ _ (XP.out _) (XK.out _) hnc hcl) (congrArg Value.bool hh))
          | (go_at_call 35;exact Calls.fut_same _ (rslots_any _ _ _ _ (XP.out _) (by omega)))
          | (go_at_call 33;exact Calls.fut_same_eq _ (within_any _ _ _ _) (congrArg Value.bool ds))))
         refine wpQuiet_nil ?_
         rintro _ ⟨⟨w2,hw2⟩,rfl⟩
         go_wp2
         clear x0 x1 y0 y1 y2 y3 y4 y5 y6 y7 hne
         go_loopw [5] (fun i wr2=>∃q:Nat,q≤m.code.length∧i=.int .i64 q∧Hid (∀j,j<q→rinB f.classes f.methods m.code.length m.regs m.ret.kind (nth in0 m.code j)=true)∧Hid (Bl w0 wr2)∧Hid (FiBox wr2 w.heap.size 0 f.classes.length f.methods.length A (some ⟨b',off',none⟩) a b)∧Hid (MeBox wr2 w0.heap.size 0 m P C K p c kk)) (fun i _=>m.code.length-(intOf i).toNat)
         case atStart=>exact ⟨0,Nat.zero_le _,rfl,fun j hj=>absurd hj (Nat.not_lt_zero _),HAL.out.trans hw2,HBF.out.bl hw2,HBM.out.bl hw2⟩
         case round =>
          clear HBF HBM HAL hw2 XP XK
          obtain ⟨q,hq,rfl,hgq,hg2,HBF,HBM⟩:=hrel
          have hm6:=HBM.out.2.2.2.2.2.2.1
          simp only [Nat.zero_add] at hm6
          by_cases hql:q<m.code.length
          ·have hic:=HC.out.bl hg2.out
           rcases hic.2 with h0|⟨b2,off2,rfl,hcell⟩
           ·omega
           obtain ⟨c0,c1,c2,c3,c4,-,A',ca,c5,hia⟩:=hcell q hql
           have HNI:Hid (rinB f.classes f.methods m.code.length m.regs m.ret.kind (nth in0 m.code q)=false→rfmayB f=false):=fun h=>HBAD.out (rme_ins hql h)
           generalize hX:nth in0 m.code q=X at *
           have HX:Hid (nth in0 m.code q=X):=hX
           clear hic hcell hX
           have x0:=fut_cell HBF.out.1
           have x1:=fut_cell HBF.out.2
           have y0:=fut_cell HBM.out.1
           have y1:=fut_cell HBM.out.2.1
           have y2:=fut_cell HBM.out.2.2.1
           have y3:=fut_cell HBM.out.2.2.2.1
           have y4:=fut_cell HBM.out.2.2.2.2.1
           have y5:=fut_cell HBM.out.2.2.2.2.2.1
           have y6:=fut_cell HBM.out.2.2.2.2.2.2.1
           have y7:=fut_cell HBM.out.2.2.2.2.2.2.2
           have z0:=fut_cell c0
           have z1:=fut_cell c1
           have z2:=fut_cell c2
           have z3:=fut_cell c3
           have z4:=fut_cell c4
           have z5:=fut_cell c5
           clear c0 c1 c2 c3 c4 c5
           have XA:Hid (∀x:Fut wr,ClsAt x.to A f.classes):=fun x=>HA.out.bl ((hg.out.trans hg2.out).trans x.is)
           have XB:Hid (∀x:Fut wr,MesAt x.to (some ⟨b',off',none⟩) f.methods):=fun x=>HB.out.bl ((hg.out.trans hg2.out).trans x.is)
           have XQ:Hid (∀x:Fut wr,IntsAt x.to A' X.args):=fun x=>hia.bl x.is
           clear hia
           cases hi:rinB f.classes f.methods m.code.length m.regs m.ret.kind X
           ·have HN:Hid (rfmayB f=false):=HNI.out hi
            go_wp2
            refine wp_region_fut (by kernel_rfl) (by kernel_rfl) fun hne=>?_
            repeat (go_big_quiet_step ((go_at_call 36;exact Calls.fut_eq _ (rrins_any X f.classes f.methods _ _ _ _ m _ _ _ _ _ _ _ _ _ hnc (by omega) hcl hs.1 hs.2 (XA.out _) (XB.out _) (XQ.out _)) (congrArg Value.bool hi))))
            refine wpQuiet_nil ?_
            rintro _ ⟨⟨w3,hw3⟩,rfl⟩
            go_wp2
            go_ret
            exact ⟨ret_bool HN.out.symm,(hg.out.trans hg2.out).trans hw3⟩
           ·have HI:Hid (rinB f.classes f.methods m.code.length m.regs m.ret.kind X=true):=hi
            go_wp2
            refine wp_region_fut (by kernel_rfl) (by kernel_rfl) fun hne=>?_
            repeat (go_big_quiet_step ((go_at_call 36;exact Calls.fut_eq _ (rrins_any X f.classes f.methods _ _ _ _ m _ _ _ _ _ _ _ _ _ hnc (by omega) hcl hs.1 hs.2 (XA.out _) (XB.out _) (XQ.out _)) (congrArg Value.bool hi))))
            refine wpQuiet_nil ?_
            rintro _ ⟨⟨w3,hw3⟩,rfl⟩
            go_wp2
            go_roundw
            case rel=>exact ⟨q+1,by omega,by go_num,fun j hj=>if h:j<q then hgq.out j h else by have:j=q:=(by omega);subst this;rw [HX.out];exact HI.out,hg2.out.trans hw3,HBF.out.bl hw3,HBM.out.bl hw3⟩
            case measure=>simp [intOf];omega
          ·obtain rfl:q=m.code.length:=by omega
           have HT:Hid (rmeB f.classes f.methods m=true):=HGM.out hgq.out
           go_wp2
           go_roundw
           case rel=>exact ⟨k+1,by omega,by go_num,fun j hj=>if h:j<k then hgk.out j h else by have:j=k:=(by omega);subst this;rw [HM.out];exact HT.out,hg.out.trans hg2.out,HBF⟩
           case measure=>simp [intOf];omega
       ·have ds:decide (1≤m.regs∧m.regs≤90)=false:=decide_eq_false hs
        have HN:Hid (rfmayB f=false):=HBAD.out (rme_nums (by omega))
        go_wp2
        refine wp_region_fut (by kernel_rfl) (by kernel_rfl) fun hne=>?_
        repeat (go_big_quiet_step (first
         | (go_at_call 34;exact Calls.fut_eq _ (rhead_any _ _ _ _ _ _ m _ _ _ _ _ _ _ _ (XP.out _) (XK.out _) hnc hcl) (congrArg Value.bool hh))
         | (go_at_call 35;exact Calls.fut_same _ (rslots_any _ _ _ _ (XP.out _) (by omega)))
         | (go_at_call 33;exact Calls.fut_same_eq _ (within_any _ _ _ _) (congrArg Value.bool ds))))
        refine wpQuiet_nil ?_
        rintro _ ⟨⟨w2,hw2⟩,rfl⟩
        go_wp2
        go_ret
        exact ⟨ret_bool HN.out.symm,(hg.out.trans HAL.out).trans hw2⟩
      ·have hr2':(m.locs !=0)=true:=by simpa using hr2
       have ds:=hh
       have HN:Hid (rfmayB f=false):=HBAD.out (rme_nums (by omega))
       go_wp2
       refine wp_region_fut (by kernel_rfl) (by kernel_rfl) fun hne=>?_
       repeat (go_big_quiet_step (first
        | (go_at_call 34;exact Calls.fut_eq _ (rhead_any _ _ _ _ _ _ m _ _ _ _ _ _ _ _ (XP.out _) (XK.out _) hnc hcl) (congrArg Value.bool hh))
        | (go_at_call 35;exact Calls.fut_same _ (rslots_any _ _ _ _ (XP.out _) (by omega)))
        | (go_at_call 33;exact Calls.fut_same_eq _ (within_any _ _ _ _) (congrArg Value.bool ds))))
       refine wpQuiet_nil ?_
       rintro _ ⟨⟨w2,hw2⟩,rfl⟩
       go_wp2
       go_ret
       exact ⟨ret_bool HN.out.symm,(hg.out.trans HAL.out).trans hw2⟩
     ·have hr':(m.stack !=0)=true:=by simpa using hr
      have ds:=hh
      have HN:Hid (rfmayB f=false):=HBAD.out (rme_nums (by omega))
      go_wp2
      refine wp_region_fut (by kernel_rfl) (by kernel_rfl) fun hne=>?_
      repeat (go_big_quiet_step (first
       | (go_at_call 34;exact Calls.fut_eq _ (rhead_any _ _ _ _ _ _ m _ _ _ _ _ _ _ _ (XP.out _) (XK.out _) hnc hcl) (congrArg Value.bool hh))
       | (go_at_call 35;exact Calls.fut_same _ (rslots_any _ _ _ _ (XP.out _) (by omega)))
       | (go_at_call 33;exact Calls.fut_same_eq _ (within_any _ _ _ _) (congrArg Value.bool ds))))
      refine wpQuiet_nil ?_
      rintro _ ⟨⟨w2,hw2⟩,rfl⟩
      go_wp2
      go_ret
      exact ⟨ret_bool HN.out.symm,(hg.out.trans HAL.out).trans hw2⟩
   ·obtain rfl:k=f.methods.length:=by omega
    have HN:Hid (rfmayB f=true):=HG.out hgk.out
    go_wp2
    go_ret
    exact ⟨ret_bool HN.out.symm,hg.out⟩
 ·have hb:=rfmay_many (f:=f) (by omega)
  rw [hb]
  have dn:decide (1≤(f.methods.length:Int)∧(f.methods.length:Int)≤8)=false:=decide_eq_false hn
  go_enter Tryz.func15,Tryz.ntmps15
  go_wp2_with (first
   | (go_at_call 32;refine (rmay_any _ _ _ _ (HA.out.bl HW.out)).mono ?_;rintro e w1 ⟨he,g1⟩;rw [hm] at he;subst he;have q1:=(HF.out.bl g1).2;simp only [Nat.zero_add] at q1)
   | (go_at_call 33;refine (within_any _ _ _ _).mono ?_;rintro e w2 ⟨he,rfl⟩;rw [dn] at he;subst he))
  go_ret
  exact ⟨rfl,HW.out.trans g1⟩
section
open Go.ChangeShapes Go.WideShapes Go.ChangeAt Go.RowKit Go.Deep
theorem cellsTy:Tryz.prog.cellsOf 50=2:=by kernel_rfl
theorem cellsCl:Tryz.prog.cellsOf 131=2:=by kernel_rfl
theorem cellsTys:Tryz.prog.cellsOf 48=1:=by kernel_rfl
theorem cellsInt:Tryz.prog.cellsOf 3=1:=by kernel_rfl
theorem take_one {cs:List Value} {o:Nat} {v:Value} (h:(cs.drop o).take 1=[v]):cs[o]?=some v:=by
 have h1:((cs.drop o).take 1)[0]?=some v:=by rw [h];rfl
 simpa [List.getElem?_take,List.getElem?_drop] using h1
section
variable {H:Type} {enc:TypeId×Value→H} {w:World} {base:Nat} {spare:Nat→Bool} {held:Bool}
theorem fld_int {t:TypeId} {P:Program} {fuel o:Nat} {cs:List Value} {y:Option (DataW H×List MemPlace)} (ht:P.underlying t=some (.int .i64)) (hc:P.cellsOf t=1) (hy:y≠none)
  (h:DataW.trod enc P w base spare held fuel t ((cs.drop o).take (P.cellsOf t))=y):∃n,cs[o]?=some (.int .i64 n)∧I64 n:=by
 obtain ⟨x,rfl⟩:=Option.ne_none_iff_exists'.1 hy
 obtain ⟨n,hn,-,hw⟩:=DataW.trod_int ht h
 rw [hc] at hn
 exact ⟨n,take_one hn,bounds_i64 hw⟩
theorem open_row {E:Type} (d:E) {R:E→List Value→Prop} {P:Program} {t e:TypeId} {s fuel:Nat} {cs:List Value} {x:DataW H×List MemPlace}
  (ht:P.underlying t=some (.slice e)) (hs:P.cellsOf e=s) (h0:0<s)
  (he:∀(fuel:Nat) (cs:List Value) (x:DataW H×List MemPlace),DataW.trod enc P w base spare held fuel e cs=some x→∃z:E,R z cs)
  (h:DataW.trod enc P w base spare held fuel t cs=some x) :
  ∃(A:Option Addr) (l:List E) (c:Nat),cs=[.slice A l.length c]∧l.length≤maxLen∧(l.length=0∨∃b off,A=some ⟨b,off,none⟩ ∧
   ∀i,i<l.length→∃vs,R (nth d l i) vs∧∀j,j<s→w.cell? ⟨b,off+i*s+j,none⟩=vs[j]?):=by
 rcases open_slice ht h with ⟨rfl,-⟩|⟨a,len,cap,m,n,D,Pl,rfl,hb,hl,hm,hmm,-,hx⟩
 ·exact ⟨none,[],0,rfl,Nat.zero_le _,Or.inl rfl⟩
 have hlm:len≤m:=by rw [hmm];split<;>omega
 rw [hs] at hx
 obtain ⟨f,hf⟩:=@choose_lt E ⟨d⟩ len ( fun i z=>∃vs,R z vs∧vs.length=s∧∀j,j<s→w.cell? ((a.add (i*s)).add j)=vs[j]?) (fun i hi=>by
  obtain ⟨cs',h1,h2⟩:=hx i (by omega)
  obtain ⟨z,hz⟩:=he _ _ _ h2
  obtain ⟨-,hlen,hcell⟩:=World.cells?_some h1
  exact ⟨z,cs',hz,hlen,hcell⟩)
 refine ⟨some a,(List.range len).map f,cap,by simp,by simp;omega,?_⟩
 simp only [List.length_map,List.length_range]
 by_cases hz:len=0
 ·exact Or.inl hz
 right
 obtain ⟨b,off,spot⟩:=a
 have hspot:spot=none:=by
  obtain ⟨vs,-,hlen,hcell⟩:=hf 0 (by omega)
  have g:=hcell 0 h0
  rw [List.getElem?_eq_getElem (by omega)] at g
  simpa [Addr.add] using World.cell?_spot g
 subst hspot
 refine ⟨b,off,rfl,fun i hi=>?_⟩
 obtain ⟨vs,hR,-,hcell⟩:=hf i hi
 refine ⟨vs,?_,fun j hj=>?_⟩
 ·have:nth d ((List.range len).map f) i=f i:=by rw [nth_get (by simpa using hi)];simp
  rw [this];exact hR
 ·have:=hcell j hj
  rw [add_add,add_plain,←Nat.add_assoc] at this
  exact this
theorem open_ty {fuel:Nat} {cs:List Value} {x:DataW H×List MemPlace} (h:DataW.trod enc Tryz.prog w base spare held fuel 50 cs=some x) :
  ∃t:Ty,(cs[0]?=some (.int .i64 t.kind)∧cs[1]?=some (.int .i64 t.cls))∧I64 t.kind∧I64 t.cls:=by
 obtain ⟨xs,n,rfl,rfl,hl,hn,hf⟩:=DataW.trod_struct Tryz.underlying50 h
 have hn':xs.length=2:=hn
 obtain ⟨k,h0,w0⟩:=fld_int Tryz.underlying3 cellsInt (by simp [hn']) (hf 0 _ rfl)
 obtain ⟨c,h1,w1⟩:=fld_int Tryz.underlying3 cellsInt (by simp [hn']) (hf 1 _ rfl)
 exact ⟨⟨k,c⟩,⟨h0,h1⟩,w0,w1⟩
theorem open_tys {fuel:Nat} {cs:List Value} {x:DataW H×List MemPlace} (h:DataW.trod enc Tryz.prog w base spare held fuel 48 cs=some x) :
  ∃(A:Option Addr) (l:List Ty) (c:Nat),cs=[.slice A l.length c]∧TysAt w A l:=by
 obtain ⟨A,l,c,rfl,hm,hr⟩:=open_row ty0 Tryz.underlying48 cellsTy (by omega) (fun _ _ _=>open_ty) h
 rcases hr with h0|⟨b,off,rfl,hi⟩
 ·exact ⟨A,l,c,rfl,hm,Or.inl h0⟩
 refine ⟨_,l,c,rfl,hm,Or.inr ⟨b,off,rfl,fun i hlt=>?_⟩⟩
 obtain ⟨vs,⟨⟨h0,h1⟩,w0,w1⟩,hc⟩:=hi i hlt
 exact ⟨(hc 0 (by omega)).trans h0,(hc 1 (by omega)).trans h1,w0,w1⟩
theorem fld_tys {fuel o:Nat} {cs:List Value} {y:Option (DataW H×List MemPlace)} (hy:y≠none)
  (h:DataW.trod enc Tryz.prog w base spare held fuel 48 ((cs.drop o).take (Tryz.prog.cellsOf 48))=y):∃(A:Option Addr) (l:List Ty) (c:Nat),cs[o]?=some (.slice A l.length c)∧TysAt w A l:=by
 obtain ⟨x,rfl⟩:=Option.ne_none_iff_exists'.1 hy
 obtain ⟨A,l,c,hn,hT⟩:=open_tys h
 rw [cellsTys] at hn
 exact ⟨A,l,c,take_one hn,hT⟩
theorem open_cl {fuel:Nat} {cs:List Value} {x:DataW H×List MemPlace} (h:DataW.trod enc Tryz.prog w base spare held fuel 131 cs=some x) :
  ∃t:Cl,cs[0]?=some (.int .i64 t.super)∧I64 t.super∧∃A c,cs[1]?=some (.slice A t.fields.length c)∧TysAt w A t.fields:=by
 obtain ⟨xs,n,rfl,rfl,hl,hn,hf⟩:=DataW.trod_struct Tryz.underlying131 h
 have hn':xs.length=2:=hn
 obtain ⟨k,h0,w0⟩:=fld_int Tryz.underlying3 cellsInt (by simp [hn']) (hf 0 _ rfl)
 obtain ⟨A,l,c,h1,w1⟩:=fld_tys (by simp [hn']) (hf 1 _ rfl)
 exact ⟨⟨k,l⟩,h0,w0,A,c,h1,w1⟩
theorem open_cls {fuel:Nat} {cs:List Value} {x:DataW H×List MemPlace} (h:DataW.trod enc Tryz.prog w base spare held fuel 22 cs=some x) :
  ∃(A:Option Addr) (l:List Cl) (c:Nat),cs=[.slice A l.length c]∧ClsAt w A l:=by
 obtain ⟨A,l,c,rfl,hm,hr⟩:=open_row cl0 Tryz.underlying22 cellsCl (by omega) (fun _ _ _=>open_cl) h
 rcases hr with h0|⟨b,off,rfl,hi⟩
 ·exact ⟨A,l,c,rfl,hm,Or.inl h0⟩
 refine ⟨_,l,c,rfl,hm,Or.inr ⟨b,off,rfl,fun i hlt=>?_⟩⟩
 obtain ⟨vs,⟨h0,w0,A',c',h1,w1⟩,hc⟩:=hi i hlt
 exact ⟨(hc 0 (by omega)).trans h0,w0,A',c',(hc 1 (by omega)).trans h1,w1⟩
end
end
section
open Go.ChangeShapes Go.WideShapes Go.ChangeAt Go.RowKit Go.Deep
theorem cellsLong:Tryz.prog.cellsOf 2=1:=by kernel_rfl
theorem cellsInts:Tryz.prog.cellsOf 66=1:=by kernel_rfl
theorem cellsIn:Tryz.prog.cellsOf 68=6:=by kernel_rfl
theorem cellsIns:Tryz.prog.cellsOf 51=1:=by kernel_rfl
theorem cellsHd:Tryz.prog.cellsOf 129=4:=by kernel_rfl
theorem cellsHds:Tryz.prog.cellsOf 52=1:=by kernel_rfl
theorem cellsMe:Tryz.prog.cellsOf 54=8:=by kernel_rfl
theorem cellsMes:Tryz.prog.cellsOf 23=1:=by kernel_rfl
theorem cellsCls:Tryz.prog.cellsOf 22=1:=by kernel_rfl
theorem cellsFi:Tryz.prog.cellsOf 25=2:=by kernel_rfl
section
variable {H:Type} {enc:TypeId×Value→H} {w:World} {base:Nat} {spare:Nat→Bool} {held:Bool}
theorem open_ints' {fuel:Nat} {cs:List Value} {x:DataW H×List MemPlace} (h:DataW.trod enc Tryz.prog w base spare held fuel 66 cs=some x) :
  ∃(A:Option Addr) (l:List Int) (c:Nat),cs=[.slice A l.length c]∧IntsAt w A l:=by
 obtain ⟨A,l,c,rfl,hm,hr⟩:=open_row (0:Int) (R:=fun (n:Int) cs=>cs[0]?=some (.int .i64 n)∧I64 n) Tryz.underlying66 cellsInt (by omega)
  (fun _ _ _ hh=>by obtain ⟨n,rfl,-,hw⟩:=DataW.trod_int Tryz.underlying3 hh;exact ⟨n,rfl,bounds_i64 hw⟩) h
 rcases hr with h0|⟨b,off,rfl,hi⟩
 ·exact ⟨A,l,c,rfl,hm,Or.inl h0⟩
 refine ⟨_,l,c,rfl,hm,Or.inr ⟨b,off,rfl,fun i hlt=>?_⟩⟩
 obtain ⟨vs,⟨h0,w0⟩,hc⟩:=hi i hlt
 have:=(hc 0 (by omega)).trans h0
 rw [Nat.mul_one,Nat.add_zero] at this
 exact ⟨this,w0⟩
theorem open_in {fuel:Nat} {cs:List Value} {x:DataW H×List MemPlace} (h:DataW.trod enc Tryz.prog w base spare held fuel 68 cs=some x) :
  ∃t:In,cs[0]?=some (.int .i64 t.op)∧cs[1]?=some (.int .i64 t.a)∧cs[2]?=some (.int .i64 t.b)∧cs[3]?=some (.int .i64 t.c)∧cs[4]?=some (.int .i64 t.n)∧t.ok
   ∧ ∃A c,cs[5]?=some (.slice A t.args.length c)∧IntsAt w A t.args:=by
 obtain ⟨xs,n,rfl,rfl,hl,hn,hf⟩:=DataW.trod_struct Tryz.underlying68 h
 have hn':xs.length=6:=hn
 obtain ⟨k0,h0,w0⟩:=fld_int Tryz.underlying3 cellsInt (by simp [hn']) (hf 0 _ rfl)
 obtain ⟨k1,h1,w1⟩:=fld_int Tryz.underlying3 cellsInt (by simp [hn']) (hf 1 _ rfl)
 obtain ⟨k2,h2,w2⟩:=fld_int Tryz.underlying3 cellsInt (by simp [hn']) (hf 2 _ rfl)
 obtain ⟨k3,h3,w3⟩:=fld_int Tryz.underlying3 cellsInt (by simp [hn']) (hf 3 _ rfl)
 obtain ⟨k4,h4,w4⟩:=fld_int Tryz.underlying2 cellsLong (by simp [hn']) (hf 4 _ rfl)
 obtain ⟨y,hy⟩:=Option.ne_none_iff_exists'.1 (show xs[5]?≠none by simp [hn'])
 have h5:=hf 5 _ rfl
 rw [hy] at h5
 obtain ⟨A,l,c,hn,hT⟩:=open_ints' h5
 exact ⟨⟨k0,k1,k2,k3,k4,l⟩,h0,h1,h2,h3,h4,⟨w0,w1,w2,w3,w4⟩,A,c,take_one (cellsInts▸hn),hT⟩
theorem open_ins {fuel:Nat} {cs:List Value} {x:DataW H×List MemPlace} (h:DataW.trod enc Tryz.prog w base spare held fuel 51 cs=some x) :
  ∃(A:Option Addr) (l:List In) (c:Nat),cs=[.slice A l.length c]∧InsAt w A l:=by
 obtain ⟨A,l,c,rfl,hm,hr⟩:=open_row in0 Tryz.underlying51 cellsIn (by omega) (fun _ _ _=>open_in) h
 rcases hr with h0|⟨b,off,rfl,hi⟩
 ·exact ⟨A,l,c,rfl,hm,Or.inl h0⟩
 refine ⟨_,l,c,rfl,hm,Or.inr ⟨b,off,rfl,fun i hlt=>?_⟩⟩
 obtain ⟨vs,⟨h0,h1,h2,h3,h4,w0,A',c',h5,w1⟩,hc⟩:=hi i hlt
 exact ⟨(hc 0 (by omega)).trans h0,(hc 1 (by omega)).trans h1,(hc 2 (by omega)).trans h2,(hc 3 (by omega)).trans h3,(hc 4 (by omega)).trans h4,w0,A',c',(hc 5 (by omega)).trans h5,w1⟩
theorem open_hd {fuel:Nat} {cs:List Value} {x:DataW H×List MemPlace} (h:DataW.trod enc Tryz.prog w base spare held fuel 129 cs=some x) :
  ∃t:Hd,cs[0]?=some (.int .i64 t.fr)∧cs[1]?=some (.int .i64 t.til)∧cs[2]?=some (.int .i64 t.pc)∧cs[3]?=some (.int .i64 t.cls)∧t.ok:=by
 obtain ⟨xs,n,rfl,rfl,hl,hn,hf⟩:=DataW.trod_struct Tryz.underlying129 h
 have hn':xs.length=4:=hn
 obtain ⟨k0,h0,w0⟩:=fld_int Tryz.underlying3 cellsInt (by simp [hn']) (hf 0 _ rfl)
 obtain ⟨k1,h1,w1⟩:=fld_int Tryz.underlying3 cellsInt (by simp [hn']) (hf 1 _ rfl)
 obtain ⟨k2,h2,w2⟩:=fld_int Tryz.underlying3 cellsInt (by simp [hn']) (hf 2 _ rfl)
 obtain ⟨k3,h3,w3⟩:=fld_int Tryz.underlying3 cellsInt (by simp [hn']) (hf 3 _ rfl)
 exact ⟨⟨k0,k1,k2,k3⟩,h0,h1,h2,h3,w0,w1,w2,w3⟩
theorem open_hds {fuel:Nat} {cs:List Value} {x:DataW H×List MemPlace} (h:DataW.trod enc Tryz.prog w base spare held fuel 52 cs=some x) :
  ∃(A:Option Addr) (l:List Hd) (c:Nat),cs=[.slice A l.length c]∧HdsAt w A l:=by
 obtain ⟨A,l,c,rfl,hm,hr⟩:=open_row hd0 Tryz.underlying52 cellsHd (by omega) (fun _ _ _=>open_hd) h
 rcases hr with h0|⟨b,off,rfl,hi⟩
 ·exact ⟨A,l,c,rfl,hm,Or.inl h0⟩
 refine ⟨_,l,c,rfl,hm,Or.inr ⟨b,off,rfl,fun i hlt=>?_⟩⟩
 obtain ⟨vs,⟨h0,h1,h2,h3,w0⟩,hc⟩:=hi i hlt
 exact ⟨(hc 0 (by omega)).trans h0,(hc 1 (by omega)).trans h1,(hc 2 (by omega)).trans h2,(hc 3 (by omega)).trans h3,w0⟩
theorem open_me {fuel:Nat} {cs:List Value} {x:DataW H×List MemPlace} (h:DataW.trod enc Tryz.prog w base spare held fuel 54 cs=some x) :
  ∃t:Me,∃P C K p c k,cs[0]?=some (.slice P t.params.length p)∧cs[1]?=some (.int .i64 t.ret.kind)∧cs[2]?=some (.int .i64 t.ret.cls)∧cs[3]?=some (.int .i64 t.stack)∧cs[4]?=some (.int .i64 t.locs)∧cs[5]?=some (.int .i64 t.regs)
   ∧ cs[6]?=some (.slice C t.code.length c)∧cs[7]?=some (.slice K t.hands.length k)∧MeAt w t P C K:=by
 obtain ⟨xs,n,rfl,rfl,hl,hn,hf⟩:=DataW.trod_struct Tryz.underlying54 h
 have hn':xs.length=7:=hn
 obtain ⟨P,lp,p,h0,w0⟩:=fld_tys (by simp [hn']) (hf 0 _ rfl)
 obtain ⟨k2,h2,w2⟩:=fld_int Tryz.underlying3 cellsInt (by simp [hn']) (hf 2 _ rfl)
 obtain ⟨k3,h3,w3⟩:=fld_int Tryz.underlying3 cellsInt (by simp [hn']) (hf 3 _ rfl)
 obtain ⟨k4,h4,w4⟩:=fld_int Tryz.underlying3 cellsInt (by simp [hn']) (hf 4 _ rfl)
 obtain ⟨y,hy⟩:=Option.ne_none_iff_exists'.1 (show xs[5]?≠none by simp [hn'])
 have h5:=hf 5 _ rfl
 rw [hy] at h5
 obtain ⟨C,lc,c,hn5,hT5⟩:=open_ins h5
 obtain ⟨y,hy⟩:=Option.ne_none_iff_exists'.1 (show xs[6]?≠none by simp [hn'])
 have h6:=hf 6 _ rfl
 rw [hy] at h6
 obtain ⟨K,lk,k,hn6,hT6⟩:=open_hds h6
 obtain ⟨y,hy⟩:=Option.ne_none_iff_exists'.1 (show xs[1]?≠none by simp [hn'])
 have h1:=hf 1 _ rfl
 rw [hy] at h1
 obtain ⟨r,⟨hr0,hr1⟩,v0,v1⟩:=open_ty h1
 have hr0':((cs.drop 1).take (Tryz.prog.cellsOf 50))[0]?=some (.int .i64 r.kind):=hr0
 have hr1':((cs.drop 1).take (Tryz.prog.cellsOf 50))[1]?=some (.int .i64 r.cls):=hr1
 rw [cellsTy] at hr0' hr1'
 refine ⟨⟨lp,r,k2,k3,k4,lc,lk⟩,P,C,K,p,c,k,h0,?_,?_,h2,h3,h4,take_one (cellsIns▸hn5),take_one (cellsHds▸hn6),w0,hT5,hT6,v0,v1,w2,w3,w4⟩
 ·simpa [List.getElem?_take,List.getElem?_drop] using hr0'
 ·simpa [List.getElem?_take,List.getElem?_drop] using hr1'
theorem open_mes {fuel:Nat} {cs:List Value} {x:DataW H×List MemPlace} (h:DataW.trod enc Tryz.prog w base spare held fuel 23 cs=some x) :
  ∃(A:Option Addr) (l:List Me) (c:Nat),cs=[.slice A l.length c]∧MesAt w A l:=by
 obtain ⟨A,l,c,rfl,hm,hr⟩:=open_row me0 Tryz.underlying23 cellsMe (by omega) (fun _ _ _=>open_me) h
 rcases hr with h0|⟨b,off,rfl,hi⟩
 ·exact ⟨A,l,c,rfl,hm,Or.inl h0⟩
 refine ⟨_,l,c,rfl,hm,Or.inr ⟨b,off,rfl,fun i hlt=>?_⟩⟩
 obtain ⟨vs,⟨P,C,K,p,c,k,h0,h1,h2,h3,h4,h5,h6,h7,w1⟩,hc⟩:=hi i hlt
 exact ⟨P,C,K,p,c,k,(hc 0 (by omega)).trans h0,(hc 1 (by omega)).trans h1,(hc 2 (by omega)).trans h2,(hc 3 (by omega)).trans h3,(hc 4 (by omega)).trans h4,(hc 5 (by omega)).trans h5,(hc 6 (by omega)).trans h6,(hc 7 (by omega)).trans h7,w1⟩
theorem open_file {fuel:Nat} {cs:List Value} {x:DataW H×List MemPlace} (h:DataW.trod enc Tryz.prog w base spare held fuel 25 cs=some x) :
  ∃(f:Fi) (A B:Option Addr) (a b:Nat),cs=[.slice A f.classes.length a,.slice B f.methods.length b]∧ClsAt w A f.classes∧MesAt w B f.methods:=by
 obtain ⟨xs,n,rfl,rfl,hl,hn,hf⟩:=DataW.trod_struct Tryz.underlying25 h
 have hn':xs.length=2:=hn
 rw [cellsFi] at hl
 obtain ⟨y,hy⟩:=Option.ne_none_iff_exists'.1 (show xs[0]?≠none by simp [hn'])
 have h0:=hf 0 _ rfl
 rw [hy] at h0
 obtain ⟨A,l,a,hA,hT⟩:=open_cls h0
 obtain ⟨y,hy⟩:=Option.ne_none_iff_exists'.1 (show xs[1]?≠none by simp [hn'])
 have h1:=hf 1 _ rfl
 rw [hy] at h1
 obtain ⟨B,m,b,hB,hM⟩:=open_mes h1
 have e0:cs[0]?=some (.slice A l.length a):=take_one (cellsCls▸hA)
 have e1:cs[1]?=some (.slice B m.length b):=take_one (cellsMes▸hB)
 match cs,hl with
 | [u,v],_ =>
  simp at e0 e1
  subst e0 e1
  exact ⟨⟨l,m⟩,A,B,a,b,rfl,hT,hM⟩
end
end
section
open Go.ChangeShapes Go.WideShapes Go.ChangeAt Go.RowKit Go.Deep
variable {H:Type} {enc:TypeId×Value→H} {w:World} {base:Nat} {spare:Nat→Bool} {held:Bool}
theorem open_longs {fuel:Nat} {cs:List Value} {x:DataW H×List MemPlace} (h:DataW.trod enc Tryz.prog w base spare held fuel 26 cs=some x) :
  ∃(A:Option Addr) (l:List Int) (c:Nat),cs=[.slice A l.length c]∧IntsAt w A l:=by
 obtain ⟨A,l,c,rfl,hm,hr⟩:=open_row (0:Int) (R:=fun (n:Int) cs=>cs[0]?=some (.int .i64 n)∧I64 n) Tryz.underlying26 cellsLong (by omega)
  (fun _ _ _ hh=>by obtain ⟨n,rfl,-,hw⟩:=DataW.trod_int Tryz.underlying2 hh;exact ⟨n,rfl,bounds_i64 hw⟩) h
 rcases hr with h0|⟨b,off,rfl,hi⟩
 ·exact ⟨A,l,c,rfl,hm,Or.inl h0⟩
 refine ⟨_,l,c,rfl,hm,Or.inr ⟨b,off,rfl,fun i hlt=>?_⟩⟩
 obtain ⟨vs,⟨h0,w0⟩,hc⟩:=hi i hlt
 have:=(hc 0 (by omega)).trans h0
 rw [Nat.mul_one,Nat.add_zero] at this
 exact ⟨this,w0⟩
end
end Go.Proofs.YtfncnhlihmnkiabGreat
