import Derived.Test.YtgiiapenmjollabGreatRsba
namespace Go.Proofs.YtgiiapenmjollabGreat
set_option linter.all false
set_option maxHeartbeats 40000000
set_option maxRecDepth 100000
open Go.RowKit
theorem rrins_C (x y z:Int) (i:In) (cs:List Cl) (ms:List Me) (A B:Option Addr) (a b:Nat) (m:Me) (P C K:Option Addr) (p c k:Nat) (Q:Option Addr) (q:Nat) (w:World) (hnc:cs.length≤12) (hnm:ms.length≤8) (hcode:m.code.length≤maxLen) (hlo:1≤m.regs) (hhi:m.regs≤90)
  (hA:ClsAt w A cs) (hB:MesAt w B ms) (hQ:IntsAt w Q i.args)
  (hk:kindsOf i.op=some (x,y,z)) (hgrp:i.op=11∨i.op=13∨i.op=16∨i.op=17∨i.op=20) :
  Calls Tryz.prog 39 #[fiV cs.length ms.length A B a b,meV m P C K p c k,inV i Q q] w fun e w'=>e=.returned (.bool (rinB cs ms m.code.length m.regs m.ret.kind i))∧Bl w w':=by
 unfold maxLen at hcode
 have HFB:Hid (∀j,j<3→rfldB m.regs (three i.a i.b i.c j) (three x y z j)=false→rinB cs ms m.code.length m.regs m.ret.kind i=false):=fun j hj=>rin_field hk hj
 have HFG:Hid ((∀j,j<3→rfldB m.regs (three i.a i.b i.c j) (three x y z j)=true)→rinB cs ms m.code.length m.regs m.ret.kind i=rrestB cs ms m.code.length m.regs m.ret.kind i):=rin_rest hk
 have HA:Hid (ClsAt w A cs):=hA
 have HB:Hid (MesAt w B ms):=hB
 have HQ:Hid (IntsAt w Q i.args):=hQ
 have HR:Hid (RBox (boxed5 w cs.length ms.length A B a b m P C K p c k i Q q x y z) w.heap.size cs.length ms.length A B a b m P C K p c k i Q q x y z):=boxed5_is w cs.length ms.length A B a b m P C K p c k i Q q x y z
 have HK:Hid (kindsOf i.op=some (x,y,z)):=hk
 clear hA hB hQ hk
 go_enter Tryz.func39,Tryz.ntmps39
 go_wp2_with (go_at_call 78;refine (rnamed_any _ _ x y z HK.out).mono ?_;rintro e w' ⟨rfl,rfl⟩)
 go_loopw [10] (fun v wr=>∃j:Nat,j≤3∧v=.int .i64 j∧Hid (∀l,l<j→rfldB m.regs (three i.a i.b i.c l) (three x y z l)=true)∧Hid (Bl w wr)∧Hid (RBox wr w.heap.size cs.length ms.length A B a b m P C K p c k i Q q x y z)) (fun v _=>3-(intOf v).toNat)
 case atStart=>exact ⟨0,by omega,rfl,fun l hl=>absurd hl (Nat.not_lt_zero _),((((((Bl.refl w).alloc _).alloc _).alloc _).alloc _).alloc _),HR⟩
 case round =>
  clear HR
  obtain ⟨j,hj,rfl,hgj,hg,HR⟩:=hrel
  by_cases hjl:j<3
  ·have gk:=fut_cell (HR.out.rk.at j hjl)
   have gd:=fut_cell (HR.out.rd.at j hjl)
   have y0:=fut_cell HR.out.rm.1
   have y1:=fut_cell HR.out.rm.2.1
   have y2:=fut_cell HR.out.rm.2.2.1
   have y3:=fut_cell HR.out.rm.2.2.2.1
   have y4:=fut_cell HR.out.rm.2.2.2.2.1
   have y5:=fut_cell HR.out.rm.2.2.2.2.2.1
   have y6:=fut_cell HR.out.rm.2.2.2.2.2.2.1
   have y7:=fut_cell HR.out.rm.2.2.2.2.2.2.2
   have HN0:Hid (rfldB m.regs (three i.a i.b i.c j) (three x y z j)=false→rinB cs ms m.code.length m.regs m.ret.kind i=false):=HFB.out j hjl
   by_cases hz:three x y z j=0
   ·have HY0:Hid (rfldB m.regs (three i.a i.b i.c j) (three x y z j)=decide (three i.a i.b i.c j=0)):=by unfold rfldB;rw [if_pos hz];rfl
    rw [hz] at gk
    have hreg:=hz
    clear hz
    by_cases hv:three i.a i.b i.c j=0
    ·have HY:Hid (rfldB m.regs (three i.a i.b i.c j) (three x y z j)=true):=HY0.out.trans (decide_eq_true hv)
     rw [hv] at gd
     clear hv hreg
     have hreg:=hjl
     go_wp2
     refine wp_region_fut (by kernel_rfl) (by kernel_rfl) fun hne=>?_
     repeat (go_big_quiet_step ((go_at_call 79;exact Calls.fut_eq _ (rreg_any m _ _ _ _ _ _ _ _ _ hlo hhi) (congrArg Value.bool hreg))))
     refine wpQuiet_nil ?_
     rintro _ ⟨⟨w2,hw2⟩,rfl⟩
     go_wp2
     go_roundw
     case rel=>exact ⟨j+1,by omega,by go_num,fun l hl=>if h:l<j then hgj.out l h else by have:l=j:=(by omega);subst this;exact HY.out,hg.out.trans hw2,HR.out.bl hw2⟩
     case measure=>simp [intOf];omega
    ·have HN:Hid (rinB cs ms m.code.length m.regs m.ret.kind i=false):=HN0.out (HY0.out.trans (decide_eq_false hv))
     have hv':(three i.a i.b i.c j !=0)=true:=by simpa using hv
     clear hv hreg
     have hreg:=hjl
     go_wp2
     refine wp_region_fut (by kernel_rfl) (by kernel_rfl) fun hne=>?_
     repeat (go_big_quiet_step ((go_at_call 79;exact Calls.fut_eq _ (rreg_any m _ _ _ _ _ _ _ _ _ hlo hhi) (congrArg Value.bool hreg))))
     refine wpQuiet_nil ?_
     rintro _ ⟨⟨w2,hw2⟩,rfl⟩
     go_wp2
     go_ret
     exact ⟨ret_bool HN.out.symm,hg.out.trans hw2⟩
   ·have hz':(three x y z j==0)=false:=by simpa using hz
    by_cases hp:0<three x y z j
    ·have hp':decide (0<three x y z j)=true:=decide_eq_true hp
     have HY0:Hid (rfldB m.regs (three i.a i.b i.c j) (three x y z j)=regB m.regs (three i.a i.b i.c j) (three x y z j)):=by unfold rfldB;rw [if_neg hz,if_pos hp];rfl
     cases hreg:regB m.regs (three i.a i.b i.c j) (three x y z j)
     ·have HN:Hid (rinB cs ms m.code.length m.regs m.ret.kind i=false):=HN0.out (HY0.out.trans hreg)
      go_wp2
      refine wp_region_fut (by kernel_rfl) (by kernel_rfl) fun hne=>?_
      repeat (go_big_quiet_step ((go_at_call 79;exact Calls.fut_eq _ (rreg_any m _ _ _ _ _ _ _ _ _ hlo hhi) (congrArg Value.bool hreg))))
      refine wpQuiet_nil ?_
      rintro _ ⟨⟨w2,hw2⟩,rfl⟩
      go_wp2
      go_ret
      exact ⟨ret_bool HN.out.symm,hg.out.trans hw2⟩
     ·have HY:Hid (rfldB m.regs (three i.a i.b i.c j) (three x y z j)=true):=HY0.out.trans hreg
      go_wp2
      refine wp_region_fut (by kernel_rfl) (by kernel_rfl) fun hne=>?_
      repeat (go_big_quiet_step ((go_at_call 79;exact Calls.fut_eq _ (rreg_any m _ _ _ _ _ _ _ _ _ hlo hhi) (congrArg Value.bool hreg))))
      refine wpQuiet_nil ?_
      rintro _ ⟨⟨w2,hw2⟩,rfl⟩
      go_wp2
      go_roundw
      case rel=>exact ⟨j+1,by omega,by go_num,fun l hl=>if h:l<j then hgj.out l h else by have:l=j:=(by omega);subst this;exact HY.out,hg.out.trans hw2,HR.out.bl hw2⟩
      case measure=>simp [intOf];omega
    ·have hp':decide (0<three x y z j)=false:=decide_eq_false hp
     have HY:Hid (rfldB m.regs (three i.a i.b i.c j) (three x y z j)=true):=by unfold rfldB;rw [if_neg hz,if_neg hp];rfl
     have hreg:=hz
     go_wp2
     refine wp_region_fut (by kernel_rfl) (by kernel_rfl) fun hne=>?_
     repeat (go_big_quiet_step ((go_at_call 79;exact Calls.fut_eq _ (rreg_any m _ _ _ _ _ _ _ _ _ hlo hhi) (congrArg Value.bool hreg))))
     refine wpQuiet_nil ?_
     rintro _ ⟨⟨w2,hw2⟩,rfl⟩
     go_wp2
     go_roundw
     case rel=>exact ⟨j+1,by omega,by go_num,fun l hl=>if h:l<j then hgj.out l h else by have:l=j:=(by omega);subst this;exact HY.out,hg.out.trans hw2,HR.out.bl hw2⟩
     case measure=>simp [intOf];omega
  ·obtain rfl:j=3:=by omega
   have HRR:Hid (rinB cs ms m.code.length m.regs m.ret.kind i=rrestB cs ms m.code.length m.regs m.ret.kind i):=HFG.out hgj.out
   clear HFB HFG hgj hj hjl
   obtain ⟨a0,a1,a2,a3,a4,a5⟩:=HR.out.ri.lit
   obtain ⟨m0,m1,m2,m3,m4,m5,m6,m7⟩:=HR.out.rm.lit
   obtain ⟨f0,f1⟩:=HR.out.rf.lit
   have G:Hid (Bl wr wr):=Bl.refl wr
   by_cases hop:i.op=11
   ·rw [hop] at a0
    have HOP:Hid (i.op=11):=hop
    clear hop
    by_cases har:i.args.length=0
    ·have HAR:Hid (i.args.length=0):=har
     by_cases hn:i.n=0
     ·have HN0:Hid (i.n=0):=hn
      rw [hn] at a4
      clear hn
      go_wp2_with (first
       | (go_at_call 36;refine (within_any _ _ _ _).mono ?_;rintro e w2 ⟨rfl,hww⟩;rw [hww];clear hww w2)
       | (go_at_call 79;refine (rreg_any m _ _ _ _ _ _ _ _ _ hlo hhi).mono ?_;rintro e w2 ⟨rfl,hg2⟩;replace G:Hid (Bl wr w2):=G.out.trans hg2;obtain ⟨a0,a1,a2,a3,a4,a5⟩:=(HR.out.bl G.out).ri.lit;obtain ⟨m0,m1,m2,m3,m4,m5,m6,m7⟩:=(HR.out.bl G.out).rm.lit))
      all_goals
       go_ret
       refine ⟨ret_bool ?_,hg.out.trans G.out⟩
       rw [HRR.out,Bool.eq_iff_iff];simp [rrestB,HOP.out,HAR.out,HN0.out];(try omega);(try simp_all)
     ·have hn':(i.n !=0)=true:=by simpa using hn
      go_wp2
      go_ret
      refine ⟨ret_bool ?_,hg.out.trans G.out⟩
      rw [HRR.out,Bool.eq_iff_iff];simp [rrestB,HOP.out,HAR.out,hn];(try omega);(try simp_all)
    ·have har':0<i.args.length:=by omega
     have HAR:Hid (¬i.args.length=0):=har
     clear har
     go_wp2
     go_ret
     refine ⟨ret_bool ?_,hg.out.trans G.out⟩
     rw [HRR.out,Bool.eq_iff_iff];simp [rrestB,HOP.out,HAR.out];(try omega);(try simp_all)
   by_cases hop:i.op=13
   ·rw [hop] at a0
    have HOP:Hid (i.op=13):=hop
    clear hop
    by_cases har:i.args.length=0
    ·have HAR:Hid (i.args.length=0):=har
     by_cases hn:i.n=0
     ·have HN0:Hid (i.n=0):=hn
      rw [hn] at a4
      clear hn
      go_wp2_with (first
       | (go_at_call 36;refine (within_any _ _ _ _).mono ?_;rintro e w2 ⟨rfl,hww⟩;rw [hww];clear hww w2)
       | (go_at_call 79;refine (rreg_any m _ _ _ _ _ _ _ _ _ hlo hhi).mono ?_;rintro e w2 ⟨rfl,hg2⟩;replace G:Hid (Bl wr w2):=G.out.trans hg2;obtain ⟨a0,a1,a2,a3,a4,a5⟩:=(HR.out.bl G.out).ri.lit;obtain ⟨m0,m1,m2,m3,m4,m5,m6,m7⟩:=(HR.out.bl G.out).rm.lit))
      all_goals
       go_ret
       refine ⟨ret_bool ?_,hg.out.trans G.out⟩
       rw [HRR.out,Bool.eq_iff_iff];simp [rrestB,HOP.out,HAR.out,HN0.out];(try omega);(try simp_all)
     ·have hn':(i.n !=0)=true:=by simpa using hn
      go_wp2
      go_ret
      refine ⟨ret_bool ?_,hg.out.trans G.out⟩
      rw [HRR.out,Bool.eq_iff_iff];simp [rrestB,HOP.out,HAR.out,hn];(try omega);(try simp_all)
    ·have har':0<i.args.length:=by omega
     have HAR:Hid (¬i.args.length=0):=har
     clear har
     go_wp2
     go_ret
     refine ⟨ret_bool ?_,hg.out.trans G.out⟩
     rw [HRR.out,Bool.eq_iff_iff];simp [rrestB,HOP.out,HAR.out];(try omega);(try simp_all)
   by_cases hop:i.op=16
   ·rw [hop] at a0
    have HOP:Hid (i.op=16):=hop
    clear hop
    by_cases har:i.args.length=0
    ·have HAR:Hid (i.args.length=0):=har
     by_cases hn:i.n=0
     ·have HN0:Hid (i.n=0):=hn
      rw [hn] at a4
      clear hn
      go_wp2_with (first
       | (go_at_call 36;refine (within_any _ _ _ _).mono ?_;rintro e w2 ⟨rfl,hww⟩;rw [hww];clear hww w2)
       | (go_at_call 79;refine (rreg_any m _ _ _ _ _ _ _ _ _ hlo hhi).mono ?_;rintro e w2 ⟨rfl,hg2⟩;replace G:Hid (Bl wr w2):=G.out.trans hg2;obtain ⟨a0,a1,a2,a3,a4,a5⟩:=(HR.out.bl G.out).ri.lit;obtain ⟨m0,m1,m2,m3,m4,m5,m6,m7⟩:=(HR.out.bl G.out).rm.lit))
      all_goals
       go_ret
       refine ⟨ret_bool ?_,hg.out.trans G.out⟩
       rw [HRR.out,Bool.eq_iff_iff];simp [rrestB,HOP.out,HAR.out,HN0.out];(try omega);(try simp_all)
     ·have hn':(i.n !=0)=true:=by simpa using hn
      go_wp2
      go_ret
      refine ⟨ret_bool ?_,hg.out.trans G.out⟩
      rw [HRR.out,Bool.eq_iff_iff];simp [rrestB,HOP.out,HAR.out,hn];(try omega);(try simp_all)
    ·have har':0<i.args.length:=by omega
     have HAR:Hid (¬i.args.length=0):=har
     clear har
     go_wp2
     go_ret
     refine ⟨ret_bool ?_,hg.out.trans G.out⟩
     rw [HRR.out,Bool.eq_iff_iff];simp [rrestB,HOP.out,HAR.out];(try omega);(try simp_all)
   by_cases hop:i.op=17
   ·rw [hop] at a0
    have HOP:Hid (i.op=17):=hop
    clear hop
    by_cases har:i.args.length=0
    ·have HAR:Hid (i.args.length=0):=har
     by_cases hn:i.n=0
     ·have HN0:Hid (i.n=0):=hn
      rw [hn] at a4
      clear hn
      go_wp2_with (first
       | (go_at_call 36;refine (within_any _ _ _ _).mono ?_;rintro e w2 ⟨rfl,hww⟩;rw [hww];clear hww w2)
       | (go_at_call 79;refine (rreg_any m _ _ _ _ _ _ _ _ _ hlo hhi).mono ?_;rintro e w2 ⟨rfl,hg2⟩;replace G:Hid (Bl wr w2):=G.out.trans hg2;obtain ⟨a0,a1,a2,a3,a4,a5⟩:=(HR.out.bl G.out).ri.lit;obtain ⟨m0,m1,m2,m3,m4,m5,m6,m7⟩:=(HR.out.bl G.out).rm.lit))
      all_goals
       go_ret
       refine ⟨ret_bool ?_,hg.out.trans G.out⟩
       rw [HRR.out,Bool.eq_iff_iff];simp [rrestB,HOP.out,HAR.out,HN0.out];(try omega);(try simp_all)
     ·have hn':(i.n !=0)=true:=by simpa using hn
      go_wp2
      go_ret
      refine ⟨ret_bool ?_,hg.out.trans G.out⟩
      rw [HRR.out,Bool.eq_iff_iff];simp [rrestB,HOP.out,HAR.out,hn];(try omega);(try simp_all)
    ·have har':0<i.args.length:=by omega
     have HAR:Hid (¬i.args.length=0):=har
     clear har
     go_wp2
     go_ret
     refine ⟨ret_bool ?_,hg.out.trans G.out⟩
     rw [HRR.out,Bool.eq_iff_iff];simp [rrestB,HOP.out,HAR.out];(try omega);(try simp_all)
   by_cases hop:i.op=20
   ·rw [hop] at a0
    have HOP:Hid (i.op=20):=hop
    clear hop
    by_cases har:i.args.length=0
    ·have HAR:Hid (i.args.length=0):=har
     by_cases hn:i.n=0
     ·have HN0:Hid (i.n=0):=hn
      rw [hn] at a4
      clear hn
      by_cases hr:m.ret.kind=0
      ·have HRK:Hid (m.ret.kind=0):=hr
       rw [hr] at m1
       clear hr
       go_wp2
       go_ret
       refine ⟨ret_bool ?_,hg.out.trans G.out⟩
       rw [HRR.out,Bool.eq_iff_iff];simp [rrestB,HOP.out,HAR.out,HN0.out,HRK.out];(try omega);(try simp_all)
      ·have hr':(m.ret.kind==0)=false:=by simpa using hr
       go_wp2_with (first
        | (go_at_call 36;refine (within_any _ _ _ _).mono ?_;rintro e w2 ⟨rfl,hww⟩;rw [hww];clear hww w2)
        | (go_at_call 79;refine (rreg_any m _ _ _ _ _ _ _ _ _ hlo hhi).mono ?_;rintro e w2 ⟨rfl,hg2⟩;replace G:Hid (Bl wr w2):=G.out.trans hg2;obtain ⟨a0,a1,a2,a3,a4,a5⟩:=(HR.out.bl G.out).ri.lit;obtain ⟨m0,m1,m2,m3,m4,m5,m6,m7⟩:=(HR.out.bl G.out).rm.lit))
       all_goals
        go_ret
        refine ⟨ret_bool ?_,hg.out.trans G.out⟩
        rw [HRR.out,Bool.eq_iff_iff];simp [rrestB,HOP.out,HAR.out,HN0.out,hr];(try omega);(try simp_all)
     ·have hn':(i.n !=0)=true:=by simpa using hn
      go_wp2
      go_ret
      refine ⟨ret_bool ?_,hg.out.trans G.out⟩
      rw [HRR.out,Bool.eq_iff_iff];simp [rrestB,HOP.out,HAR.out,hn];(try omega);(try simp_all)
    ·have har':0<i.args.length:=by omega
     have HAR:Hid (¬i.args.length=0):=har
     clear har
     go_wp2
     go_ret
     refine ⟨ret_bool ?_,hg.out.trans G.out⟩
     rw [HRR.out,Bool.eq_iff_iff];simp [rrestB,HOP.out,HAR.out];(try omega);(try simp_all)
   omega
end Go.Proofs.YtgiiapenmjollabGreat
