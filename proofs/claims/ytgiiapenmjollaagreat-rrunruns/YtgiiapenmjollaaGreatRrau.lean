import Derived.Test.YtgiiapenmjollaaGreatRrat
namespace Go.Proofs.YtgiiapenmjollaaGreat
set_option linter.all false
set_option maxHeartbeats 40000000
set_option maxRecDepth 100000
open Go.RowKit
open Tryz
theorem LS (x y z:Int) (i:In) (cs:List Cl) (ms:List Me) (A B:Option Addr) (a b:Nat) (m:Me) (P C K:Option Addr) (p c k:Nat) (Q:Option Addr) (q:Nat) (w:World) (mE:cs.length<=12) (wG:ms.length<=8) (eG:m.code.length<=maxLen) (hlo:1<=m.regs) (eY:m.regs<=90) (hA:bK w A cs) (hB:cz w B ms) (hQ:aU w Q i.args) (hk:aW i.op=some (x,y,z)) (Ey:i.op=11∨i.op=13∨i.op=16∨i.op=17∨i.op=20) :
  χ 32 #[lr cs.length ms.length A B a b,sK m P C K p c k,inV i Q q] w fun e w'=>e=.returned (.bool (bU cs ms m.code.length m.regs m.ret.kind i))/\Bl w w':=by
 unfold maxLen at eG
 have rA:Θ (∀j,j<3->bp m.regs (three i.a i.b i.c j) (three x y z j)=false->bU cs ms m.code.length m.regs m.ret.kind i=false):=fun j hj=>ja hk hj
 have yl:Θ ((∀j,j<3->bp m.regs (three i.a i.b i.c j) (three x y z j)=true)->bU cs ms m.code.length m.regs m.ret.kind i=aM cs ms m.code.length m.regs m.ret.kind i):=ky hk
 have HA:Θ (bK w A cs):=hA
 have HB:Θ (cz w B ms):=hB
 have HQ:Θ (aU w Q i.args):=hQ
 have HR:Θ (mz (lY w cs.length ms.length A B a b m P C K p c k i Q q x y z) w.heap.size cs.length ms.length A B a b m P C K p c k i Q q x y z):=iu w cs.length ms.length A B a b m P C K p c k i Q q x y z
 have HK:Θ (aW i.op=some (x,y,z)):=hk
 clear hA hB hQ hk
 go_enter func32,ntmps32
 go_wp2_with (go_at_call 72;refine (gZ _ _ x y z HK.o).mono ?_;rintro e w' ⟨rfl,rfl⟩)
 go_loopw [10] (fun v wr=>∃j:Nat,j<=3/\v=ι j/\Θ (∀l,l<j->bp m.regs (three i.a i.b i.c l) (three x y z l)=true)/\Θ (Bl w wr)/\Θ (mz wr w.heap.size cs.length ms.length A B a b m P C K p c k i Q q x y z)) (fun v _=>3-(intOf v).toNat)
 case atStart=>exact ⟨0,by omega,rfl,fun l hl=>absurd hl (Nat.not_lt_zero _),((((((Bl.refl w).alloc _).alloc _).alloc _).alloc _).alloc _),HR⟩
 case round =>
  clear HR
  obtain ⟨j,hj,rfl,kZ,hg,HR⟩:=hrel
  by_cases ij:j<3
  ·have gk:=aj (HR.o.rk.at j ij)
   have gd:=aj (HR.o.rd.at j ij)
   have y0:=aj HR.o.rm.1
   have y1:=aj HR.o.rm.2.1
   have y2:=aj HR.o.rm.2.2.1
   have y3:=aj HR.o.rm.2.2.2.1
   have y4:=aj HR.o.rm.2.2.2.2.1
   have y5:=aj HR.o.rm.2.2.2.2.2.1
   have y6:=aj HR.o.rm.2.2.2.2.2.2.1
   have y7:=aj HR.o.rm.2.2.2.2.2.2.2
   have iA:Θ (bp m.regs (three i.a i.b i.c j) (three x y z j)=false->bU cs ms m.code.length m.regs m.ret.kind i=false):=rA.o j ij
   by_cases hz:three x y z j=0
   ·have jy:Θ (bp m.regs (three i.a i.b i.c j) (three x y z j)=decide (three i.a i.b i.c j=0)):=by unfold bp;rw [if_pos hz];rfl
    rw [hz] at gk
    have hreg:=hz
    clear hz
    by_cases hv:three i.a i.b i.c j=0
    ·have HY:Θ (bp m.regs (three i.a i.b i.c j) (three x y z j)=true):=jy.o.trans (decide_eq_true hv)
     rw [hv] at gd
     clear hv hreg
     have hreg:=ij
     go_wp2
     refine az (by kernel_rfl) (by kernel_rfl) fun hne=>?_
     repeat (go_big_quiet_step ((go_at_call 73;exact Calls.fut_eq _ (aX m _ _ _ _ _ _ _ _ _ hlo eY) (congrArg Value.bool hreg))))
     refine wpQuiet_nil ?_
     rintro _ ⟨⟨w2,bX⟩,rfl⟩
     go_wp2
     go_roundw
     case rel=>exact ⟨j+1,by omega,by go_num,fun l hl=>if h:l<j then kZ.o l h else by have:l=j:=(by omega);subst this;exact HY.o,hg.o.trans bX,HR.o.bl bX⟩
     case measure=>simp [intOf];omega
    ·have HN:Θ (bU cs ms m.code.length m.regs m.ret.kind i=false):=iA.o (jy.o.trans (decide_eq_false hv))
     have FK:(three i.a i.b i.c j !=0)=true:=by simpa using hv
     clear hv hreg
     have hreg:=ij
     go_wp2
     refine az (by kernel_rfl) (by kernel_rfl) fun hne=>?_
     repeat (go_big_quiet_step ((go_at_call 73;exact Calls.fut_eq _ (aX m _ _ _ _ _ _ _ _ _ hlo eY) (congrArg Value.bool hreg))))
     refine wpQuiet_nil ?_
     rintro _ ⟨⟨w2,bX⟩,rfl⟩
     go_wp2
     go_ret
     exact ⟨ag HN.o.symm,hg.o.trans bX⟩
   ·have JR:(three x y z j==0)=false:=by simpa using hz
    by_cases hp:0<three x y z j
    ·have qY:decide (0<three x y z j)=true:=decide_eq_true hp
     have jy:Θ (bp m.regs (three i.a i.b i.c j) (three x y z j)=dJ m.regs (three i.a i.b i.c j) (three x y z j)):=by unfold bp;rw [if_neg hz,if_pos hp];rfl
     cases hreg:dJ m.regs (three i.a i.b i.c j) (three x y z j)
     ·have HN:Θ (bU cs ms m.code.length m.regs m.ret.kind i=false):=iA.o (jy.o.trans hreg)
      go_wp2
      refine az (by kernel_rfl) (by kernel_rfl) fun hne=>?_
      repeat (go_big_quiet_step ((go_at_call 73;exact Calls.fut_eq _ (aX m _ _ _ _ _ _ _ _ _ hlo eY) (congrArg Value.bool hreg))))
      refine wpQuiet_nil ?_
      rintro _ ⟨⟨w2,bX⟩,rfl⟩
      go_wp2
      go_ret
      exact ⟨ag HN.o.symm,hg.o.trans bX⟩
     ·have HY:Θ (bp m.regs (three i.a i.b i.c j) (three x y z j)=true):=jy.o.trans hreg
      go_wp2
      refine az (by kernel_rfl) (by kernel_rfl) fun hne=>?_
      repeat (go_big_quiet_step ((go_at_call 73;exact Calls.fut_eq _ (aX m _ _ _ _ _ _ _ _ _ hlo eY) (congrArg Value.bool hreg))))
      refine wpQuiet_nil ?_
      rintro _ ⟨⟨w2,bX⟩,rfl⟩
      go_wp2
      go_roundw
      case rel=>exact ⟨j+1,by omega,by go_num,fun l hl=>if h:l<j then kZ.o l h else by have:l=j:=(by omega);subst this;exact HY.o,hg.o.trans bX,HR.o.bl bX⟩
      case measure=>simp [intOf];omega
    ·have qY:decide (0<three x y z j)=false:=decide_eq_false hp
     have HY:Θ (bp m.regs (three i.a i.b i.c j) (three x y z j)=true):=by unfold bp;rw [if_neg hz,if_neg hp];rfl
     have hreg:=hz
     go_wp2
     refine az (by kernel_rfl) (by kernel_rfl) fun hne=>?_
     repeat (go_big_quiet_step ((go_at_call 73;exact Calls.fut_eq _ (aX m _ _ _ _ _ _ _ _ _ hlo eY) (congrArg Value.bool hreg))))
     refine wpQuiet_nil ?_
     rintro _ ⟨⟨w2,bX⟩,rfl⟩
     go_wp2
     go_roundw
     case rel=>exact ⟨j+1,by omega,by go_num,fun l hl=>if h:l<j then kZ.o l h else by have:l=j:=(by omega);subst this;exact HY.o,hg.o.trans bX,HR.o.bl bX⟩
     case measure=>simp [intOf];omega
  ·obtain rfl:j=3:=by omega
   have ez:Θ (bU cs ms m.code.length m.regs m.ret.kind i=aM cs ms m.code.length m.regs m.ret.kind i):=yl.o kZ.o
   clear rA yl kZ hj ij
   obtain ⟨a0,a1,a2,a3,a4,a5⟩:=HR.o.ri.lit
   obtain ⟨m0,m1,m2,m3,m4,m5,m6,m7⟩:=HR.o.rm.lit
   obtain ⟨f0,f1⟩:=HR.o.rf.lit
   have G:Θ (Bl wr wr):=Bl.refl wr
   by_cases hop:i.op=11
   ·rw [hop] at a0
    have dC:Θ (i.op=11):=hop
    clear hop
    by_cases dx:i.args.length=0
    ·have cV:Θ (i.args.length=0):=dx
     by_cases hn:i.n=0
     ·have iA:Θ (i.n=0):=hn
      rw [hn] at a4
      clear hn
      go_wp2_with (first
       | (go_at_call 20;refine (aI _ _ _ _).mono ?_;rintro e w2 ⟨rfl,od⟩;rw [od];clear od w2)
       | (go_at_call 73;refine (aX m _ _ _ _ _ _ _ _ _ hlo eY).mono ?_;rintro e w2 ⟨rfl,eF⟩;replace G:Θ (Bl wr w2):=G.o.trans eF;obtain ⟨a0,a1,a2,a3,a4,a5⟩:=(HR.o.bl G.o).ri.lit;obtain ⟨m0,m1,m2,m3,m4,m5,m6,m7⟩:=(HR.o.bl G.o).rm.lit))
      all_goals
       go_ret
       refine ⟨ag ?_,hg.o.trans G.o⟩
       rw [ez.o,Bool.eq_iff_iff];simp [aM,dC.o,cV.o,iA.o];(try omega);(try simp_all)
     ·have ig:(i.n !=0)=true:=by simpa using hn
      go_wp2
      go_ret
      refine ⟨ag ?_,hg.o.trans G.o⟩
      rw [ez.o,Bool.eq_iff_iff];simp [aM,dC.o,cV.o,hn];(try omega);(try simp_all)
    ·have jz:0<i.args.length:=by omega
     have cV:Θ (¬i.args.length=0):=dx
     clear dx
     go_wp2
     go_ret
     refine ⟨ag ?_,hg.o.trans G.o⟩
     rw [ez.o,Bool.eq_iff_iff];simp [aM,dC.o,cV.o];(try omega);(try simp_all)
   by_cases hop:i.op=13
   ·rw [hop] at a0
    have dC:Θ (i.op=13):=hop
    clear hop
    by_cases dx:i.args.length=0
    ·have cV:Θ (i.args.length=0):=dx
     by_cases hn:i.n=0
     ·have iA:Θ (i.n=0):=hn
      rw [hn] at a4
      clear hn
      go_wp2_with (first
       | (go_at_call 20;refine (aI _ _ _ _).mono ?_;rintro e w2 ⟨rfl,od⟩;rw [od];clear od w2)
       | (go_at_call 73;refine (aX m _ _ _ _ _ _ _ _ _ hlo eY).mono ?_;rintro e w2 ⟨rfl,eF⟩;replace G:Θ (Bl wr w2):=G.o.trans eF;obtain ⟨a0,a1,a2,a3,a4,a5⟩:=(HR.o.bl G.o).ri.lit;obtain ⟨m0,m1,m2,m3,m4,m5,m6,m7⟩:=(HR.o.bl G.o).rm.lit))
      all_goals
       go_ret
       refine ⟨ag ?_,hg.o.trans G.o⟩
       rw [ez.o,Bool.eq_iff_iff];simp [aM,dC.o,cV.o,iA.o];(try omega);(try simp_all)
     ·have ig:(i.n !=0)=true:=by simpa using hn
      go_wp2
      go_ret
      refine ⟨ag ?_,hg.o.trans G.o⟩
      rw [ez.o,Bool.eq_iff_iff];simp [aM,dC.o,cV.o,hn];(try omega);(try simp_all)
    ·have jz:0<i.args.length:=by omega
     have cV:Θ (¬i.args.length=0):=dx
     clear dx
     go_wp2
     go_ret
     refine ⟨ag ?_,hg.o.trans G.o⟩
     rw [ez.o,Bool.eq_iff_iff];simp [aM,dC.o,cV.o];(try omega);(try simp_all)
   by_cases hop:i.op=16
   ·rw [hop] at a0
    have dC:Θ (i.op=16):=hop
    clear hop
    by_cases dx:i.args.length=0
    ·have cV:Θ (i.args.length=0):=dx
     by_cases hn:i.n=0
     ·have iA:Θ (i.n=0):=hn
      rw [hn] at a4
      clear hn
      go_wp2_with (first
       | (go_at_call 20;refine (aI _ _ _ _).mono ?_;rintro e w2 ⟨rfl,od⟩;rw [od];clear od w2)
       | (go_at_call 73;refine (aX m _ _ _ _ _ _ _ _ _ hlo eY).mono ?_;rintro e w2 ⟨rfl,eF⟩;replace G:Θ (Bl wr w2):=G.o.trans eF;obtain ⟨a0,a1,a2,a3,a4,a5⟩:=(HR.o.bl G.o).ri.lit;obtain ⟨m0,m1,m2,m3,m4,m5,m6,m7⟩:=(HR.o.bl G.o).rm.lit))
      all_goals
       go_ret
       refine ⟨ag ?_,hg.o.trans G.o⟩
       rw [ez.o,Bool.eq_iff_iff];simp [aM,dC.o,cV.o,iA.o];(try omega);(try simp_all)
     ·have ig:(i.n !=0)=true:=by simpa using hn
      go_wp2
      go_ret
      refine ⟨ag ?_,hg.o.trans G.o⟩
      rw [ez.o,Bool.eq_iff_iff];simp [aM,dC.o,cV.o,hn];(try omega);(try simp_all)
    ·have jz:0<i.args.length:=by omega
     have cV:Θ (¬i.args.length=0):=dx
     clear dx
     go_wp2
     go_ret
     refine ⟨ag ?_,hg.o.trans G.o⟩
     rw [ez.o,Bool.eq_iff_iff];simp [aM,dC.o,cV.o];(try omega);(try simp_all)
   by_cases hop:i.op=17
   ·rw [hop] at a0
    have dC:Θ (i.op=17):=hop
    clear hop
    by_cases dx:i.args.length=0
    ·have cV:Θ (i.args.length=0):=dx
     by_cases hn:i.n=0
     ·have iA:Θ (i.n=0):=hn
      rw [hn] at a4
      clear hn
      go_wp2_with (first
       | (go_at_call 20;refine (aI _ _ _ _).mono ?_;rintro e w2 ⟨rfl,od⟩;rw [od];clear od w2)
       | (go_at_call 73;refine (aX m _ _ _ _ _ _ _ _ _ hlo eY).mono ?_;rintro e w2 ⟨rfl,eF⟩;replace G:Θ (Bl wr w2):=G.o.trans eF;obtain ⟨a0,a1,a2,a3,a4,a5⟩:=(HR.o.bl G.o).ri.lit;obtain ⟨m0,m1,m2,m3,m4,m5,m6,m7⟩:=(HR.o.bl G.o).rm.lit))
      all_goals
       go_ret
       refine ⟨ag ?_,hg.o.trans G.o⟩
       rw [ez.o,Bool.eq_iff_iff];simp [aM,dC.o,cV.o,iA.o];(try omega);(try simp_all)
     ·have ig:(i.n !=0)=true:=by simpa using hn
      go_wp2
      go_ret
      refine ⟨ag ?_,hg.o.trans G.o⟩
      rw [ez.o,Bool.eq_iff_iff];simp [aM,dC.o,cV.o,hn];(try omega);(try simp_all)
    ·have jz:0<i.args.length:=by omega
     have cV:Θ (¬i.args.length=0):=dx
     clear dx
     go_wp2
     go_ret
     refine ⟨ag ?_,hg.o.trans G.o⟩
     rw [ez.o,Bool.eq_iff_iff];simp [aM,dC.o,cV.o];(try omega);(try simp_all)
   by_cases hop:i.op=20
   ·rw [hop] at a0
    have dC:Θ (i.op=20):=hop
    clear hop
    by_cases dx:i.args.length=0
    ·have cV:Θ (i.args.length=0):=dx
     by_cases hn:i.n=0
     ·have iA:Θ (i.n=0):=hn
      rw [hn] at a4
      clear hn
      by_cases hr:m.ret.kind=0
      ·have Zq:Θ (m.ret.kind=0):=hr
       rw [hr] at m1
       clear hr
       go_wp2
       go_ret
       refine ⟨ag ?_,hg.o.trans G.o⟩
       rw [ez.o,Bool.eq_iff_iff];simp [aM,dC.o,cV.o,iA.o,Zq.o];(try omega);(try simp_all)
      ·have SU:(m.ret.kind==0)=false:=by simpa using hr
       go_wp2_with (first
        | (go_at_call 20;refine (aI _ _ _ _).mono ?_;rintro e w2 ⟨rfl,od⟩;rw [od];clear od w2)
        | (go_at_call 73;refine (aX m _ _ _ _ _ _ _ _ _ hlo eY).mono ?_;rintro e w2 ⟨rfl,eF⟩;replace G:Θ (Bl wr w2):=G.o.trans eF;obtain ⟨a0,a1,a2,a3,a4,a5⟩:=(HR.o.bl G.o).ri.lit;obtain ⟨m0,m1,m2,m3,m4,m5,m6,m7⟩:=(HR.o.bl G.o).rm.lit))
       all_goals
        go_ret
        refine ⟨ag ?_,hg.o.trans G.o⟩
        rw [ez.o,Bool.eq_iff_iff];simp [aM,dC.o,cV.o,iA.o,hr];(try omega);(try simp_all)
     ·have ig:(i.n !=0)=true:=by simpa using hn
      go_wp2
      go_ret
      refine ⟨ag ?_,hg.o.trans G.o⟩
      rw [ez.o,Bool.eq_iff_iff];simp [aM,dC.o,cV.o,hn];(try omega);(try simp_all)
    ·have jz:0<i.args.length:=by omega
     have cV:Θ (¬i.args.length=0):=dx
     clear dx
     go_wp2
     go_ret
     refine ⟨ag ?_,hg.o.trans G.o⟩
     rw [ez.o,Bool.eq_iff_iff];simp [aM,dC.o,cV.o];(try omega);(try simp_all)
   omega
end Go.Proofs.YtgiiapenmjollaaGreat
