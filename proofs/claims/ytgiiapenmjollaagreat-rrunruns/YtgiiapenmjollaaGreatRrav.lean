import Derived.Test.YtgiiapenmjollaaGreatRrau
import Derived.Test.YtgiiapenmjollaaGreatChecked
import Derived.KernelRfl
import Derived.ProofKit
import Derived.OpenShut
import Derived.ReadAgain
namespace Go.Proofs.YtgiiapenmjollaaGreat
set_option linter.all false
set_option maxHeartbeats 40000000
set_option maxRecDepth 100000
open Go.RowKit
open Tryz
variable {f:Fi} {cs:List Value} {fuel o:Nat}
theorem LU (x y z:Int) (i:In) (cs:List Cl) (ms:List Me) (A B:Option Addr) (a b:Nat) (m:Me) (P C K:Option Addr) (p c k:Nat) (Q:Option Addr) (q:Nat) (w:World) (mE:cs.length<=12) (wG:ms.length<=8) (eG:m.code.length<=maxLen) (hlo:1<=m.regs) (eY:m.regs<=90) (hA:bK w A cs) (hB:cz w B ms) (hQ:aU w Q i.args) (hk:aW i.op=some (x,y,z)) (Ey:i.op=4∨i.op=19∨i.op=23) :
  χ 32 #[lr cs.length ms.length A B a b,sK m P C K p c k,inV i Q q] w fun e w'=>e=.returned (.bool (bU cs ms m.code.length m.regs m.ret.kind i))/\Bl w w':=by
 unfold maxLen at eG
 have rA:Θ (∀j,j<3->bp m.regs (three i.a i.b i.c j) (three x y z j)=false->bU cs ms m.code.length m.regs m.ret.kind i=false):=fun j hj=>ja hk hj
 have yl:Θ ((∀j,j<3->bp m.regs (three i.a i.b i.c j) (three x y z j)=true)->bU cs ms m.code.length m.regs m.ret.kind i=aM cs ms m.code.length m.regs m.ret.kind i):=ky hk
 have HA:Θ (bK w A cs):=hA
 have HB:Θ (cz w B ms):=hB
 have HQ:Θ (aU w Q i.args):=hQ
 have HR:Θ (mz (lY w cs.length ms.length A B a b m P C K p c k i Q q x y z) w.heap.size cs.length ms.length A B a b m P C K p c k i Q q x y z):=iu w cs.length ms.length A B a b m P C K p c k i Q q x y z
 have HK:Θ (aW i.op=some (x,y,z)):=hk
 clear hA hB hQ hk
 go_enter func32,ntmps32
 go_wp2_with (go_at_call 72;refine (gZ _ _ x y z HK.o).mono ?_;rintro e w' ⟨rfl,rfl⟩)
 go_loopw [10] (fun v wr=>∃j:Nat,j<=3/\v=ι j/\Θ (∀l,l<j->bp m.regs (three i.a i.b i.c l) (three x y z l)=true)/\Θ (Bl w wr)/\Θ (mz wr w.heap.size cs.length ms.length A B a b m P C K p c k i Q q x y z)) (fun v _=>3-(intOf v).toNat)
 case atStart=>exact ⟨0,by omega,rfl,fun l hl=>absurd hl (Nat.not_lt_zero _),((((((Bl.refl w).alloc _).alloc _).alloc _).alloc _).alloc _),HR⟩
 case round =>
  clear HR
  obtain ⟨j,hj,rfl,kZ,hg,HR⟩:=hrel
  by_cases ij:j<3
  ·have gk:=aj (HR.o.rk.at j ij)
   have gd:=aj (HR.o.rd.at j ij)
   have y0:=aj HR.o.rm.1
   have y1:=aj HR.o.rm.2.1
   have y2:=aj HR.o.rm.2.2.1
   have y3:=aj HR.o.rm.2.2.2.1
   have y4:=aj HR.o.rm.2.2.2.2.1
   have y5:=aj HR.o.rm.2.2.2.2.2.1
   have y6:=aj HR.o.rm.2.2.2.2.2.2.1
   have y7:=aj HR.o.rm.2.2.2.2.2.2.2
   have iA:Θ (bp m.regs (three i.a i.b i.c j) (three x y z j)=false->bU cs ms m.code.length m.regs m.ret.kind i=false):=rA.o j ij
   by_cases hz:three x y z j=0
   ·have jy:Θ (bp m.regs (three i.a i.b i.c j) (three x y z j)=decide (three i.a i.b i.c j=0)):=by unfold bp;rw [if_pos hz];rfl
    rw [hz] at gk
    have hreg:=hz
    clear hz
    by_cases hv:three i.a i.b i.c j=0
    ·have HY:Θ (bp m.regs (three i.a i.b i.c j) (three x y z j)=true):=jy.o.trans (decide_eq_true hv)
     rw [hv] at gd
     clear hv hreg
     have hreg:=ij
     go_wp2
     refine az (by kernel_rfl) (by kernel_rfl) fun hne=>?_
     repeat (go_big_quiet_step ((go_at_call 73;exact Calls.fut_eq _ (aX m _ _ _ _ _ _ _ _ _ hlo eY) (congrArg Value.bool hreg))))
     refine wpQuiet_nil ?_
     rintro _ ⟨⟨w2,bX⟩,rfl⟩
     go_wp2
     go_roundw
     case rel=>exact ⟨j+1,by omega,by go_num,fun l hl=>if h:l<j then kZ.o l h else by have:l=j:=(by omega);subst this;exact HY.o,hg.o.trans bX,HR.o.bl bX⟩
     case measure=>simp [intOf];omega
    ·have HN:Θ (bU cs ms m.code.length m.regs m.ret.kind i=false):=iA.o (jy.o.trans (decide_eq_false hv))
     have FK:(three i.a i.b i.c j !=0)=true:=by simpa using hv
     clear hv hreg
     have hreg:=ij
     go_wp2
     refine az (by kernel_rfl) (by kernel_rfl) fun hne=>?_
     repeat (go_big_quiet_step ((go_at_call 73;exact Calls.fut_eq _ (aX m _ _ _ _ _ _ _ _ _ hlo eY) (congrArg Value.bool hreg))))
     refine wpQuiet_nil ?_
     rintro _ ⟨⟨w2,bX⟩,rfl⟩
     go_wp2
     go_ret
     exact ⟨ag HN.o.symm,hg.o.trans bX⟩
   ·have JR:(three x y z j==0)=false:=by simpa using hz
    by_cases hp:0<three x y z j
    ·have qY:decide (0<three x y z j)=true:=decide_eq_true hp
     have jy:Θ (bp m.regs (three i.a i.b i.c j) (three x y z j)=dJ m.regs (three i.a i.b i.c j) (three x y z j)):=by unfold bp;rw [if_neg hz,if_pos hp];rfl
     cases hreg:dJ m.regs (three i.a i.b i.c j) (three x y z j)
     ·have HN:Θ (bU cs ms m.code.length m.regs m.ret.kind i=false):=iA.o (jy.o.trans hreg)
      go_wp2
      refine az (by kernel_rfl) (by kernel_rfl) fun hne=>?_
      repeat (go_big_quiet_step ((go_at_call 73;exact Calls.fut_eq _ (aX m _ _ _ _ _ _ _ _ _ hlo eY) (congrArg Value.bool hreg))))
      refine wpQuiet_nil ?_
      rintro _ ⟨⟨w2,bX⟩,rfl⟩
      go_wp2
      go_ret
      exact ⟨ag HN.o.symm,hg.o.trans bX⟩
     ·have HY:Θ (bp m.regs (three i.a i.b i.c j) (three x y z j)=true):=jy.o.trans hreg
      go_wp2
      refine az (by kernel_rfl) (by kernel_rfl) fun hne=>?_
      repeat (go_big_quiet_step ((go_at_call 73;exact Calls.fut_eq _ (aX m _ _ _ _ _ _ _ _ _ hlo eY) (congrArg Value.bool hreg))))
      refine wpQuiet_nil ?_
      rintro _ ⟨⟨w2,bX⟩,rfl⟩
      go_wp2
      go_roundw
      case rel=>exact ⟨j+1,by omega,by go_num,fun l hl=>if h:l<j then kZ.o l h else by have:l=j:=(by omega);subst this;exact HY.o,hg.o.trans bX,HR.o.bl bX⟩
      case measure=>simp [intOf];omega
    ·have qY:decide (0<three x y z j)=false:=decide_eq_false hp
     have HY:Θ (bp m.regs (three i.a i.b i.c j) (three x y z j)=true):=by unfold bp;rw [if_neg hz,if_neg hp];rfl
     have hreg:=hz
     go_wp2
     refine az (by kernel_rfl) (by kernel_rfl) fun hne=>?_
     repeat (go_big_quiet_step ((go_at_call 73;exact Calls.fut_eq _ (aX m _ _ _ _ _ _ _ _ _ hlo eY) (congrArg Value.bool hreg))))
     refine wpQuiet_nil ?_
     rintro _ ⟨⟨w2,bX⟩,rfl⟩
     go_wp2
     go_roundw
     case rel=>exact ⟨j+1,by omega,by go_num,fun l hl=>if h:l<j then kZ.o l h else by have:l=j:=(by omega);subst this;exact HY.o,hg.o.trans bX,HR.o.bl bX⟩
     case measure=>simp [intOf];omega
  ·obtain rfl:j=3:=by omega
   have ez:Θ (bU cs ms m.code.length m.regs m.ret.kind i=aM cs ms m.code.length m.regs m.ret.kind i):=yl.o kZ.o
   clear rA yl kZ hj ij
   obtain ⟨a0,a1,a2,a3,a4,a5⟩:=HR.o.ri.lit
   obtain ⟨m0,m1,m2,m3,m4,m5,m6,m7⟩:=HR.o.rm.lit
   obtain ⟨f0,f1⟩:=HR.o.rf.lit
   have G:Θ (Bl wr wr):=Bl.refl wr
   by_cases hop:i.op=4
   ·rw [hop] at a0
    have dC:Θ (i.op=4):=hop
    clear hop
    by_cases dx:i.args.length=0
    ·have cV:Θ (i.args.length=0):=dx
     by_cases hn:i.n=0
     ·have iA:Θ (i.n=0):=hn
      rw [hn] at a4
      clear hn
      go_wp2_with (first
       | (go_at_call 20;refine (aI _ _ _ _).mono ?_;rintro e w2 ⟨rfl,od⟩;rw [od];clear od w2)
       | (go_at_call 73;refine (aX m _ _ _ _ _ _ _ _ _ hlo eY).mono ?_;rintro e w2 ⟨rfl,eF⟩;replace G:Θ (Bl wr w2):=G.o.trans eF;obtain ⟨a0,a1,a2,a3,a4,a5⟩:=(HR.o.bl G.o).ri.lit;obtain ⟨m0,m1,m2,m3,m4,m5,m6,m7⟩:=(HR.o.bl G.o).rm.lit))
      all_goals
       go_ret
       refine ⟨ag ?_,hg.o.trans G.o⟩
       rw [ez.o,Bool.eq_iff_iff];simp [aM,dC.o,cV.o,iA.o];(try omega);(try simp_all)
     ·have ig:(i.n !=0)=true:=by simpa using hn
      go_wp2
      go_ret
      refine ⟨ag ?_,hg.o.trans G.o⟩
      rw [ez.o,Bool.eq_iff_iff];simp [aM,dC.o,cV.o,hn];(try omega);(try simp_all)
    ·have jz:0<i.args.length:=by omega
     have cV:Θ (¬i.args.length=0):=dx
     clear dx
     go_wp2
     go_ret
     refine ⟨ag ?_,hg.o.trans G.o⟩
     rw [ez.o,Bool.eq_iff_iff];simp [aM,dC.o,cV.o];(try omega);(try simp_all)
   by_cases hop:i.op=19
   ·rw [hop] at a0
    have dC:Θ (i.op=19):=hop
    clear hop
    by_cases dx:i.args.length=0
    ·have cV:Θ (i.args.length=0):=dx
     by_cases hn:i.n=0
     ·have iA:Θ (i.n=0):=hn
      rw [hn] at a4
      clear hn
      go_wp2_with (first
       | (go_at_call 20;refine (aI _ _ _ _).mono ?_;rintro e w2 ⟨rfl,od⟩;rw [od];clear od w2)
       | (go_at_call 73;refine (aX m _ _ _ _ _ _ _ _ _ hlo eY).mono ?_;rintro e w2 ⟨rfl,eF⟩;replace G:Θ (Bl wr w2):=G.o.trans eF;obtain ⟨a0,a1,a2,a3,a4,a5⟩:=(HR.o.bl G.o).ri.lit;obtain ⟨m0,m1,m2,m3,m4,m5,m6,m7⟩:=(HR.o.bl G.o).rm.lit))
      all_goals
       go_ret
       refine ⟨ag ?_,hg.o.trans G.o⟩
       rw [ez.o,Bool.eq_iff_iff];simp [aM,dC.o,cV.o,iA.o];(try omega);(try simp_all)
     ·have ig:(i.n !=0)=true:=by simpa using hn
      go_wp2
      go_ret
      refine ⟨ag ?_,hg.o.trans G.o⟩
      rw [ez.o,Bool.eq_iff_iff];simp [aM,dC.o,cV.o,hn];(try omega);(try simp_all)
    ·have jz:0<i.args.length:=by omega
     have cV:Θ (¬i.args.length=0):=dx
     clear dx
     go_wp2
     go_ret
     refine ⟨ag ?_,hg.o.trans G.o⟩
     rw [ez.o,Bool.eq_iff_iff];simp [aM,dC.o,cV.o];(try omega);(try simp_all)
   by_cases hop:i.op=23
   ·rw [hop] at a0
    have dC:Θ (i.op=23):=hop
    clear hop
    by_cases dx:i.args.length=0
    ·have cV:Θ (i.args.length=0):=dx
     by_cases hn:i.n=0
     ·have iA:Θ (i.n=0):=hn
      rw [hn] at a4
      clear hn
      go_wp2_with (first
       | (go_at_call 20;refine (aI _ _ _ _).mono ?_;rintro e w2 ⟨rfl,od⟩;rw [od];clear od w2)
       | (go_at_call 73;refine (aX m _ _ _ _ _ _ _ _ _ hlo eY).mono ?_;rintro e w2 ⟨rfl,eF⟩;replace G:Θ (Bl wr w2):=G.o.trans eF;obtain ⟨a0,a1,a2,a3,a4,a5⟩:=(HR.o.bl G.o).ri.lit;obtain ⟨m0,m1,m2,m3,m4,m5,m6,m7⟩:=(HR.o.bl G.o).rm.lit))
      all_goals
       go_ret
       refine ⟨ag ?_,hg.o.trans G.o⟩
       rw [ez.o,Bool.eq_iff_iff];simp [aM,dC.o,cV.o,iA.o];(try omega);(try simp_all)
     ·have ig:(i.n !=0)=true:=by simpa using hn
      go_wp2
      go_ret
      refine ⟨ag ?_,hg.o.trans G.o⟩
      rw [ez.o,Bool.eq_iff_iff];simp [aM,dC.o,cV.o,hn];(try omega);(try simp_all)
    ·have jz:0<i.args.length:=by omega
     have cV:Θ (¬i.args.length=0):=dx
     clear dx
     go_wp2
     go_ret
     refine ⟨ag ?_,hg.o.trans G.o⟩
     rw [ez.o,Bool.eq_iff_iff];simp [aM,dC.o,cV.o];(try omega);(try simp_all)
   omega
theorem LV (x y z:Int) (i:In) (cs:List Cl) (ms:List Me) (A B:Option Addr) (a b:Nat) (m:Me) (P C K:Option Addr) (p c k:Nat) (Q:Option Addr) (q:Nat) (w:World) (mE:cs.length<=12) (wG:ms.length<=8) (eG:m.code.length<=maxLen) (hlo:1<=m.regs) (eY:m.regs<=90) (hA:bK w A cs) (hB:cz w B ms) (hQ:aU w Q i.args) (hk:aW i.op=some (x,y,z)) (Ey:i.op=14∨i.op=15) :
  χ 32 #[lr cs.length ms.length A B a b,sK m P C K p c k,inV i Q q] w fun e w'=>e=.returned (.bool (bU cs ms m.code.length m.regs m.ret.kind i))/\Bl w w':=by
 unfold maxLen at eG
 have rA:Θ (∀j,j<3->bp m.regs (three i.a i.b i.c j) (three x y z j)=false->bU cs ms m.code.length m.regs m.ret.kind i=false):=fun j hj=>ja hk hj
 have yl:Θ ((∀j,j<3->bp m.regs (three i.a i.b i.c j) (three x y z j)=true)->bU cs ms m.code.length m.regs m.ret.kind i=aM cs ms m.code.length m.regs m.ret.kind i):=ky hk
 have HA:Θ (bK w A cs):=hA
 have HB:Θ (cz w B ms):=hB
 have HQ:Θ (aU w Q i.args):=hQ
 have HR:Θ (mz (lY w cs.length ms.length A B a b m P C K p c k i Q q x y z) w.heap.size cs.length ms.length A B a b m P C K p c k i Q q x y z):=iu w cs.length ms.length A B a b m P C K p c k i Q q x y z
 have HK:Θ (aW i.op=some (x,y,z)):=hk
 clear hA hB hQ hk
 go_enter func32,ntmps32
 go_wp2_with (go_at_call 72;refine (gZ _ _ x y z HK.o).mono ?_;rintro e w' ⟨rfl,rfl⟩)
 go_loopw [10] (fun v wr=>∃j:Nat,j<=3/\v=ι j/\Θ (∀l,l<j->bp m.regs (three i.a i.b i.c l) (three x y z l)=true)/\Θ (Bl w wr)/\Θ (mz wr w.heap.size cs.length ms.length A B a b m P C K p c k i Q q x y z)) (fun v _=>3-(intOf v).toNat)
 case atStart=>exact ⟨0,by omega,rfl,fun l hl=>absurd hl (Nat.not_lt_zero _),((((((Bl.refl w).alloc _).alloc _).alloc _).alloc _).alloc _),HR⟩
 case round =>
  clear HR
  obtain ⟨j,hj,rfl,kZ,hg,HR⟩:=hrel
  by_cases ij:j<3
  ·have gk:=aj (HR.o.rk.at j ij)
   have gd:=aj (HR.o.rd.at j ij)
   have y0:=aj HR.o.rm.1
   have y1:=aj HR.o.rm.2.1
   have y2:=aj HR.o.rm.2.2.1
   have y3:=aj HR.o.rm.2.2.2.1
   have y4:=aj HR.o.rm.2.2.2.2.1
   have y5:=aj HR.o.rm.2.2.2.2.2.1
   have y6:=aj HR.o.rm.2.2.2.2.2.2.1
   have y7:=aj HR.o.rm.2.2.2.2.2.2.2
   have iA:Θ (bp m.regs (three i.a i.b i.c j) (three x y z j)=false->bU cs ms m.code.length m.regs m.ret.kind i=false):=rA.o j ij
   by_cases hz:three x y z j=0
   ·have jy:Θ (bp m.regs (three i.a i.b i.c j) (three x y z j)=decide (three i.a i.b i.c j=0)):=by unfold bp;rw [if_pos hz];rfl
    rw [hz] at gk
    have hreg:=hz
    clear hz
    by_cases hv:three i.a i.b i.c j=0
    ·have HY:Θ (bp m.regs (three i.a i.b i.c j) (three x y z j)=true):=jy.o.trans (decide_eq_true hv)
     rw [hv] at gd
     clear hv hreg
     have hreg:=ij
     go_wp2
     refine az (by kernel_rfl) (by kernel_rfl) fun hne=>?_
     repeat (go_big_quiet_step ((go_at_call 73;exact Calls.fut_eq _ (aX m _ _ _ _ _ _ _ _ _ hlo eY) (congrArg Value.bool hreg))))
     refine wpQuiet_nil ?_
     rintro _ ⟨⟨w2,bX⟩,rfl⟩
     go_wp2
     go_roundw
     case rel=>exact ⟨j+1,by omega,by go_num,fun l hl=>if h:l<j then kZ.o l h else by have:l=j:=(by omega);subst this;exact HY.o,hg.o.trans bX,HR.o.bl bX⟩
     case measure=>simp [intOf];omega
    ·have HN:Θ (bU cs ms m.code.length m.regs m.ret.kind i=false):=iA.o (jy.o.trans (decide_eq_false hv))
     have FK:(three i.a i.b i.c j !=0)=true:=by simpa using hv
     clear hv hreg
     have hreg:=ij
     go_wp2
     refine az (by kernel_rfl) (by kernel_rfl) fun hne=>?_
     repeat (go_big_quiet_step ((go_at_call 73;exact Calls.fut_eq _ (aX m _ _ _ _ _ _ _ _ _ hlo eY) (congrArg Value.bool hreg))))
     refine wpQuiet_nil ?_
     rintro _ ⟨⟨w2,bX⟩,rfl⟩
     go_wp2
     go_ret
     exact ⟨ag HN.o.symm,hg.o.trans bX⟩
   ·have JR:(three x y z j==0)=false:=by simpa using hz
    by_cases hp:0<three x y z j
    ·have qY:decide (0<three x y z j)=true:=decide_eq_true hp
     have jy:Θ (bp m.regs (three i.a i.b i.c j) (three x y z j)=dJ m.regs (three i.a i.b i.c j) (three x y z j)):=by unfold bp;rw [if_neg hz,if_pos hp];rfl
     cases hreg:dJ m.regs (three i.a i.b i.c j) (three x y z j)
     ·have HN:Θ (bU cs ms m.code.length m.regs m.ret.kind i=false):=iA.o (jy.o.trans hreg)
      go_wp2
      refine az (by kernel_rfl) (by kernel_rfl) fun hne=>?_
      repeat (go_big_quiet_step ((go_at_call 73;exact Calls.fut_eq _ (aX m _ _ _ _ _ _ _ _ _ hlo eY) (congrArg Value.bool hreg))))
      refine wpQuiet_nil ?_
      rintro _ ⟨⟨w2,bX⟩,rfl⟩
      go_wp2
      go_ret
      exact ⟨ag HN.o.symm,hg.o.trans bX⟩
     ·have HY:Θ (bp m.regs (three i.a i.b i.c j) (three x y z j)=true):=jy.o.trans hreg
      go_wp2
      refine az (by kernel_rfl) (by kernel_rfl) fun hne=>?_
      repeat (go_big_quiet_step ((go_at_call 73;exact Calls.fut_eq _ (aX m _ _ _ _ _ _ _ _ _ hlo eY) (congrArg Value.bool hreg))))
      refine wpQuiet_nil ?_
      rintro _ ⟨⟨w2,bX⟩,rfl⟩
      go_wp2
      go_roundw
      case rel=>exact ⟨j+1,by omega,by go_num,fun l hl=>if h:l<j then kZ.o l h else by have:l=j:=(by omega);subst this;exact HY.o,hg.o.trans bX,HR.o.bl bX⟩
      case measure=>simp [intOf];omega
    ·have qY:decide (0<three x y z j)=false:=decide_eq_false hp
     have HY:Θ (bp m.regs (three i.a i.b i.c j) (three x y z j)=true):=by unfold bp;rw [if_neg hz,if_neg hp];rfl
     have hreg:=hz
     go_wp2
     refine az (by kernel_rfl) (by kernel_rfl) fun hne=>?_
     repeat (go_big_quiet_step ((go_at_call 73;exact Calls.fut_eq _ (aX m _ _ _ _ _ _ _ _ _ hlo eY) (congrArg Value.bool hreg))))
     refine wpQuiet_nil ?_
     rintro _ ⟨⟨w2,bX⟩,rfl⟩
     go_wp2
     go_roundw
     case rel=>exact ⟨j+1,by omega,by go_num,fun l hl=>if h:l<j then kZ.o l h else by have:l=j:=(by omega);subst this;exact HY.o,hg.o.trans bX,HR.o.bl bX⟩
     case measure=>simp [intOf];omega
  ·obtain rfl:j=3:=by omega
   have ez:Θ (bU cs ms m.code.length m.regs m.ret.kind i=aM cs ms m.code.length m.regs m.ret.kind i):=yl.o kZ.o
   clear rA yl kZ hj ij
   obtain ⟨a0,a1,a2,a3,a4,a5⟩:=HR.o.ri.lit
   obtain ⟨m0,m1,m2,m3,m4,m5,m6,m7⟩:=HR.o.rm.lit
   obtain ⟨f0,f1⟩:=HR.o.rf.lit
   have G:Θ (Bl wr wr):=Bl.refl wr
   by_cases hop:i.op=14
   ·rw [hop] at a0
    have dC:Θ (i.op=14):=hop
    clear hop
    by_cases dx:i.args.length=0
    ·have cV:Θ (i.args.length=0):=dx
     have tT:bU cs ms m.code.length m.regs m.ret.kind i=(decide (0<=i.c/\i.c<cs.length/\0<=i.n/\i.n<(nth bL cs i.c.toNat).fields.length)&&dJ m.regs i.a (nth bS (nth bL cs i.c.toNat).fields i.n.toNat).kind):=ez.o.trans (by simp [aM,dC.o,cV.o])
     clear ez
     have z0:=aj a0
     have z1:=aj a1
     have z4:=aj a4
     have z5:=aj a5
     have zf:=aj f0
     by_cases hc:0<=i.c/\i.c<=(cs.length:Int)-1
     ·obtain ⟨u,hu⟩:∃u:Nat,i.c=u:=⟨i.c.toNat,by omega⟩
      have NP:u<cs.length:=by omega
      have dc:decide (0<=(u:Int)/\(u:Int)<=(cs.length:Int)-1)=true:=decide_eq_true (by omega)
      rw [hu] at a3 tT
      rw [Int.toNat_natCast] at tT
      clear hc
      have z3:=aj a3
      have hcl:=HA.o.bl hg.o
      rcases hcl.2 with h0|⟨b',iO,rfl,hcc⟩
      ·omega
      obtain ⟨-,-,A',c',k1,hty⟩:=hcc u NP
      have hfl:=hty.1
      unfold maxLen at hfl
      have zk:=aj k1
      have Fg:Θ (cX wr A' (nth bL cs u).fields):=hty
      have Bu:Θ (bU cs ms m.code.length m.regs m.ret.kind i=(decide (0<=(u:Int)/\(u:Int)<cs.length/\0<=i.n/\i.n<(nth bL cs u).fields.length)&&dJ m.regs i.a (nth bS (nth bL cs u).fields i.n.toNat).kind)):=tT
      have HU:Θ (i.c=u):=hu
      clear hcl hcc hty tT hu
      generalize hF:(nth bL cs u).fields=Fd at *
      clear hF
      by_cases n1:i.n<0
      ·have Rc:decide (i.n<0)=true:=decide_eq_true n1
       have sP:Θ (bU cs ms m.code.length m.regs m.ret.kind i=false):=Bu.o.trans (by rw [decide_eq_false (by omega)];rfl)
       go_wp2
       refine az (by kernel_rfl) (by kernel_rfl) fun hne=>?_
       repeat (go_big_quiet_step ((go_at_call 20;exact Calls.fut_same_eq _ (aI _ _ _ _) (congrArg Value.bool dc))))
       refine wpQuiet_nil ?_
       rintro _ ⟨⟨w2,bX⟩,rfl⟩
       go_wp2
       go_ret
       exact ⟨ag sP.o.symm,hg.o.trans bX⟩
      ·have Rc:decide (i.n<0)=false:=decide_eq_false n1
       by_cases n2:(Fd.length:Int)<=i.n
       ·have Rd:decide ((Fd.length:Int)<=i.n)=true:=decide_eq_true n2
        have sP:Θ (bU cs ms m.code.length m.regs m.ret.kind i=false):=Bu.o.trans (by rw [decide_eq_false (by omega)];rfl)
        go_wp2
        refine az (by kernel_rfl) (by kernel_rfl) fun hne=>?_
        repeat (go_big_quiet_step ((go_at_call 20;exact Calls.fut_same_eq _ (aI _ _ _ _) (congrArg Value.bool dc))))
        refine wpQuiet_nil ?_
        rintro _ ⟨⟨w2,bX⟩,rfl⟩
        go_wp2
        go_ret
        exact ⟨ag sP.o.symm,hg.o.trans bX⟩
       ·have Rd:decide ((Fd.length:Int)<=i.n)=false:=decide_eq_false n2
        obtain ⟨v,hv⟩:∃v:Nat,i.n=v:=⟨i.n.toNat,by omega⟩
        have UG:v<Fd.length:=by omega
        have HV:Θ (bU cs ms m.code.length m.regs m.ret.kind i=dJ m.regs i.a (nth bS Fd v).kind):=Bu.o.trans (by rw [decide_eq_true (by omega),hv,Int.toNat_natCast];rfl)
        rw [hv] at a4 z4 Rc Rd
        clear n1 n2 Bu
        have HN:Θ (i.n=v):=hv
        clear hv
        go_wp2
        refine az (by kernel_rfl) (by kernel_rfl) fun hne=>?_
        repeat (go_big_quiet_step ((go_at_call 20;exact Calls.fut_same_eq _ (aI _ _ _ _) (congrArg Value.bool dc))))
        refine wpQuiet_nil ?_
        rintro _ ⟨⟨w2,bX⟩,rfl⟩
        go_wp2
        clear hne z0 z1 z3 z4 z5 zf zk
        have R2:=HR.o.bl bX
        obtain ⟨e0,e1,e2,e3,e4,e5⟩:=R2.ri.lit
        obtain ⟨q0,q1,q2,q3,q4,q5,q6,q7⟩:=R2.rm.lit
        obtain ⟨p0,p1⟩:=R2.rf.lit
        rw [HU.o] at e3
        rw [HN.o] at e4
        have k2:=bX.cell k1
        rcases (Fg.o.bl bX).2 with h0|⟨bt,ot,rfl,htt⟩
        ·omega
        have t1:=(htt v UG).1
        have x1:=aj e1
        have x3:=aj e3
        have x4:=aj e4
        have y0:=aj q0
        have y1:=aj q1
        have y2:=aj q2
        have y3:=aj q3
        have y4:=aj q4
        have y5:=aj q5
        have y6:=aj q6
        have y7:=aj q7
        have xf:=aj p0
        have xk:=aj k2
        have xt:=aj t1
        clear R2 e0 e1 e2 e3 e4 e5 q0 q1 q2 q3 q4 q5 q6 q7 p0 p1 k2 t1 htt
        cases hreg:dJ m.regs i.a (nth bS Fd v).kind
        all_goals
         rw [hreg] at HV
         refine az (by kernel_rfl) (by kernel_rfl) fun hne=>?_
         repeat (go_big_quiet_step ((go_at_call 73;exact Calls.fut_eq _ (aX m _ _ _ _ _ _ _ _ _ hlo eY) (congrArg Value.bool hreg))))
         refine wpQuiet_nil ?_
         rintro _ ⟨⟨w3,sO⟩,rfl⟩
         go_wp2
         go_ret
         exact ⟨ag HV.o.symm,(hg.o.trans bX).trans sO⟩
     ·have dc:decide (0<=i.c/\i.c<=(cs.length:Int)-1)=false:=decide_eq_false hc
      have z3:=aj a3
      have sP:Θ (bU cs ms m.code.length m.regs m.ret.kind i=false):=tT.trans (by rw [decide_eq_false (by omega)];rfl)
      clear tT hc
      go_wp2
      refine az (by kernel_rfl) (by kernel_rfl) fun hne=>?_
      repeat (go_big_quiet_step ((go_at_call 20;exact Calls.fut_same_eq _ (aI _ _ _ _) (congrArg Value.bool dc))))
      refine wpQuiet_nil ?_
      rintro _ ⟨⟨w2,bX⟩,rfl⟩
      go_wp2
      go_ret
      exact ⟨ag sP.o.symm,hg.o.trans bX⟩
    ·have jz:0<i.args.length:=by omega
     have cV:Θ (¬i.args.length=0):=dx
     clear dx
     go_wp2
     go_ret
     refine ⟨ag ?_,hg.o.trans G.o⟩
     rw [ez.o,Bool.eq_iff_iff];simp [aM,dC.o,cV.o];(try omega);(try simp_all)
   by_cases hop:i.op=15
   ·rw [hop] at a0
    have dC:Θ (i.op=15):=hop
    clear hop
    by_cases dx:i.args.length=0
    ·have cV:Θ (i.args.length=0):=dx
     have tT:bU cs ms m.code.length m.regs m.ret.kind i=(decide (0<=i.c/\i.c<cs.length/\0<=i.n/\i.n<(nth bL cs i.c.toNat).fields.length)&&dJ m.regs i.a (nth bS (nth bL cs i.c.toNat).fields i.n.toNat).kind):=ez.o.trans (by simp [aM,dC.o,cV.o])
     clear ez
     have z0:=aj a0
     have z1:=aj a1
     have z4:=aj a4
     have z5:=aj a5
     have zf:=aj f0
     by_cases hc:0<=i.c/\i.c<=(cs.length:Int)-1
     ·obtain ⟨u,hu⟩:∃u:Nat,i.c=u:=⟨i.c.toNat,by omega⟩
      have NP:u<cs.length:=by omega
      have dc:decide (0<=(u:Int)/\(u:Int)<=(cs.length:Int)-1)=true:=decide_eq_true (by omega)
      rw [hu] at a3 tT
      rw [Int.toNat_natCast] at tT
      clear hc
      have z3:=aj a3
      have hcl:=HA.o.bl hg.o
      rcases hcl.2 with h0|⟨b',iO,rfl,hcc⟩
      ·omega
      obtain ⟨-,-,A',c',k1,hty⟩:=hcc u NP
      have hfl:=hty.1
      unfold maxLen at hfl
      have zk:=aj k1
      have Fg:Θ (cX wr A' (nth bL cs u).fields):=hty
      have Bu:Θ (bU cs ms m.code.length m.regs m.ret.kind i=(decide (0<=(u:Int)/\(u:Int)<cs.length/\0<=i.n/\i.n<(nth bL cs u).fields.length)&&dJ m.regs i.a (nth bS (nth bL cs u).fields i.n.toNat).kind)):=tT
      have HU:Θ (i.c=u):=hu
      clear hcl hcc hty tT hu
      generalize hF:(nth bL cs u).fields=Fd at *
      clear hF
      by_cases n1:i.n<0
      ·have Rc:decide (i.n<0)=true:=decide_eq_true n1
       have sP:Θ (bU cs ms m.code.length m.regs m.ret.kind i=false):=Bu.o.trans (by rw [decide_eq_false (by omega)];rfl)
       go_wp2
       refine az (by kernel_rfl) (by kernel_rfl) fun hne=>?_
       repeat (go_big_quiet_step ((go_at_call 20;exact Calls.fut_same_eq _ (aI _ _ _ _) (congrArg Value.bool dc))))
       refine wpQuiet_nil ?_
       rintro _ ⟨⟨w2,bX⟩,rfl⟩
       go_wp2
       go_ret
       exact ⟨ag sP.o.symm,hg.o.trans bX⟩
      ·have Rc:decide (i.n<0)=false:=decide_eq_false n1
       by_cases n2:(Fd.length:Int)<=i.n
       ·have Rd:decide ((Fd.length:Int)<=i.n)=true:=decide_eq_true n2
        have sP:Θ (bU cs ms m.code.length m.regs m.ret.kind i=false):=Bu.o.trans (by rw [decide_eq_false (by omega)];rfl)
        go_wp2
        refine az (by kernel_rfl) (by kernel_rfl) fun hne=>?_
        repeat (go_big_quiet_step ((go_at_call 20;exact Calls.fut_same_eq _ (aI _ _ _ _) (congrArg Value.bool dc))))
        refine wpQuiet_nil ?_
        rintro _ ⟨⟨w2,bX⟩,rfl⟩
        go_wp2
        go_ret
        exact ⟨ag sP.o.symm,hg.o.trans bX⟩
       ·have Rd:decide ((Fd.length:Int)<=i.n)=false:=decide_eq_false n2
        obtain ⟨v,hv⟩:∃v:Nat,i.n=v:=⟨i.n.toNat,by omega⟩
        have UG:v<Fd.length:=by omega
        have HV:Θ (bU cs ms m.code.length m.regs m.ret.kind i=dJ m.regs i.a (nth bS Fd v).kind):=Bu.o.trans (by rw [decide_eq_true (by omega),hv,Int.toNat_natCast];rfl)
        rw [hv] at a4 z4 Rc Rd
        clear n1 n2 Bu
        have HN:Θ (i.n=v):=hv
        clear hv
        go_wp2
        refine az (by kernel_rfl) (by kernel_rfl) fun hne=>?_
        repeat (go_big_quiet_step ((go_at_call 20;exact Calls.fut_same_eq _ (aI _ _ _ _) (congrArg Value.bool dc))))
        refine wpQuiet_nil ?_
        rintro _ ⟨⟨w2,bX⟩,rfl⟩
        go_wp2
        clear hne z0 z1 z3 z4 z5 zf zk
        have R2:=HR.o.bl bX
        obtain ⟨e0,e1,e2,e3,e4,e5⟩:=R2.ri.lit
        obtain ⟨q0,q1,q2,q3,q4,q5,q6,q7⟩:=R2.rm.lit
        obtain ⟨p0,p1⟩:=R2.rf.lit
        rw [HU.o] at e3
        rw [HN.o] at e4
        have k2:=bX.cell k1
        rcases (Fg.o.bl bX).2 with h0|⟨bt,ot,rfl,htt⟩
        ·omega
        have t1:=(htt v UG).1
        have x1:=aj e1
        have x3:=aj e3
        have x4:=aj e4
        have y0:=aj q0
        have y1:=aj q1
        have y2:=aj q2
        have y3:=aj q3
        have y4:=aj q4
        have y5:=aj q5
        have y6:=aj q6
        have y7:=aj q7
        have xf:=aj p0
        have xk:=aj k2
        have xt:=aj t1
        clear R2 e0 e1 e2 e3 e4 e5 q0 q1 q2 q3 q4 q5 q6 q7 p0 p1 k2 t1 htt
        cases hreg:dJ m.regs i.a (nth bS Fd v).kind
        all_goals
         rw [hreg] at HV
         refine az (by kernel_rfl) (by kernel_rfl) fun hne=>?_
         repeat (go_big_quiet_step ((go_at_call 73;exact Calls.fut_eq _ (aX m _ _ _ _ _ _ _ _ _ hlo eY) (congrArg Value.bool hreg))))
         refine wpQuiet_nil ?_
         rintro _ ⟨⟨w3,sO⟩,rfl⟩
         go_wp2
         go_ret
         exact ⟨ag HV.o.symm,(hg.o.trans bX).trans sO⟩
     ·have dc:decide (0<=i.c/\i.c<=(cs.length:Int)-1)=false:=decide_eq_false hc
      have z3:=aj a3
      have sP:Θ (bU cs ms m.code.length m.regs m.ret.kind i=false):=tT.trans (by rw [decide_eq_false (by omega)];rfl)
      clear tT hc
      go_wp2
      refine az (by kernel_rfl) (by kernel_rfl) fun hne=>?_
      repeat (go_big_quiet_step ((go_at_call 20;exact Calls.fut_same_eq _ (aI _ _ _ _) (congrArg Value.bool dc))))
      refine wpQuiet_nil ?_
      rintro _ ⟨⟨w2,bX⟩,rfl⟩
      go_wp2
      go_ret
      exact ⟨ag sP.o.symm,hg.o.trans bX⟩
    ·have jz:0<i.args.length:=by omega
     have cV:Θ (¬i.args.length=0):=dx
     clear dx
     go_wp2
     go_ret
     refine ⟨ag ?_,hg.o.trans G.o⟩
     rw [ez.o,Bool.eq_iff_iff];simp [aM,dC.o,cV.o];(try omega);(try simp_all)
   omega
theorem LW (x y z:Int) (i:In) (cs:List Cl) (ms:List Me) (A B:Option Addr) (a b:Nat) (m:Me) (P C K:Option Addr) (p c k:Nat) (Q:Option Addr) (q:Nat) (w:World) (mE:cs.length<=12) (wG:ms.length<=8) (eG:m.code.length<=maxLen) (hlo:1<=m.regs) (eY:m.regs<=90) (hA:bK w A cs) (hB:cz w B ms) (hQ:aU w Q i.args) (hk:aW i.op=some (x,y,z)) (Ey:Θ (i.op=18)) :
  χ 32 #[lr cs.length ms.length A B a b,sK m P C K p c k,inV i Q q] w fun e w'=>e=.returned (.bool (bU cs ms m.code.length m.regs m.ret.kind i))/\Bl w w':=by
 unfold maxLen at eG
 have rA:Θ (∀j,j<3->bp m.regs (three i.a i.b i.c j) (three x y z j)=false->bU cs ms m.code.length m.regs m.ret.kind i=false):=fun j hj=>ja hk hj
 have yl:Θ ((∀j,j<3->bp m.regs (three i.a i.b i.c j) (three x y z j)=true)->bU cs ms m.code.length m.regs m.ret.kind i=aM cs ms m.code.length m.regs m.ret.kind i):=ky hk
 have HA:Θ (bK w A cs):=hA
 have HB:Θ (cz w B ms):=hB
 have HQ:Θ (aU w Q i.args):=hQ
 have HR:Θ (mz (lY w cs.length ms.length A B a b m P C K p c k i Q q x y z) w.heap.size cs.length ms.length A B a b m P C K p c k i Q q x y z):=iu w cs.length ms.length A B a b m P C K p c k i Q q x y z
 have HK:Θ (aW i.op=some (x,y,z)):=hk
 clear hA hB hQ hk
 go_enter func32,ntmps32
 go_wp2_with (go_at_call 72;refine (gZ _ _ x y z HK.o).mono ?_;rintro e w' ⟨rfl,rfl⟩)
 go_loopw [10] (fun v wr=>∃j:Nat,j<=3/\v=ι j/\Θ (∀l,l<j->bp m.regs (three i.a i.b i.c l) (three x y z l)=true)/\Θ (Bl w wr)/\Θ (mz wr w.heap.size cs.length ms.length A B a b m P C K p c k i Q q x y z)) (fun v _=>3-(intOf v).toNat)
 case atStart=>exact ⟨0,by omega,rfl,fun l hl=>absurd hl (Nat.not_lt_zero _),((((((Bl.refl w).alloc _).alloc _).alloc _).alloc _).alloc _),HR⟩
 case round =>
  clear HR
  obtain ⟨j,hj,rfl,kZ,hg,HR⟩:=hrel
  obtain ⟨w0,gH⟩:∃w0,w0=wr:=⟨wr,rfl⟩
  subst gH
  by_cases ij:j<3
  ·have gk:=aj (HR.o.rk.at j ij)
   have gd:=aj (HR.o.rd.at j ij)
   have y0:=aj HR.o.rm.1
   have y1:=aj HR.o.rm.2.1
   have y2:=aj HR.o.rm.2.2.1
   have y3:=aj HR.o.rm.2.2.2.1
   have y4:=aj HR.o.rm.2.2.2.2.1
   have y5:=aj HR.o.rm.2.2.2.2.2.1
   have y6:=aj HR.o.rm.2.2.2.2.2.2.1
   have y7:=aj HR.o.rm.2.2.2.2.2.2.2
   have iA:Θ (bp m.regs (three i.a i.b i.c j) (three x y z j)=false->bU cs ms m.code.length m.regs m.ret.kind i=false):=rA.o j ij
   by_cases hz:three x y z j=0
   ·have jy:Θ (bp m.regs (three i.a i.b i.c j) (three x y z j)=decide (three i.a i.b i.c j=0)):=by unfold bp;rw [if_pos hz];rfl
    rw [hz] at gk
    have hreg:=hz
    clear hz
    by_cases hv:three i.a i.b i.c j=0
    ·have HY:Θ (bp m.regs (three i.a i.b i.c j) (three x y z j)=true):=jy.o.trans (decide_eq_true hv)
     rw [hv] at gd
     clear hv hreg
     have hreg:=ij
     go_wp2
     refine az (by kernel_rfl) (by kernel_rfl) fun hne=>?_
     repeat (go_big_quiet_step ((go_at_call 73;exact Calls.fut_eq _ (aX m _ _ _ _ _ _ _ _ _ hlo eY) (congrArg Value.bool hreg))))
     refine wpQuiet_nil ?_
     rintro _ ⟨⟨w2,bX⟩,rfl⟩
     go_wp2
     go_roundw
     case rel=>exact ⟨j+1,by omega,by go_num,fun l hl=>if h:l<j then kZ.o l h else by have:l=j:=(by omega);subst this;exact HY.o,hg.o.trans bX,HR.o.bl bX⟩
     case measure=>simp [intOf];omega
    ·have HN:Θ (bU cs ms m.code.length m.regs m.ret.kind i=false):=iA.o (jy.o.trans (decide_eq_false hv))
     have FK:(three i.a i.b i.c j !=0)=true:=by simpa using hv
     clear hv hreg
     have hreg:=ij
     go_wp2
     refine az (by kernel_rfl) (by kernel_rfl) fun hne=>?_
     repeat (go_big_quiet_step ((go_at_call 73;exact Calls.fut_eq _ (aX m _ _ _ _ _ _ _ _ _ hlo eY) (congrArg Value.bool hreg))))
     refine wpQuiet_nil ?_
     rintro _ ⟨⟨w2,bX⟩,rfl⟩
     go_wp2
     go_ret
     exact ⟨ag HN.o.symm,hg.o.trans bX⟩
   ·have JR:(three x y z j==0)=false:=by simpa using hz
    by_cases hp:0<three x y z j
    ·have qY:decide (0<three x y z j)=true:=decide_eq_true hp
     have jy:Θ (bp m.regs (three i.a i.b i.c j) (three x y z j)=dJ m.regs (three i.a i.b i.c j) (three x y z j)):=by unfold bp;rw [if_neg hz,if_pos hp];rfl
     cases hreg:dJ m.regs (three i.a i.b i.c j) (three x y z j)
     ·have HN:Θ (bU cs ms m.code.length m.regs m.ret.kind i=false):=iA.o (jy.o.trans hreg)
      go_wp2
      refine az (by kernel_rfl) (by kernel_rfl) fun hne=>?_
      repeat (go_big_quiet_step ((go_at_call 73;exact Calls.fut_eq _ (aX m _ _ _ _ _ _ _ _ _ hlo eY) (congrArg Value.bool hreg))))
      refine wpQuiet_nil ?_
      rintro _ ⟨⟨w2,bX⟩,rfl⟩
      go_wp2
      go_ret
      exact ⟨ag HN.o.symm,hg.o.trans bX⟩
     ·have HY:Θ (bp m.regs (three i.a i.b i.c j) (three x y z j)=true):=jy.o.trans hreg
      go_wp2
      refine az (by kernel_rfl) (by kernel_rfl) fun hne=>?_
      repeat (go_big_quiet_step ((go_at_call 73;exact Calls.fut_eq _ (aX m _ _ _ _ _ _ _ _ _ hlo eY) (congrArg Value.bool hreg))))
      refine wpQuiet_nil ?_
      rintro _ ⟨⟨w2,bX⟩,rfl⟩
      go_wp2
      go_roundw
      case rel=>exact ⟨j+1,by omega,by go_num,fun l hl=>if h:l<j then kZ.o l h else by have:l=j:=(by omega);subst this;exact HY.o,hg.o.trans bX,HR.o.bl bX⟩
      case measure=>simp [intOf];omega
    ·have qY:decide (0<three x y z j)=false:=decide_eq_false hp
     have HY:Θ (bp m.regs (three i.a i.b i.c j) (three x y z j)=true):=by unfold bp;rw [if_neg hz,if_neg hp];rfl
     have hreg:=hz
     go_wp2
     refine az (by kernel_rfl) (by kernel_rfl) fun hne=>?_
     repeat (go_big_quiet_step ((go_at_call 73;exact Calls.fut_eq _ (aX m _ _ _ _ _ _ _ _ _ hlo eY) (congrArg Value.bool hreg))))
     refine wpQuiet_nil ?_
     rintro _ ⟨⟨w2,bX⟩,rfl⟩
     go_wp2
     go_roundw
     case rel=>exact ⟨j+1,by omega,by go_num,fun l hl=>if h:l<j then kZ.o l h else by have:l=j:=(by omega);subst this;exact HY.o,hg.o.trans bX,HR.o.bl bX⟩
     case measure=>simp [intOf];omega
  ·obtain rfl:j=3:=by omega
   have ez:Θ (bU cs ms m.code.length m.regs m.ret.kind i=aM cs ms m.code.length m.regs m.ret.kind i):=yl.o kZ.o
   clear rA yl kZ hj ij
   obtain ⟨a0,a1,a2,a3,a4,a5⟩:=HR.o.ri.lit
   obtain ⟨m0,m1,m2,m3,m4,m5,m6,m7⟩:=HR.o.rm.lit
   obtain ⟨f0,f1⟩:=HR.o.rf.lit
   have G:Θ (Bl w0 w0):=Bl.refl w0
   by_cases hop:i.op=18
   ·rw [hop] at a0
    have dC:Θ (i.op=18):=hop
    clear hop
    by_cases hn:i.n=0
    ·rw [hn] at a4
     have tT:bU cs ms m.code.length m.regs m.ret.kind i=(decide (0<=i.a/\i.a<ms.length/\i.args.length=(nth bT ms i.a.toNat).params.length)&&(List.range i.args.length).all (fun k=>dJ m.regs (nth (0:Int) i.args k) (nth bS (nth bT ms i.a.toNat).params k).kind)):=ez.o.trans (by simp [aM,dC.o,hn])
     clear ez hn
     have z0:=aj a0
     have z5:=aj a5
     have zf:=aj f1
     by_cases ha:0<=i.a/\i.a<=(ms.length:Int)-1
     ·obtain ⟨u,hu⟩:∃u:Nat,i.a=u:=⟨i.a.toNat,by omega⟩
      have NP:u<ms.length:=by omega
      have da:decide (0<=(u:Int)/\(u:Int)<=(ms.length:Int)-1)=true:=decide_eq_true (by omega)
      rw [hu] at a1 tT
      rw [Int.toNat_natCast] at tT
      clear ha
      have z1:=aj a1
      have hcl:=HB.o.bl hg.o
      rcases hcl.2 with h0|⟨b',iO,rfl,hcc⟩
      ·omega
      obtain ⟨P',C',K',p',c',k',k1,-,-,-,-,-,-,-,hme⟩:=hcc u NP
      have hty:=hme.1
      have hfl:=hty.1
      have dI:=HQ.o.1
      unfold maxLen at hfl dI
      have zk:=aj k1
      have Fg:Θ (cX w0 P' (nth bT ms u).params):=hty
      have Bu:Θ (bU cs ms m.code.length m.regs m.ret.kind i=(decide (0<=(u:Int)/\(u:Int)<ms.length/\i.args.length=(nth bT ms u).params.length)&&(List.range i.args.length).all (fun k=>dJ m.regs (nth (0:Int) i.args k) (nth bS (nth bT ms u).params k).kind))):=tT
      have HU:Θ (i.a=u):=hu
      clear hcl hcc hty hme tT hu
      generalize hF:(nth bT ms u).params=Fd at *
      clear hF
      by_cases hl:i.args.length=Fd.length
      ·have HL:Θ (i.args.length=Fd.length):=hl
       have KX:Θ (bU cs ms m.code.length m.regs m.ret.kind i=(List.range i.args.length).all (fun k=>dJ m.regs (nth (0:Int) i.args k) (nth bS Fd k).kind)):=Bu.o.trans (by rw [decide_eq_true ⟨by omega,by omega,hl⟩];rfl)
       have E0:((i.args.length:Int) !=(Fd.length:Int))=false:=by rw [hl];simp
       clear hl Bu
       go_wp2
       refine az (by kernel_rfl) (by kernel_rfl) fun hne=>?_
       repeat (go_big_quiet_step ((go_at_call 20;exact Calls.fut_same_eq _ (aI _ _ _ _) (congrArg Value.bool da))))
       refine wpQuiet_nil ?_
       rintro _ ⟨⟨w2,bX⟩,rfl⟩
       go_wp2
       clear hne z0 z1 z5 zf zk
       go_loopw [13] (fun v Re=>∃j:Nat,j<=i.args.length/\v=ι j/\Θ (∀l,l<j->dJ m.regs (nth (0:Int) i.args l) (nth bS Fd l).kind=true)/\Θ (Bl w0 Re)) (fun v _=>i.args.length-(intOf v).toNat)
       case atStart=>exact ⟨0,Nat.zero_le _,rfl,fun l hl=>absurd hl (Nat.not_lt_zero _),bX⟩
       case round =>
        obtain ⟨j,hj,rfl,kZ,eF⟩:=hrel
        have R2:=HR.o.bl eF.o
        obtain ⟨e0,e1,e2,e3,e4,e5⟩:=R2.ri.lit
        by_cases ij:j<i.args.length
        ·obtain ⟨q0,q1,q2,q3,q4,q5,q6,q7⟩:=R2.rm.lit
         obtain ⟨p0,p1⟩:=R2.rf.lit
         rw [HU.o] at e1
         have k2:=eF.o.cell k1
         have SW:=HL.o
         rcases (Fg.o.bl eF.o).2 with h0|⟨bt,ot,rfl,htt⟩
         ·omega
         have t1:=(htt j (by omega)).1
         rcases (HQ.o.bl (hg.o.trans eF.o)).2 with h0|⟨bq,oq,rfl,hqq⟩
         ·omega
         have t2:=(hqq j ij).1
         have hjf:j<Fd.length:=by omega
         clear SW
         have x1:=aj e1
         have x5:=aj e5
         have y0:=aj q0
         have y1:=aj q1
         have y2:=aj q2
         have y3:=aj q3
         have y4:=aj q4
         have y5:=aj q5
         have y6:=aj q6
         have y7:=aj q7
         have xf:=aj p1
         have xk:=aj k2
         have xt:=aj t1
         have xq:=aj t2
         clear R2 e0 e1 e2 e3 e4 q0 q1 q2 q3 q4 q5 q6 q7 p0 p1 k2 t1 t2 htt hqq
         cases hreg:dJ m.regs (nth (0:Int) i.args j) (nth bS Fd j).kind
         ·have sP:Θ (bU cs ms m.code.length m.regs m.ret.kind i=false):=KX.o.trans (List.all_eq_false.2 ⟨j,by simpa using ij,by rw [hreg];decide⟩)
          go_wp2
          refine az (by kernel_rfl) (by kernel_rfl) fun hne=>?_
          repeat (go_big_quiet_step ((go_at_call 73;exact Calls.fut_eq _ (aX m _ _ _ _ _ _ _ _ _ hlo eY) (congrArg Value.bool hreg))))
          refine wpQuiet_nil ?_
          rintro _ ⟨⟨w3,sO⟩,rfl⟩
          go_wp2
          go_ret
          exact ⟨ag sP.o.symm,(hg.o.trans eF.o).trans sO⟩
         ·have HY:Θ (dJ m.regs (nth (0:Int) i.args j) (nth bS Fd j).kind=true):=hreg
          go_wp2
          refine az (by kernel_rfl) (by kernel_rfl) fun hne=>?_
          repeat (go_big_quiet_step ((go_at_call 73;exact Calls.fut_eq _ (aX m _ _ _ _ _ _ _ _ _ hlo eY) (congrArg Value.bool hreg))))
          refine wpQuiet_nil ?_
          rintro _ ⟨⟨w3,sO⟩,rfl⟩
          go_wp2
          go_roundw
          case rel=>exact ⟨j+1,by omega,by go_num,fun l hl=>if h:l<j then kZ.o l h else by have:l=j:=(by omega);subst this;exact HY.o,eF.o.trans sO⟩
          case measure=>simp [intOf];omega
        ·obtain rfl:j=i.args.length:=by omega
         have sP:Θ (bU cs ms m.code.length m.regs m.ret.kind i=true):=KX.o.trans (List.all_eq_true.2 fun l hl=>kZ.o l (by simpa using hl))
         go_wp2
         go_ret
         exact ⟨ag sP.o.symm,hg.o.trans eF.o⟩
      ·have sP:Θ (bU cs ms m.code.length m.regs m.ret.kind i=false):=Bu.o.trans (by rw [decide_eq_false (by omega)];rfl)
       have E0:((i.args.length:Int) !=(Fd.length:Int))=true:=by simp;omega
       clear Bu
       go_wp2
       refine az (by kernel_rfl) (by kernel_rfl) fun hne=>?_
       repeat (go_big_quiet_step ((go_at_call 20;exact Calls.fut_same_eq _ (aI _ _ _ _) (congrArg Value.bool da))))
       refine wpQuiet_nil ?_
       rintro _ ⟨⟨w2,bX⟩,rfl⟩
       go_wp2
       go_ret
       exact ⟨ag sP.o.symm,hg.o.trans bX⟩
     ·have da:decide (0<=i.a/\i.a<=(ms.length:Int)-1)=false:=decide_eq_false ha
      have z1:=aj a1
      have sP:Θ (bU cs ms m.code.length m.regs m.ret.kind i=false):=tT.trans (by rw [decide_eq_false (by omega)];rfl)
      clear tT ha
      go_wp2
      refine az (by kernel_rfl) (by kernel_rfl) fun hne=>?_
      repeat (go_big_quiet_step ((go_at_call 20;exact Calls.fut_same_eq _ (aI _ _ _ _) (congrArg Value.bool da))))
      refine wpQuiet_nil ?_
      rintro _ ⟨⟨w2,bX⟩,rfl⟩
      go_wp2
      go_ret
      exact ⟨ag sP.o.symm,hg.o.trans bX⟩
    ·have ig:(i.n !=0)=true:=by simpa using hn
     go_wp2
     go_ret
     refine ⟨ag ?_,hg.o.trans G.o⟩
     rw [ez.o,Bool.eq_iff_iff];simp [aM,dC.o,hn]
   exact absurd Ey.o hop
theorem AH {op x y z:Int} (h:aW op=some (x,y,z)):1<=op/\op<=24:=by
 refine Decidable.byContradiction fun hc=>?_
 have hk:aW op=none:=by
  unfold aW
  rw [if_neg (by omega),if_neg (by omega),if_neg (by omega),if_neg (by omega),if_neg (by omega),if_neg (by omega),if_neg (by omega),if_neg (by omega),if_neg (by omega),if_neg (by omega),if_neg (by omega),if_neg (by omega),if_neg (by omega),if_neg (by omega),if_neg (by omega),if_neg (by omega),if_neg (by omega),if_neg (by omega),if_neg (by omega),if_neg (by omega),if_neg (by omega),if_neg (by omega),if_neg (by omega),if_neg (by omega)]
 rw [hk] at h
 cases h
theorem tU (i:In) (cs:List Cl) (ms:List Me) (A B:Option Addr) (a b:Nat) (m:Me) (P C K:Option Addr) (p c k:Nat) (Q:Option Addr) (q:Nat) (w:World) (mE:cs.length<=12) (wG:ms.length<=8) (eG:m.code.length<=maxLen) (hlo:1<=m.regs) (eY:m.regs<=90) (hA:bK w A cs) (hB:cz w B ms) (hQ:aU w Q i.args) :
  χ 32 #[lr cs.length ms.length A B a b,sK m P C K p c k,inV i Q q] w fun e w'=>e=.returned (.bool (bU cs ms m.code.length m.regs m.ret.kind i))/\Bl w w':=by
 cases hk:aW i.op with
 | none =>
  unfold maxLen at eG
  have hb:bU cs ms m.code.length m.regs m.ret.kind i=false:=by unfold bU;rw [hk]
  rw [hb]
  have O9:=AG hk
  clear hb hk hA hB hQ
  go_enter func32,ntmps32
  go_wp2_with (go_at_call 72;refine (yk _ _ O9).mono ?_;rintro e w' ⟨rfl,rfl⟩)
  go_ret
  exact ⟨rfl,(((Bl.refl _).alloc _).alloc _).alloc _⟩
 | some Zr =>
  obtain ⟨x,y,z⟩:=Zr
  have O9:=AH hk
  by_cases gA:i.op=1∨i.op=2∨i.op=3∨i.op=5∨i.op=6∨i.op=7
  ·exact LQ x y z i cs ms A B a b m P C K p c k Q q w mE wG eG hlo eY hA hB hQ hk gA
  by_cases gB:i.op=8∨i.op=9∨i.op=21∨i.op=22∨i.op=24∨i.op=10∨i.op=12
  ·exact LR x y z i cs ms A B a b m P C K p c k Q q w mE wG eG hlo eY hA hB hQ hk gB
  by_cases gC:i.op=11∨i.op=13∨i.op=16∨i.op=17∨i.op=20
  ·exact LS x y z i cs ms A B a b m P C K p c k Q q w mE wG eG hlo eY hA hB hQ hk gC
  by_cases gD:i.op=4∨i.op=19∨i.op=23
  ·exact LU x y z i cs ms A B a b m P C K p c k Q q w mE wG eG hlo eY hA hB hQ hk gD
  by_cases gE:i.op=14∨i.op=15
  ·exact LV x y z i cs ms A B a b m P C K p c k Q q w mE wG eG hlo eY hA hB hQ hk gE
  by_cases gF:i.op=18
  ·exact LW x y z i cs ms A B a b m P C K p c k Q q w mE wG eG hlo eY hA hB hQ hk gF
  omega
section
variable {cs:List Cl} {ms:List Me} {m:Me}
theorem IP (h:dS cs.length m 2400=false):fG cs ms m=false:=by unfold fG;rw [h];rfl
theorem og (h:¬(m.stack=0/\m.locs=0/\1<=m.regs/\m.regs<=90/\(cj m.params:Int)<=m.regs)):fG cs ms m=false:=by
 unfold fG;rw [decide_eq_false h,Bool.and_false];rfl
theorem LX {q:Nat} (hq:q<m.code.length) (h:bU cs ms m.code.length m.regs m.ret.kind (nth eR m.code q)=false):fG cs ms m=false:=by
 unfold fG;rw [jA hq h,Bool.and_false]
theorem IQ (h0:dS cs.length m 2400=true) (h:m.stack=0/\m.locs=0/\1<=m.regs/\m.regs<=90/\(cj m.params:Int)<=m.regs) (hi:∀q,q<m.code.length->bU cs ms m.code.length m.regs m.ret.kind (nth eR m.code q)=true):fG cs ms m=true:=by
 unfold fG;rw [h0,decide_eq_true h,iq hi];rfl
end
theorem Ez (h:dt f.classes=false):bJ f=false:=by unfold bJ;rw [h];rfl
theorem AJ (h:¬(1<=f.methods.length/\f.methods.length<=8)):bJ f=false:=by unfold bJ;rw [decide_eq_false h,Bool.and_false];rfl
theorem IU {q:Nat} (hq:q<f.methods.length) (h:fG f.classes f.methods (nth bT f.methods q)=false):bJ f=false:=by
 unfold bJ;rw [jA hq h,Bool.and_false]
theorem AK (h0:dt f.classes=true) (h:1<=f.methods.length/\f.methods.length<=8) (hi:∀q,q<f.methods.length->fG f.classes f.methods (nth bT f.methods q)=true):bJ f=true:=by
 unfold bJ;rw [h0,decide_eq_true h,iq hi];rfl
theorem EA (f:Fi) (A B:Option Addr) (a b:Nat) (w:World) (hA:bK w A f.classes) (hB:cz w B f.methods) :
  χ 14 #[lr f.classes.length f.methods.length A B a b] w fun e w'=>e=.returned (.bool (bJ f))/\Bl w w':=by
 have HA:Θ (bK w A f.classes):=hA
 have HB:Θ (cz w B f.methods):=hB
 have JJ:=hA.1
 have iL:=hB.1
 unfold maxLen at JJ iL
 clear hA hB
 have HF:Θ (fK (w.alloc (.cells #[.slice A f.classes.length a,.slice B f.methods.length b] 25)) w.heap.size 0 f.classes.length f.methods.length A B a b):=⟨ai rfl,ai rfl⟩
 have HW:Θ (Bl w (w.alloc (.cells #[.slice A f.classes.length a,.slice B f.methods.length b] 25))):=(Bl.refl w).alloc _
 cases hm:dt f.classes
 ·have hb:=Ez hm
  rw [hb]
  go_enter func14,ntmps14
  go_wp2_with (go_at_call 19;refine (qH _ _ _ _ (HA.o.bl HW.o)).mono ?_;rintro e w1 ⟨he,g1⟩;rw [hm] at he;subst he)
  go_ret
  exact ⟨rfl,HW.o.trans g1⟩
 by_cases hn:1<=(f.methods.length:Int)/\(f.methods.length:Int)<=8
 ·have dn:decide (1<=(f.methods.length:Int)/\(f.methods.length:Int)<=8)=true:=decide_eq_true hn
  have HG:Θ ((∀q,q<f.methods.length->fG f.classes f.methods (nth bT f.methods q)=true)->bJ f=true):=AK hm (by omega)
  have mE:=(qD hm).2.2
  go_enter func14,ntmps14
  go_wp2_with (first
   | (go_at_call 19;refine (qH _ _ _ _ (HA.o.bl HW.o)).mono ?_;rintro e w1 ⟨he,g1⟩;rw [hm] at he;subst he;have q1:=(HF.o.bl g1).2;simp only [Nat.zero_add] at q1)
   | (go_at_call 20;refine (aI _ _ _ _).mono ?_;rintro e w2 ⟨he,rfl⟩;rw [dn] at he;subst he))
  go_loopw [3] (fun i wr=>∃k:Nat,k<=f.methods.length/\i=ι k/\Θ (∀j,j<k->fG f.classes f.methods (nth bT f.methods j)=true)/\Θ (Bl w wr)/\Θ (fK wr w.heap.size 0 f.classes.length f.methods.length A B a b)) (fun i _=>f.methods.length-(intOf i).toNat)
  case atStart=>exact ⟨0,Nat.zero_le _,rfl,fun j hj=>absurd hj (Nat.not_lt_zero _),HW.o.trans g1,HF.o.bl g1⟩
  case round =>
   clear HF HW q1 g1 hm
   obtain ⟨k,hk,rfl,Ra,hg,HF⟩:=hrel
   rename World=>w0
   have E2:=HF.o.2
   simp only [Nat.zero_add] at E2
   by_cases LO:k<f.methods.length
   ·have Eg:=HB.o.bl hg.o
    rcases Eg.2 with h0|⟨b',iO,rfl,hcell⟩
    ·omega
    obtain ⟨P,C,K,p,c,kk,c0,c1,c2,c3,c4,c5,c6,c7,hme⟩:=hcell k LO
    have jP:Θ (fG f.classes f.methods (nth bT f.methods k)=false->bJ f=false):=IU LO
    generalize hM:nth bT f.methods k=m at *
    have HM:Θ (nth bT f.methods k=m):=hM
    have hcl:=hme.2.1.1
    have JN:=hme.1.1
    clear Eg hcell hM
    have bm:jF (w0.alloc (.cells #[.slice P m.params.length p,ι m.ret.kind,ι m.ret.cls,ι m.stack,ι m.locs,ι m.regs,.slice C m.code.length c,.slice K m.hands.length kk] 49)) w0.heap.size 0 m P C K p c kk:=⟨ai rfl,ai rfl,ai rfl,ai rfl,ai rfl,ai rfl,ai rfl,ai rfl⟩
    have hal:Bl w0 (w0.alloc (.cells #[.slice P m.params.length p,ι m.ret.kind,ι m.ret.cls,ι m.stack,ι m.locs,ι m.regs,.slice C m.code.length c,.slice K m.hands.length kk] 49)):=(Bl.refl w0).alloc _
    have bf:=HF.o.bl hal
    have XP:Θ (∀x:pA (w0.alloc (.cells #[.slice P m.params.length p,ι m.ret.kind,ι m.ret.cls,ι m.stack,ι m.locs,ι m.regs,.slice C m.code.length c,.slice K m.hands.length kk] 49)),cX x.to P m.params):=fun x=>hme.1.bl (hal.trans x.is)
    have XK:Θ (∀x:pA (w0.alloc (.cells #[.slice P m.params.length p,ι m.ret.kind,ι m.ret.cls,ι m.stack,ι m.locs,ι m.regs,.slice C m.code.length c,.slice K m.hands.length kk] 49)),kR x.to K m.hands):=fun x=>hme.2.2.1.bl (hal.trans x.is)
    have HC:Θ (pn w0 C m.code):=hme.2.1
    have bM:Θ (Bl w0 (w0.alloc (.cells #[.slice P m.params.length p,ι m.ret.kind,ι m.ret.cls,ι m.stack,ι m.locs,ι m.regs,.slice C m.code.length c,.slice K m.hands.length kk] 49))):=hal
    have EB:Θ (jF (w0.alloc (.cells #[.slice P m.params.length p,ι m.ret.kind,ι m.ret.cls,ι m.stack,ι m.locs,ι m.regs,.slice C m.code.length c,.slice K m.hands.length kk] 49)) w0.heap.size 0 m P C K p c kk):=bm
    have Pb:Θ (fK (w0.alloc (.cells #[.slice P m.params.length p,ι m.ret.kind,ι m.ret.cls,ι m.stack,ι m.locs,ι m.regs,.slice C m.code.length c,.slice K m.hands.length kk] 49)) w.heap.size 0 f.classes.length f.methods.length (A) (some ⟨b',iO,none⟩) a b):=bf
    have x0:=aj bf.1
    have x1:=aj bf.2
    have y0:=aj bm.1
    have y1:=aj bm.2.1
    have y2:=aj bm.2.2.1
    have y3:=aj bm.2.2.2.1
    have y4:=aj bm.2.2.2.2.1
    have y5:=aj bm.2.2.2.2.2.1
    have y6:=aj bm.2.2.2.2.2.2.1
    have y7:=aj bm.2.2.2.2.2.2.2
    clear bm bf hal hme HF
    cases hh:dS f.classes.length m 2400
    ·have HN:Θ (bJ f=false):=jP.o (IP hh)
     have ds:=hh
     go_wp2
     refine az (by kernel_rfl) (by kernel_rfl) fun hne=>?_
     repeat (go_big_quiet_step (first
      | (go_at_call 21;exact Calls.fut_eq _ (iX _ _ _ _ _ _ m _ _ _ _ _ _ _ _ (XP.o _) (XK.o _) mE hcl) (congrArg Value.bool hh))
      | (go_at_call 22;exact Calls.fut_same _ (gO _ _ _ _ (XP.o _) (by omega)))
      | (go_at_call 20;exact Calls.fut_same_eq _ (aI _ _ _ _) (congrArg Value.bool ds))))
     refine wpQuiet_nil ?_
     rintro _ ⟨⟨w2,bX⟩,rfl⟩
     go_wp2
     go_ret
     exact ⟨ag HN.o.symm,(hg.o.trans bM.o).trans bX⟩
    ·have Zs:=Eb hh
     by_cases hr:m.stack=0
     ·have SU:(m.stack !=0)=false:=by simpa using hr
      have HR:Θ (m.stack=0):=hr
      clear hr
      by_cases nM:m.locs=0
      ·have UH:(m.locs !=0)=false:=by simpa using nM
       have pU:Θ (m.locs=0):=nM
       clear nM
       by_cases hs:1<=m.regs/\m.regs<=90
       ·have ds:decide (1<=m.regs/\m.regs<=90)=true:=decide_eq_true hs
        by_cases hl:m.regs<(cj m.params:Int)
        ·have dl:decide (m.regs<(cj m.params:Int))=true:=decide_eq_true hl
         have HN:Θ (bJ f=false):=jP.o (og (by omega))
         go_wp2
         refine az (by kernel_rfl) (by kernel_rfl) fun hne=>?_
         repeat (go_big_quiet_step (first
          | (go_at_call 21;exact Calls.fut_eq _ (iX _ _ _ _ _ _ m _ _ _ _ _ _ _ _ (XP.o _) (XK.o _) mE hcl) (congrArg Value.bool hh))
          | (go_at_call 22;exact Calls.fut_same _ (gO _ _ _ _ (XP.o _) (by omega)))
          | (go_at_call 20;exact Calls.fut_same_eq _ (aI _ _ _ _) (congrArg Value.bool ds))))
         refine wpQuiet_nil ?_
         rintro _ ⟨⟨w2,bX⟩,rfl⟩
         go_wp2
         go_ret
         exact ⟨ag HN.o.symm,(hg.o.trans bM.o).trans bX⟩
        ·have dl:decide (m.regs<(cj m.params:Int))=false:=decide_eq_false hl
         have Zt:Θ ((∀q,q<m.code.length->bU f.classes f.methods m.code.length m.regs m.ret.kind (nth eR m.code q)=true)->fG f.classes f.methods m=true):=IQ hh ⟨HR.o,pU.o,by omega⟩
         go_wp2
         refine az (by kernel_rfl) (by kernel_rfl) fun hne=>?_
         repeat (go_big_quiet_step (first
          | (go_at_call 21;exact Calls.fut_eq _ (iX _ _ _ _ _ _ m _ _ _ _ _ _ _ _ (XP.o _) (XK.o _) mE hcl) (congrArg Value.bool hh))
          | (go_at_call 22;exact Calls.fut_same _ (gO _ _ _ _ (XP.o _) (by omega)))
          | (go_at_call 20;exact Calls.fut_same_eq _ (aI _ _ _ _) (congrArg Value.bool ds))))
         refine wpQuiet_nil ?_
         rintro _ ⟨⟨w2,bX⟩,rfl⟩
         go_wp2
         clear x0 x1 y0 y1 y2 y3 y4 y5 y6 y7 hne
         go_loopw [5] (fun i Re=>∃q:Nat,q<=m.code.length/\i=ι q/\Θ (∀j,j<q->bU f.classes f.methods m.code.length m.regs m.ret.kind (nth eR m.code j)=true)/\Θ (Bl w0 Re)/\Θ (fK Re w.heap.size 0 f.classes.length f.methods.length A (some ⟨b',iO,none⟩) a b)/\Θ (jF Re w0.heap.size 0 m P C K p c kk)) (fun i _=>m.code.length-(intOf i).toNat)
         case atStart=>exact ⟨0,Nat.zero_le _,rfl,fun j hj=>absurd hj (Nat.not_lt_zero _),bM.o.trans bX,Pb.o.bl bX,EB.o.bl bX⟩
         case round =>
          clear Pb EB bM bX XP XK
          obtain ⟨q,hq,rfl,lq,eF,Pb,EB⟩:=hrel
          have Sg:=EB.o.2.2.2.2.2.2.1
          simp only [Nat.zero_add] at Sg
          by_cases dI:q<m.code.length
          ·have hic:=HC.o.bl eF.o
           rcases hic.2 with h0|⟨b2,UA,rfl,hcell⟩
           ·omega
           obtain ⟨c0,c1,c2,c3,c4,-,A',ca,c5,JM⟩:=hcell q dI
           have Zv:Θ (bU f.classes f.methods m.code.length m.regs m.ret.kind (nth eR m.code q)=false->bJ f=false):=fun h=>jP.o (LX dI h)
           generalize hX:nth eR m.code q=X at *
           have HX:Θ (nth eR m.code q=X):=hX
           clear hic hcell hX
           have x0:=aj Pb.o.1
           have x1:=aj Pb.o.2
           have y0:=aj EB.o.1
           have y1:=aj EB.o.2.1
           have y2:=aj EB.o.2.2.1
           have y3:=aj EB.o.2.2.2.1
           have y4:=aj EB.o.2.2.2.2.1
           have y5:=aj EB.o.2.2.2.2.2.1
           have y6:=aj EB.o.2.2.2.2.2.2.1
           have y7:=aj EB.o.2.2.2.2.2.2.2
           have z0:=aj c0
           have z1:=aj c1
           have z2:=aj c2
           have z3:=aj c3
           have z4:=aj c4
           have z5:=aj c5
           clear c0 c1 c2 c3 c4 c5
           have XA:Θ (∀x:pA wr,bK x.to A f.classes):=fun x=>HA.o.bl ((hg.o.trans eF.o).trans x.is)
           have XB:Θ (∀x:pA wr,cz x.to (some ⟨b',iO,none⟩) f.methods):=fun x=>HB.o.bl ((hg.o.trans eF.o).trans x.is)
           have XQ:Θ (∀x:pA wr,aU x.to A' X.args):=fun x=>JM.bl x.is
           clear JM
           cases hi:bU f.classes f.methods m.code.length m.regs m.ret.kind X
           ·have HN:Θ (bJ f=false):=Zv.o hi
            go_wp2
            refine az (by kernel_rfl) (by kernel_rfl) fun hne=>?_
            repeat (go_big_quiet_step ((go_at_call 32;exact Calls.fut_eq _ (tU X f.classes f.methods _ _ _ _ m _ _ _ _ _ _ _ _ _ mE (by omega) hcl hs.1 hs.2 (XA.o _) (XB.o _) (XQ.o _)) (congrArg Value.bool hi))))
            refine wpQuiet_nil ?_
            rintro _ ⟨⟨w3,sO⟩,rfl⟩
            go_wp2
            go_ret
            exact ⟨ag HN.o.symm,(hg.o.trans eF.o).trans sO⟩
           ·have HI:Θ (bU f.classes f.methods m.code.length m.regs m.ret.kind X=true):=hi
            go_wp2
            refine az (by kernel_rfl) (by kernel_rfl) fun hne=>?_
            repeat (go_big_quiet_step ((go_at_call 32;exact Calls.fut_eq _ (tU X f.classes f.methods _ _ _ _ m _ _ _ _ _ _ _ _ _ mE (by omega) hcl hs.1 hs.2 (XA.o _) (XB.o _) (XQ.o _)) (congrArg Value.bool hi))))
            refine wpQuiet_nil ?_
            rintro _ ⟨⟨w3,sO⟩,rfl⟩
            go_wp2
            go_roundw
            case rel=>exact ⟨q+1,by omega,by go_num,fun j hj=>if h:j<q then lq.o j h else by have:j=q:=(by omega);subst this;rw [HX.o];exact HI.o,eF.o.trans sO,Pb.o.bl sO,EB.o.bl sO⟩
            case measure=>simp [intOf];omega
          ·obtain rfl:q=m.code.length:=by omega
           have HT:Θ (fG f.classes f.methods m=true):=Zt.o lq.o
           go_wp2
           go_roundw
           case rel=>exact ⟨k+1,by omega,by go_num,fun j hj=>if h:j<k then Ra.o j h else by have:j=k:=(by omega);subst this;rw [HM.o];exact HT.o,hg.o.trans eF.o,Pb⟩
           case measure=>simp [intOf];omega
       ·have ds:decide (1<=m.regs/\m.regs<=90)=false:=decide_eq_false hs
        have HN:Θ (bJ f=false):=jP.o (og (by omega))
        go_wp2
        refine az (by kernel_rfl) (by kernel_rfl) fun hne=>?_
        repeat (go_big_quiet_step (first
         | (go_at_call 21;exact Calls.fut_eq _ (iX _ _ _ _ _ _ m _ _ _ _ _ _ _ _ (XP.o _) (XK.o _) mE hcl) (congrArg Value.bool hh))
         | (go_at_call 22;exact Calls.fut_same _ (gO _ _ _ _ (XP.o _) (by omega)))
         | (go_at_call 20;exact Calls.fut_same_eq _ (aI _ _ _ _) (congrArg Value.bool ds))))
        refine wpQuiet_nil ?_
        rintro _ ⟨⟨w2,bX⟩,rfl⟩
        go_wp2
        go_ret
        exact ⟨ag HN.o.symm,(hg.o.trans bM.o).trans bX⟩
      ·have UH:(m.locs !=0)=true:=by simpa using nM
       have ds:=hh
       have HN:Θ (bJ f=false):=jP.o (og (by omega))
       go_wp2
       refine az (by kernel_rfl) (by kernel_rfl) fun hne=>?_
       repeat (go_big_quiet_step (first
        | (go_at_call 21;exact Calls.fut_eq _ (iX _ _ _ _ _ _ m _ _ _ _ _ _ _ _ (XP.o _) (XK.o _) mE hcl) (congrArg Value.bool hh))
        | (go_at_call 22;exact Calls.fut_same _ (gO _ _ _ _ (XP.o _) (by omega)))
        | (go_at_call 20;exact Calls.fut_same_eq _ (aI _ _ _ _) (congrArg Value.bool ds))))
       refine wpQuiet_nil ?_
       rintro _ ⟨⟨w2,bX⟩,rfl⟩
       go_wp2
       go_ret
       exact ⟨ag HN.o.symm,(hg.o.trans bM.o).trans bX⟩
     ·have SU:(m.stack !=0)=true:=by simpa using hr
      have ds:=hh
      have HN:Θ (bJ f=false):=jP.o (og (by omega))
      go_wp2
      refine az (by kernel_rfl) (by kernel_rfl) fun hne=>?_
      repeat (go_big_quiet_step (first
       | (go_at_call 21;exact Calls.fut_eq _ (iX _ _ _ _ _ _ m _ _ _ _ _ _ _ _ (XP.o _) (XK.o _) mE hcl) (congrArg Value.bool hh))
       | (go_at_call 22;exact Calls.fut_same _ (gO _ _ _ _ (XP.o _) (by omega)))
       | (go_at_call 20;exact Calls.fut_same_eq _ (aI _ _ _ _) (congrArg Value.bool ds))))
      refine wpQuiet_nil ?_
      rintro _ ⟨⟨w2,bX⟩,rfl⟩
      go_wp2
      go_ret
      exact ⟨ag HN.o.symm,(hg.o.trans bM.o).trans bX⟩
   ·obtain rfl:k=f.methods.length:=by omega
    have HN:Θ (bJ f=true):=HG.o Ra.o
    go_wp2
    go_ret
    exact ⟨ag HN.o.symm,hg.o⟩
 ·have hb:=AJ (f:=f) (by omega)
  rw [hb]
  have dn:decide (1<=(f.methods.length:Int)/\(f.methods.length:Int)<=8)=false:=decide_eq_false hn
  go_enter func14,ntmps14
  go_wp2_with (first
   | (go_at_call 19;refine (qH _ _ _ _ (HA.o.bl HW.o)).mono ?_;rintro e w1 ⟨he,g1⟩;rw [hm] at he;subst he;have q1:=(HF.o.bl g1).2;simp only [Nat.zero_add] at q1)
   | (go_at_call 20;refine (aI _ _ _ _).mono ?_;rintro e w2 ⟨he,rfl⟩;rw [dn] at he;subst he))
  go_ret
  exact ⟨rfl,HW.o.trans g1⟩
section
open Go.ChangeShapes Go.WideShapes Go.ChangeAt Go.RowKit Go.Deep
theorem B5:Tryz.prog.cellsOf 45=2:=by kernel_rfl
theorem LY:Tryz.prog.cellsOf 105=2:=by kernel_rfl
theorem IV:Tryz.prog.cellsOf 43=1:=by kernel_rfl
theorem dH:Tryz.prog.cellsOf 3=1:=by kernel_rfl
theorem take_one {v:Value} (h:(cs.drop o).take 1=[v]):cs[o]?=some v:=by
 have h1:((cs.drop o).take 1)[0]?=some v:=by rw [h];rfl
 simpa [List.getElem?_take,List.getElem?_drop] using h1
section
variable {H:Type} {enc:TypeId×Value->H} {w:World} {base:Nat} {spare:Nat->Bool} {held:Bool}
theorem eJ {t:TypeId} {P:Program} {y:Option (DataW H×List MemPlace)} (ht:P.underlying t=some (.int .i64)) (hc:P.cellsOf t=1) (hy:y≠none) (h:DataW.trod enc P w base spare held fuel t ((cs.drop o).take (P.cellsOf t))=y):∃n,cs[o]?=some (.int .i64 n)/\cJ n:=by
 obtain ⟨x,rfl⟩:=Option.ne_none_iff_exists'.1 hy
 obtain ⟨n,hn,-,hw⟩:=DataW.trod_int ht h
 rw [hc] at hn
 exact ⟨n,take_one hn,bounds_i64 hw⟩
theorem jt {E:Type} (d:E) {R:E->List Value->Prop} {P:Program} {t e:TypeId} {s:Nat} {x:DataW H×List MemPlace} (ht:P.underlying t=some (.slice e)) (hs:P.cellsOf e=s) (h0:0<s) (he:∀(fuel:Nat) (cs:List Value) (x:DataW H×List MemPlace),DataW.trod enc P w base spare held fuel e cs=some x->∃z:E,R z cs) (h:DataW.trod enc P w base spare held fuel t cs=some x) :
  ∃(A:Option Addr) (l:List E) (c:Nat),cs=[.slice A l.length c]/\l.length<=maxLen/\(l.length=0∨∃b off,A=some ⟨b,off,none⟩ /\
   ∀i,i<l.length->∃vs,R (nth d l i) vs/\∀j,j<s->w.cell? ⟨b,off+i*s+j,none⟩=vs[j]?):=by
 rcases open_slice ht h with ⟨rfl,-⟩|⟨a,len,cap,m,n,D,Pl,rfl,hb,hl,hm,iL,-,hx⟩
 ·exact ⟨none,[],0,rfl,Nat.zero_le _,Or.inl rfl⟩
 have Sj:len<=m:=by rw [iL];split<;>omega
 rw [hs] at hx
 obtain ⟨f,hf⟩:=@choose_lt E ⟨d⟩ len ( fun i z=>∃vs,R z vs/\vs.length=s/\∀j,j<s->w.cell? ((a.add (i*s)).add j)=vs[j]?) (fun i hi=>by
  obtain ⟨cs',h1,h2⟩:=hx i (by omega)
  obtain ⟨z,hz⟩:=he _ _ _ h2
  obtain ⟨-,hlen,hcell⟩:=World.cells?_some h1
  exact ⟨z,cs',hz,hlen,hcell⟩)
 refine ⟨some a,(List.range len).map f,cap,by simp,by simp;omega,?_⟩
 simp only [List.length_map,List.length_range]
 by_cases hz:len=0
 ·exact Or.inl hz
 right
 obtain ⟨b,off,spot⟩:=a
 have Rf:spot=none:=by
  obtain ⟨vs,-,hlen,hcell⟩:=hf 0 (by omega)
  have g:=hcell 0 h0
  rw [List.getElem?_eq_getElem (by omega)] at g
  simpa [Addr.add] using World.cell?_spot g
 subst Rf
 refine ⟨b,off,rfl,fun i hi=>?_⟩
 obtain ⟨vs,hR,-,hcell⟩:=hf i hi
 refine ⟨vs,?_,fun j hj=>?_⟩
 ·have:nth d ((List.range len).map f) i=f i:=by rw [cg (by simpa using hi)];simp
  rw [this];exact hR
 ·have:=hcell j hj
  rw [add_add,add_plain,<-Nat.add_assoc] at this
  exact this
theorem B6 {x:DataW H×List MemPlace} (h:DataW.trod enc Tryz.prog w base spare held fuel 45 cs=some x) :
  ∃t:Ty,(cs[0]?=some (.int .i64 t.kind)/\cs[1]?=some (.int .i64 t.cls))/\cJ t.kind/\cJ t.cls:=by
 obtain ⟨xs,n,rfl,rfl,hl,hn,hf⟩:=DataW.trod_struct underlying45 h
 have ig:xs.length=2:=hn
 obtain ⟨k,h0,w0⟩:=eJ underlying3 dH (by simp [ig]) (hf 0 _ rfl)
 obtain ⟨c,h1,w1⟩:=eJ underlying3 dH (by simp [ig]) (hf 1 _ rfl)
 exact ⟨⟨k,c⟩,⟨h0,h1⟩,w0,w1⟩
theorem IW {x:DataW H×List MemPlace} (h:DataW.trod enc Tryz.prog w base spare held fuel 43 cs=some x) :
  ∃(A:Option Addr) (l:List Ty) (c:Nat),cs=[.slice A l.length c]/\cX w A l:=by
 obtain ⟨A,l,c,rfl,hm,hr⟩:=jt bS underlying43 B5 (by omega) (fun _ _ _=>B6) h
 rcases hr with h0|⟨b,off,rfl,hi⟩
 ·exact ⟨A,l,c,rfl,hm,Or.inl h0⟩
 refine ⟨_,l,c,rfl,hm,Or.inr ⟨b,off,rfl,fun i hlt=>?_⟩⟩
 obtain ⟨vs,⟨⟨h0,h1⟩,w0,w1⟩,hc⟩:=hi i hlt
 exact ⟨(hc 0 (by omega)).trans h0,(hc 1 (by omega)).trans h1,w0,w1⟩
theorem B9 {y:Option (DataW H×List MemPlace)} (hy:y≠none) (h:DataW.trod enc Tryz.prog w base spare held fuel 43 ((cs.drop o).take (Tryz.prog.cellsOf 43))=y):∃(A:Option Addr) (l:List Ty) (c:Nat),cs[o]?=some (.slice A l.length c)/\cX w A l:=by
 obtain ⟨x,rfl⟩:=Option.ne_none_iff_exists'.1 hy
 obtain ⟨A,l,c,hn,hT⟩:=IW h
 rw [IV] at hn
 exact ⟨A,l,c,take_one hn,hT⟩
theorem LZ {x:DataW H×List MemPlace} (h:DataW.trod enc Tryz.prog w base spare held fuel 105 cs=some x) :
  ∃t:Cl,cs[0]?=some (.int .i64 t.super)/\cJ t.super/\∃A c,cs[1]?=some (.slice A t.fields.length c)/\cX w A t.fields:=by
 obtain ⟨xs,n,rfl,rfl,hl,hn,hf⟩:=DataW.trod_struct underlying105 h
 have ig:xs.length=2:=hn
 obtain ⟨k,h0,w0⟩:=eJ underlying3 dH (by simp [ig]) (hf 0 _ rfl)
 obtain ⟨A,l,c,h1,w1⟩:=B9 (by simp [ig]) (hf 1 _ rfl)
 exact ⟨⟨k,l⟩,h0,w0,A,c,h1,w1⟩
theorem IX {x:DataW H×List MemPlace} (h:DataW.trod enc Tryz.prog w base spare held fuel 22 cs=some x) :
  ∃(A:Option Addr) (l:List Cl) (c:Nat),cs=[.slice A l.length c]/\bK w A l:=by
 obtain ⟨A,l,c,rfl,hm,hr⟩:=jt bL underlying22 LY (by omega) (fun _ _ _=>LZ) h
 rcases hr with h0|⟨b,off,rfl,hi⟩
 ·exact ⟨A,l,c,rfl,hm,Or.inl h0⟩
 refine ⟨_,l,c,rfl,hm,Or.inr ⟨b,off,rfl,fun i hlt=>?_⟩⟩
 obtain ⟨vs,⟨h0,w0,A',c',h1,w1⟩,hc⟩:=hi i hlt
 exact ⟨(hc 0 (by omega)).trans h0,w0,A',c',(hc 1 (by omega)).trans h1,w1⟩
end
end
section
open Go.ChangeShapes Go.WideShapes Go.ChangeAt Go.RowKit Go.Deep
theorem tV:Tryz.prog.cellsOf 2=1:=by kernel_rfl
theorem EC:Tryz.prog.cellsOf 53=1:=by kernel_rfl
theorem cellsIn:Tryz.prog.cellsOf 55=6:=by kernel_rfl
theorem IY:Tryz.prog.cellsOf 46=1:=by kernel_rfl
theorem Lu:Tryz.prog.cellsOf 108=4:=by kernel_rfl
theorem IZ:Tryz.prog.cellsOf 47=1:=by kernel_rfl
theorem L4:Tryz.prog.cellsOf 49=8:=by kernel_rfl
theorem Iu:Tryz.prog.cellsOf 23=1:=by kernel_rfl
theorem I0:Tryz.prog.cellsOf 22=1:=by kernel_rfl
theorem L5:Tryz.prog.cellsOf 25=2:=by kernel_rfl
section
variable {H:Type} {enc:TypeId×Value->H} {w:World} {base:Nat} {spare:Nat->Bool} {held:Bool}
theorem AM {x:DataW H×List MemPlace} (h:DataW.trod enc Tryz.prog w base spare held fuel 53 cs=some x) :
  ∃(A:Option Addr) (l:List Int) (c:Nat),cs=[.slice A l.length c]/\aU w A l:=by
 obtain ⟨A,l,c,rfl,hm,hr⟩:=jt (0:Int) (R:=fun (n:Int) cs=>cs[0]?=some (.int .i64 n)/\cJ n) underlying53 dH (by omega)
  (fun _ _ _ hh=>by obtain ⟨n,rfl,-,hw⟩:=DataW.trod_int underlying3 hh;exact ⟨n,rfl,bounds_i64 hw⟩) h
 rcases hr with h0|⟨b,off,rfl,hi⟩
 ·exact ⟨A,l,c,rfl,hm,Or.inl h0⟩
 refine ⟨_,l,c,rfl,hm,Or.inr ⟨b,off,rfl,fun i hlt=>?_⟩⟩
 obtain ⟨vs,⟨h0,w0⟩,hc⟩:=hi i hlt
 have:=(hc 0 (by omega)).trans h0
 rw [Nat.mul_one,Nat.add_zero] at this
 exact ⟨this,w0⟩
theorem L7 {x:DataW H×List MemPlace} (h:DataW.trod enc Tryz.prog w base spare held fuel 55 cs=some x) :
  ∃t:In,cs[0]?=some (.int .i64 t.op)/\cs[1]?=some (.int .i64 t.a)/\cs[2]?=some (.int .i64 t.b)/\cs[3]?=some (.int .i64 t.c)/\cs[4]?=some (.int .i64 t.n)/\t.ok
   /\ ∃A c,cs[5]?=some (.slice A t.args.length c)/\aU w A t.args:=by
 obtain ⟨xs,n,rfl,rfl,hl,hn,hf⟩:=DataW.trod_struct underlying55 h
 have ig:xs.length=6:=hn
 obtain ⟨k0,h0,w0⟩:=eJ underlying3 dH (by simp [ig]) (hf 0 _ rfl)
 obtain ⟨k1,h1,w1⟩:=eJ underlying3 dH (by simp [ig]) (hf 1 _ rfl)
 obtain ⟨k2,h2,w2⟩:=eJ underlying3 dH (by simp [ig]) (hf 2 _ rfl)
 obtain ⟨k3,h3,w3⟩:=eJ underlying3 dH (by simp [ig]) (hf 3 _ rfl)
 obtain ⟨k4,h4,w4⟩:=eJ underlying2 tV (by simp [ig]) (hf 4 _ rfl)
 obtain ⟨y,hy⟩:=Option.ne_none_iff_exists'.1 (show xs[5]?≠none by simp [ig])
 have h5:=hf 5 _ rfl
 rw [hy] at h5
 obtain ⟨A,l,c,hn,hT⟩:=AM h5
 exact ⟨⟨k0,k1,k2,k3,k4,l⟩,h0,h1,h2,h3,h4,⟨w0,w1,w2,w3,w4⟩,A,c,take_one (EC▸hn),hT⟩
theorem I7 {x:DataW H×List MemPlace} (h:DataW.trod enc Tryz.prog w base spare held fuel 46 cs=some x) :
  ∃(A:Option Addr) (l:List In) (c:Nat),cs=[.slice A l.length c]/\pn w A l:=by
 obtain ⟨A,l,c,rfl,hm,hr⟩:=jt eR underlying46 cellsIn (by omega) (fun _ _ _=>L7) h
 rcases hr with h0|⟨b,off,rfl,hi⟩
 ·exact ⟨A,l,c,rfl,hm,Or.inl h0⟩
 refine ⟨_,l,c,rfl,hm,Or.inr ⟨b,off,rfl,fun i hlt=>?_⟩⟩
 obtain ⟨vs,⟨h0,h1,h2,h3,h4,w0,A',c',h5,w1⟩,hc⟩:=hi i hlt
 exact ⟨(hc 0 (by omega)).trans h0,(hc 1 (by omega)).trans h1,(hc 2 (by omega)).trans h2,(hc 3 (by omega)).trans h3,(hc 4 (by omega)).trans h4,w0,A',c',(hc 5 (by omega)).trans h5,w1⟩
theorem L8 {x:DataW H×List MemPlace} (h:DataW.trod enc Tryz.prog w base spare held fuel 108 cs=some x) :
  ∃t:Hd,cs[0]?=some (.int .i64 t.fr)/\cs[1]?=some (.int .i64 t.til)/\cs[2]?=some (.int .i64 t.pc)/\cs[3]?=some (.int .i64 t.cls)/\t.ok:=by
 obtain ⟨xs,n,rfl,rfl,hl,hn,hf⟩:=DataW.trod_struct underlying108 h
 have ig:xs.length=4:=hn
 obtain ⟨k0,h0,w0⟩:=eJ underlying3 dH (by simp [ig]) (hf 0 _ rfl)
 obtain ⟨k1,h1,w1⟩:=eJ underlying3 dH (by simp [ig]) (hf 1 _ rfl)
 obtain ⟨k2,h2,w2⟩:=eJ underlying3 dH (by simp [ig]) (hf 2 _ rfl)
 obtain ⟨k3,h3,w3⟩:=eJ underlying3 dH (by simp [ig]) (hf 3 _ rfl)
 exact ⟨⟨k0,k1,k2,k3⟩,h0,h1,h2,h3,w0,w1,w2,w3⟩
theorem I9 {x:DataW H×List MemPlace} (h:DataW.trod enc Tryz.prog w base spare held fuel 47 cs=some x) :
  ∃(A:Option Addr) (l:List Hd) (c:Nat),cs=[.slice A l.length c]/\kR w A l:=by
 obtain ⟨A,l,c,rfl,hm,hr⟩:=jt eK underlying47 Lu (by omega) (fun _ _ _=>L8) h
 rcases hr with h0|⟨b,off,rfl,hi⟩
 ·exact ⟨A,l,c,rfl,hm,Or.inl h0⟩
 refine ⟨_,l,c,rfl,hm,Or.inr ⟨b,off,rfl,fun i hlt=>?_⟩⟩
 obtain ⟨vs,⟨h0,h1,h2,h3,w0⟩,hc⟩:=hi i hlt
 exact ⟨(hc 0 (by omega)).trans h0,(hc 1 (by omega)).trans h1,(hc 2 (by omega)).trans h2,(hc 3 (by omega)).trans h3,w0⟩
theorem L9 {x:DataW H×List MemPlace} (h:DataW.trod enc Tryz.prog w base spare held fuel 49 cs=some x) :
  ∃t:Me,∃P C K p c k,cs[0]?=some (.slice P t.params.length p)/\cs[1]?=some (.int .i64 t.ret.kind)/\cs[2]?=some (.int .i64 t.ret.cls)/\cs[3]?=some (.int .i64 t.stack)/\cs[4]?=some (.int .i64 t.locs)/\cs[5]?=some (.int .i64 t.regs)
   /\ cs[6]?=some (.slice C t.code.length c)/\cs[7]?=some (.slice K t.hands.length k)/\ku w t P C K:=by
 obtain ⟨xs,n,rfl,rfl,hl,hn,hf⟩:=DataW.trod_struct underlying49 h
 have ig:xs.length=7:=hn
 obtain ⟨P,lp,p,h0,w0⟩:=B9 (by simp [ig]) (hf 0 _ rfl)
 obtain ⟨k2,h2,w2⟩:=eJ underlying3 dH (by simp [ig]) (hf 2 _ rfl)
 obtain ⟨k3,h3,w3⟩:=eJ underlying3 dH (by simp [ig]) (hf 3 _ rfl)
 obtain ⟨k4,h4,w4⟩:=eJ underlying3 dH (by simp [ig]) (hf 4 _ rfl)
 obtain ⟨y,hy⟩:=Option.ne_none_iff_exists'.1 (show xs[5]?≠none by simp [ig])
 have h5:=hf 5 _ rfl
 rw [hy] at h5
 obtain ⟨C,lc,c,Xh,Zw⟩:=I7 h5
 obtain ⟨y,hy⟩:=Option.ne_none_iff_exists'.1 (show xs[6]?≠none by simp [ig])
 have h6:=hf 6 _ rfl
 rw [hy] at h6
 obtain ⟨K,lk,k,Zx,Zy⟩:=I9 h6
 obtain ⟨y,hy⟩:=Option.ne_none_iff_exists'.1 (show xs[1]?≠none by simp [ig])
 have h1:=hf 1 _ rfl
 rw [hy] at h1
 obtain ⟨r,⟨wF,QE⟩,v0,v1⟩:=B6 h1
 have Rg:((cs.drop 1).take (Tryz.prog.cellsOf 45))[0]?=some (.int .i64 r.kind):=wF
 have Rh:((cs.drop 1).take (Tryz.prog.cellsOf 45))[1]?=some (.int .i64 r.cls):=QE
 rw [B5] at Rg Rh
 refine ⟨⟨lp,r,k2,k3,k4,lc,lk⟩,P,C,K,p,c,k,h0,?_,?_,h2,h3,h4,take_one (IY▸Xh),take_one (IZ▸Zx),w0,Zw,Zy,v0,v1,w2,w3,w4⟩
 ·simpa [List.getElem?_take,List.getElem?_drop] using Rg
 ·simpa [List.getElem?_take,List.getElem?_drop] using Rh
theorem Ja {x:DataW H×List MemPlace} (h:DataW.trod enc Tryz.prog w base spare held fuel 23 cs=some x) :
  ∃(A:Option Addr) (l:List Me) (c:Nat),cs=[.slice A l.length c]/\cz w A l:=by
 obtain ⟨A,l,c,rfl,hm,hr⟩:=jt bT underlying23 L4 (by omega) (fun _ _ _=>L9) h
 rcases hr with h0|⟨b,off,rfl,hi⟩
 ·exact ⟨A,l,c,rfl,hm,Or.inl h0⟩
 refine ⟨_,l,c,rfl,hm,Or.inr ⟨b,off,rfl,fun i hlt=>?_⟩⟩
 obtain ⟨vs,⟨P,C,K,p,c,k,h0,h1,h2,h3,h4,h5,h6,h7,w1⟩,hc⟩:=hi i hlt
 exact ⟨P,C,K,p,c,k,(hc 0 (by omega)).trans h0,(hc 1 (by omega)).trans h1,(hc 2 (by omega)).trans h2,(hc 3 (by omega)).trans h3,(hc 4 (by omega)).trans h4,(hc 5 (by omega)).trans h5,(hc 6 (by omega)).trans h6,(hc 7 (by omega)).trans h7,w1⟩
theorem EE {x:DataW H×List MemPlace} (h:DataW.trod enc Tryz.prog w base spare held fuel 25 cs=some x) :
  ∃(f:Fi) (A B:Option Addr) (a b:Nat),cs=[.slice A f.classes.length a,.slice B f.methods.length b]/\bK w A f.classes/\cz w B f.methods:=by
 obtain ⟨xs,n,rfl,rfl,hl,hn,hf⟩:=DataW.trod_struct underlying25 h
 have ig:xs.length=2:=hn
 rw [L5] at hl
 obtain ⟨y,hy⟩:=Option.ne_none_iff_exists'.1 (show xs[0]?≠none by simp [ig])
 have h0:=hf 0 _ rfl
 rw [hy] at h0
 obtain ⟨A,l,a,hA,hT⟩:=IX h0
 obtain ⟨y,hy⟩:=Option.ne_none_iff_exists'.1 (show xs[1]?≠none by simp [ig])
 have h1:=hf 1 _ rfl
 rw [hy] at h1
 obtain ⟨B,m,b,hB,hM⟩:=Ja h1
 have e0:cs[0]?=some (.slice A l.length a):=take_one (I0▸hA)
 have e1:cs[1]?=some (.slice B m.length b):=take_one (Iu▸hB)
 match cs,hl with
 | [u,v],_ =>
  simp at e0 e1
  subst e0 e1
  exact ⟨⟨l,m⟩,A,B,a,b,rfl,hT,hM⟩
end
end
section
open Go.ChangeShapes Go.WideShapes Go.ChangeAt Go.RowKit Go.Deep
variable {H:Type} {enc:TypeId×Value->H} {w:World} {base:Nat} {spare:Nat->Bool} {held:Bool}
theorem sw {x:DataW H×List MemPlace} (h:DataW.trod enc Tryz.prog w base spare held fuel 26 cs=some x) :
  ∃(A:Option Addr) (l:List Int) (c:Nat),cs=[.slice A l.length c]/\aU w A l:=by
 obtain ⟨A,l,c,rfl,hm,hr⟩:=jt (0:Int) (R:=fun (n:Int) cs=>cs[0]?=some (.int .i64 n)/\cJ n) underlying26 tV (by omega)
  (fun _ _ _ hh=>by obtain ⟨n,rfl,-,hw⟩:=DataW.trod_int underlying2 hh;exact ⟨n,rfl,bounds_i64 hw⟩) h
 rcases hr with h0|⟨b,off,rfl,hi⟩
 ·exact ⟨A,l,c,rfl,hm,Or.inl h0⟩
 refine ⟨_,l,c,rfl,hm,Or.inr ⟨b,off,rfl,fun i hlt=>?_⟩⟩
 obtain ⟨vs,⟨h0,w0⟩,hc⟩:=hi i hlt
 have:=(hc 0 (by omega)).trans h0
 rw [Nat.mul_one,Nat.add_zero] at this
 exact ⟨this,w0⟩
end
end Go.Proofs.YtgiiapenmjollaaGreat
