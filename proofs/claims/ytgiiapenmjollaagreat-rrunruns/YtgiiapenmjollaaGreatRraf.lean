import Derived.Test.YtgiiapenmjollaaGreatRrae
import Derived.Deep.RegionHeld3
namespace Go.Proofs.YtgiiapenmjollaaGreat
set_option linter.all false
set_option maxHeartbeats 40000000
set_option maxRecDepth 100000
open Go.RowKit
open Tryz
theorem oM (w:World) (a b c:Va):aC (((w.alloc (bD a)).alloc (bD b)).alloc (bD c)) w.heap.size a/\aC (((w.alloc (bD a)).alloc (bD b)).alloc (bD c)) (w.heap.size+1) b/\aC (((w.alloc (bD a)).alloc (bD b)).alloc (bD c)) (w.heap.size+1+1) c:=by
 have h2:((w.alloc (bD a)).alloc (bD b)).heap.size=w.heap.size+1+1:=by rw [World.size_alloc,World.size_alloc]
 obtain ⟨p1,p2⟩:=iQ w a b
 refine ⟨⟨?_⟩,⟨?_⟩,⟨?_⟩⟩
 ·rw [Below.heap_alloc _ _ _ (by omega)];exact p1.blk
 ·rw [Below.heap_alloc _ _ _ (by omega)];exact p2.blk
 ·rw [<-h2];exact aB _ _ _
theorem rr (w0:World) (g:Ad) (p:Nat) (h:Hp) (a b:Va) (k op:Int) (w:World) (hH:Hs w0 g w p h) (C:Cw w0 g h) (hk:k=1∨k=2) (ia:cJ a.n) (ib:cJ b.n) :
  χ 159 #[π p 0,jh a,jh b,ι k,ι op] w fun e w'=>e=.returned (jh (h.reckV a b k op))/\Hs w0 g w' p (h.reckH a b k op)/\Fr w0.heap.size g.T w w':=by
 have dX:=hH.base
 have HF:Θ (Fr w0.heap.size g.T w (((w.alloc (bD a)).alloc (bD b)).alloc eI)):=(((Fr.refl _ _ w).alloc dX _).alloc (by simp;omega) _).alloc (by simp;omega) _
 have HH:Θ (Hs w0 g (((w.alloc (bD a)).alloc (bD b)).alloc eI) p h):=hH.cf ((((Cf.refl _ _ w).alloc dX _).alloc (by simp;omega) _).alloc (by simp;omega) _)
 have HA:Θ (aC (((w.alloc (bD a)).alloc (bD b)).alloc eI) w.heap.size a):=(oM w a b aE).1
 have HB:Θ (aC (((w.alloc (bD a)).alloc (bD b)).alloc eI) (w.heap.size+1) b):=(oM w a b aE).2.1
 have HR:Θ (aC (((w.alloc (bD a)).alloc (bD b)).alloc eI) (w.heap.size+1+1) aE):=(oM w a b aE).2.2
 have HC:Θ (Cw w0 g h):=C
 have et:w0.heap.size<=w.heap.size+1+1:=by omega
 have gz:w.heap.size<=w.heap.size+1+1:=by omega
 have da:(a.kind==k)=decide (a.kind=k):=by rw [Bool.eq_iff_iff];simp
 have db:(b.kind==k)=decide (b.kind=k):=by rw [Bool.eq_iff_iff];simp
 clear hH C
 cases hm:h.mustB (eU a b k)
 ·have e1:h.reckV a b k op=aE:=by unfold Hp.reckV;rw [if_neg (by rw [hm];decide)]
  have e2:h.reckH a b k op=h.must (eU a b k):=by unfold Hp.reckH;rw [if_neg (by rw [hm];decide)]
  rw [e1,e2]
  clear e1 e2
  by_cases ka:a.kind=k
  ·have eo:eU a b k=decide (b.kind=k):=by unfold eU;rw [decide_eq_true ka];rfl
   rw [eo] at hm ⊢
   have Wg:(a.kind==k)=true:=by simpa using ka
   clear da eo ka
   go_enter func159,ntmps159
   go_wp2_with (go_at_call 55;refine (bZ w0 g HC.o.k p h _ _ HH.o).mono ?_;rintro e w1 ⟨he,h1,f1⟩;rw [hm] at he;subst he;have b1:=HR.o.keep HC.o.k f1;have r0:=b1.c0;have r1:=b1.c1;have r2:=b1.fr 0;have r3:=b1.fr 1;have kA:Θ (aC w1 (w.heap.size+1+1) aE):=b1;clear b1)
   (try simp only [Exit.inBlock,Exit.then])
   refine bodyPost_ret (results_cell_row rfl _ _ (w.heap.size+1+1) _ _ _ _ rfl (kA.o.set aE).blk underlying62 rfl bC) rfl ?_
   exact ⟨rfl,h1.cf (kA.o.cf HC.o.k et _ _),(((HF.o.trans f1).new gz et _).new gz et _)⟩
  ·have eo:eU a b k=false:=by unfold eU;rw [decide_eq_false ka];rfl
   rw [eo] at hm ⊢
   have Wg:(a.kind==k)=false:=by simpa using ka
   clear da eo ka
   go_enter func159,ntmps159
   go_wp2_with (go_at_call 55;refine (bZ w0 g HC.o.k p h false _ HH.o).mono ?_;rintro e w1 ⟨he,h1,f1⟩;rw [hm] at he;subst he;have b1:=HR.o.keep HC.o.k f1;have r0:=b1.c0;have r1:=b1.c1;have r2:=b1.fr 0;have r3:=b1.fr 1;have kA:Θ (aC w1 (w.heap.size+1+1) aE):=b1;clear b1)
   (try simp only [Exit.inBlock,Exit.then])
   refine bodyPost_ret (results_cell_row rfl _ _ (w.heap.size+1+1) _ _ _ _ rfl (kA.o.set aE).blk underlying62 rfl bC) rfl ?_
   exact ⟨rfl,h1.cf (kA.o.cf HC.o.k et _ _),(((HF.o.trans f1).new gz et _).new gz et _)⟩
 ·obtain ⟨hb,cY,yD⟩:=dE hm
  have Qw:a.kind=k/\b.kind=k:=by unfold eU at hb;simp at hb;exact hb
  have vE:Θ (h.must true=h):=rfl
  have NY:h.mustB true=true:=by have:=hm;rw [hb] at this;exact this
  have Wg:(a.kind==k)=true:=by simpa using Qw.1
  have db':(b.kind==k)=true:=by simpa using Qw.2
  obtain ⟨N,hN⟩:∃N,lB k op a b=N:=⟨_,rfl⟩
  have e1:h.reckV a b k op=⟨k,N⟩:=by unfold Hp.reckV;rw [if_pos hm,hN]
  rw [e1]
  clear hb cY yD Qw da db
  cases hR:qK k op a b
  ·have e2:h.reckH a b k op=h.raise 2:=by unfold Hp.reckH;rw [if_pos hm,if_neg (by rw [hR];decide)]
   rw [e2]
   rcases hk with hk|hk
   ·subst hk
    have HN:Θ (wrap32 (dD op (wrap32 a.n) (wrap32 b.n))=N):=hN
    have wy:Θ (ep op (wrap32 b.n)=false):=hR
    clear hN hR e1 e2 hm
    go_enter func159,ntmps159
    go_wp2_with (first
     | (go_at_call 55;refine (bZ w0 g HC.o.k p h true _ HH.o).mono ?_;rintro e w1 ⟨he,h1,f1⟩;rw [NY] at he;subst he;rw [vE.o] at h1;have b1:=HR.o.keep HC.o.k f1;have r0:=b1.c0;have r1:=b1.c1;have r2:=b1.fr 0;have r3:=b1.fr 1;have kA:Θ (aC w1 (w.heap.size+1+1) aE):=b1;clear b1;have x1:=(HA.o.keep HC.o.k f1).c1;have y1:=(HB.o.keep HC.o.k f1).c1)
     | (go_at_call 200;refine (ju op a.n b.n _ ia.1 ia.2 ib.1 ib.2).mono ?_;rintro e w5 ⟨he,kI⟩;subst he;rw [kI];clear kI w5)
     | (go_at_call 201;refine (wR op a.n b.n _).mono ?_;rintro e w6 ⟨he,Gf⟩;rw [HN.o,wy.o] at he;subst he;rw [Gf];clear Gf w6)
     | (go_at_call 157;refine (kg w0 g p h 2 _ h1 HC.o (by omega)).mono ?_;rintro e w2 ⟨rfl,h2,f2⟩;clear r0 r1 r2 r3;have b2:=kA.o.keep HC.o.k f2;have r0:=b2.c0;have r1:=b2.c1;have r2:=b2.fr 0;have r3:=b2.fr 1;have Qx:Θ (aC w2 (w.heap.size+1+1) aE):=b2;clear b2))
    (try simp only [Exit.inBlock,Exit.then])
    refine bodyPost_ret (results_cell_row rfl _ _ (w.heap.size+1+1) _ _ _ _ rfl (Qx.o.set ⟨1,N⟩).blk underlying62 rfl bC) rfl ?_
    exact ⟨rfl,h2.cf (Qx.o.cf HC.o.k et _ _),((((HF.o.trans f1).trans f2).new gz et _).new gz et _)⟩
   ·subst hk
    have HN:Θ (dD op a.n b.n=N):=hN
    have wy:Θ (ep op b.n=false):=hR
    clear hN hR e1 e2 hm
    go_enter func159,ntmps159
    go_wp2_with (first
     | (go_at_call 55;refine (bZ w0 g HC.o.k p h true _ HH.o).mono ?_;rintro e w1 ⟨he,h1,f1⟩;rw [NY] at he;subst he;rw [vE.o] at h1;have b1:=HR.o.keep HC.o.k f1;have r0:=b1.c0;have r1:=b1.c1;have r2:=b1.fr 0;have r3:=b1.fr 1;have kA:Θ (aC w1 (w.heap.size+1+1) aE):=b1;clear b1;have x1:=(HA.o.keep HC.o.k f1).c1;have y1:=(HB.o.keep HC.o.k f1).c1)
     | (go_at_call 200;refine (ju op a.n b.n _ ia.1 ia.2 ib.1 ib.2).mono ?_;rintro e w5 ⟨he,kI⟩;rw [HN.o,wy.o] at he;subst he;rw [kI];clear kI w5)
     | (go_at_call 157;refine (kg w0 g p h 2 _ h1 HC.o (by omega)).mono ?_;rintro e w2 ⟨rfl,h2,f2⟩;clear r0 r1 r2 r3;have b2:=kA.o.keep HC.o.k f2;have r0:=b2.c0;have r1:=b2.c1;have r2:=b2.fr 0;have r3:=b2.fr 1;have Qx:Θ (aC w2 (w.heap.size+1+1) aE):=b2;clear b2))
    (try simp only [Exit.inBlock,Exit.then])
    refine bodyPost_ret (results_cell_row rfl _ _ (w.heap.size+1+1) _ _ _ _ rfl (Qx.o.set ⟨2,N⟩).blk underlying62 rfl bC) rfl ?_
    exact ⟨rfl,h2.cf (Qx.o.cf HC.o.k et _ _),((((HF.o.trans f1).trans f2).new gz et _).new gz et _)⟩
  ·have e2:h.reckH a b k op=h:=by unfold Hp.reckH;rw [if_pos hm,if_pos hR]
   rw [e2]
   rcases hk with hk|hk
   ·subst hk
    have HN:Θ (wrap32 (dD op (wrap32 a.n) (wrap32 b.n))=N):=hN
    have wy:Θ (ep op (wrap32 b.n)=true):=hR
    clear hN hR e1 e2 hm
    go_enter func159,ntmps159
    go_wp2_with (first
     | (go_at_call 55;refine (bZ w0 g HC.o.k p h true _ HH.o).mono ?_;rintro e w1 ⟨he,h1,f1⟩;rw [NY] at he;subst he;rw [vE.o] at h1;have b1:=HR.o.keep HC.o.k f1;have r0:=b1.c0;have r1:=b1.c1;have r2:=b1.fr 0;have r3:=b1.fr 1;have kA:Θ (aC w1 (w.heap.size+1+1) aE):=b1;clear b1;have x1:=(HA.o.keep HC.o.k f1).c1;have y1:=(HB.o.keep HC.o.k f1).c1)
     | (go_at_call 200;refine (ju op a.n b.n _ ia.1 ia.2 ib.1 ib.2).mono ?_;rintro e w5 ⟨he,kI⟩;subst he;rw [kI];clear kI w5)
     | (go_at_call 201;refine (wR op a.n b.n _).mono ?_;rintro e w6 ⟨he,Gf⟩;rw [HN.o,wy.o] at he;subst he;rw [Gf];clear Gf w6))
    (try simp only [Exit.inBlock,Exit.then])
    refine bodyPost_ret (results_cell_row rfl _ _ (w.heap.size+1+1) _ _ _ _ rfl (kA.o.set ⟨1,N⟩).blk underlying62 rfl bC) rfl ?_
    exact ⟨rfl,h1.cf (kA.o.cf HC.o.k et _ _),(((HF.o.trans f1).new gz et _).new gz et _)⟩
   ·subst hk
    have HN:Θ (dD op a.n b.n=N):=hN
    have wy:Θ (ep op b.n=true):=hR
    clear hN hR e1 e2 hm
    go_enter func159,ntmps159
    go_wp2_with (first
     | (go_at_call 55;refine (bZ w0 g HC.o.k p h true _ HH.o).mono ?_;rintro e w1 ⟨he,h1,f1⟩;rw [NY] at he;subst he;rw [vE.o] at h1;have b1:=HR.o.keep HC.o.k f1;have r0:=b1.c0;have r1:=b1.c1;have r2:=b1.fr 0;have r3:=b1.fr 1;have kA:Θ (aC w1 (w.heap.size+1+1) aE):=b1;clear b1;have x1:=(HA.o.keep HC.o.k f1).c1;have y1:=(HB.o.keep HC.o.k f1).c1)
     | (go_at_call 200;refine (ju op a.n b.n _ ia.1 ia.2 ib.1 ib.2).mono ?_;rintro e w5 ⟨he,kI⟩;rw [HN.o,wy.o] at he;subst he;rw [kI];clear kI w5))
    (try simp only [Exit.inBlock,Exit.then])
    refine bodyPost_ret (results_cell_row rfl _ _ (w.heap.size+1+1) _ _ _ _ rfl (kA.o.set ⟨2,N⟩).blk underlying62 rfl bC) rfl ?_
    exact ⟨rfl,h1.cf (kA.o.cf HC.o.k et _ _),(((HF.o.trans f1).new gz et _).new gz et _)⟩
abbrev mS (m:Me) (P C K:Option Addr) (p c k:Nat):Obj:=.cells #[.slice P m.params.length p,ι m.ret.kind,ι m.ret.cls,ι m.stack,ι m.locs,ι m.regs,.slice C m.code.length c,.slice K m.hands.length k] 49
theorem zi (w0:World) (g:Ad) (p:Nat) (h:Hp) (m:Me) (P CC K:Option Addr) (pp c k:Nat) (pc:Int) (w:World) (hH:Hs w0 g w p h) (C:Cw w0 g h) (hK:kR w0 K m.hands) (ht:0<=h.thrown/\h.thrown<h.objs.length) :
  χ 59 #[π p 0,sK m P CC K pp c k,ι pc] w fun e w'=>e=.returned (ι (h.caughtL pc m.hands))/\Hs w0 g w' p h/\Fr w0.heap.size g.T w w':=by
 have dX:=hH.base
 obtain ⟨vo,vx,hv,H⟩:=hH
 have HA:Θ (cO w0 g w p h vo vx hv):=H
 have HC:Θ (Cw w0 g h):=C
 have HK:Θ (kR w K m.hands):=hK.bl H.bl
 have rp:Θ (bK w g.A h.file.classes):=C.cls.bl H.bl
 have PE:=hK.1
 unfold maxLen at PE
 obtain ⟨n,hn⟩:∃n:Nat,h.thrown=n:=⟨h.thrown.toNat,by omega⟩
 have pE:n<h.objs.length:=by omega
 have HN:Θ (h.thrown=n):=hn
 obtain ⟨gb,cap,nt,-,zd,hcc⟩:=kb H.obs (by omega)
 have Sr:=(hcc n pE).1
 unfold maxLen at zd
 have YF:Θ (w.cell? ⟨gb,n*2,none⟩=some (ι (nth cF h.objs n).cls)):=Sr
 have YG:Θ (vo=.slice (some ⟨gb,0,none⟩) h.objs.length cap):=nt
 have iw:(0:Int)<=(n:Int):=by omega
 have fT:(n:Int)<(h.objs.length:Int):=by omega
 have MF:Θ (∀x:Hd,h.fits x pc=(decide (x.fr<=pc)&&(decide (pc<x.til)&&(lg h.file.classes (nth cF h.objs n).cls x.cls&&fJ h.file.classes (nth cF h.objs n).cls.toNat x.cls.toNat)))):=fun x=>by
  unfold Hp.fits Hp.obj fu;rw [hn,Int.toNat_natCast]
 have HM:Θ ((w.alloc (mS m P CC K pp c k)).cell? ⟨w.heap.size,7,none⟩=some (.slice K m.hands.length k)):=ai rfl
 clear H C hK ht hn hcc Sr nt
 obtain ⟨R,hR⟩:∃R,h.caughtL pc m.hands=R:=⟨_,rfl⟩
 rw [hR]
 have HR:Θ (h.caughtL pc (m.hands.drop 0)=R):=by rw [List.drop_zero];exact hR
 clear hR
 generalize hX:(nth cF h.objs n).cls=X at *
 clear hX
 go_enter func59,ntmps59
 go_wp2
 go_loopw [7] (fun i wr=>∃q:Nat,q<=m.hands.length/\i=ι q/\Θ (Bl w wr)/\wr.cell? ⟨w.heap.size,7,none⟩=some (.slice K m.hands.length k)/\Θ (h.caughtL pc (m.hands.drop q)=R)) (fun i _=>m.hands.length-(intOf i).toNat)
 case atStart=>exact ⟨0,Nat.zero_le _,rfl,(Bl.refl w).alloc _,HM.o,HR⟩
 case round =>
  obtain ⟨q,hq,rfl,hg,c7,hr⟩:=hrel
  by_cases dI:q<m.hands.length
  ·have Wh:=HK.o.bl hg.o
   rcases Wh.2 with h0|⟨b',iO,TS,hcell⟩
   ·omega
   obtain ⟨g0,g1,g2,g3,-⟩:=hcell q dI
   rw [TS] at c7
   have HS:Θ (h.fits (nth eK m.hands q) pc=false->h.caughtL pc (m.hands.drop (q+1))=R):=fun hx=>(px dI hx).symm.trans hr.o
   have HT:Θ (h.fits (nth eK m.hands q) pc=true->(nth eK m.hands q).pc=R):=fun hx=>(qL dI hx).symm.trans hr.o
   have hlt:=af (HA.o.old hg.o).blk
   have mG:Θ (∀o,cO w0 g (wr.alloc o) p h vo vx hv):=fun o=>HA.o.old (hg.o.alloc o)
   have q0:∀o,(wr.alloc o).cell? ⟨p,0,none⟩=some (.slice g.A h.file.classes.length g.a):=fun o=>(mG.o o).cells.c0
   have q2:∀o,(wr.alloc o).cell? ⟨p,2,none⟩=some (.slice (some ⟨gb,0,none⟩) h.objs.length cap):=fun o=>by rw [(mG.o o).cells.c2,YG.o]
   have Ss:∀o,(wr.alloc o).cell? ⟨p,13,none⟩=some (ι (n:Int)):=fun o=>by rw [(mG.o o).cells.c13,HN.o]
   have qo:∀o,(wr.alloc o).cell? ⟨gb,n*2,none⟩=some (ι X):=fun o=>(hg.o.alloc o).cell YF.o
   have q7:∀o,(wr.alloc o).cell? ⟨w.heap.size,7,none⟩=some (.slice K m.hands.length k):=fun o=>by rw [TS];exact ((Bl.refl wr).alloc o).cell c7
   have Wi:Θ (∀o,bK (wr.alloc o) g.A h.file.classes):=fun o=>rp.o.bl (hg.o.alloc o)
   have HD:Θ (h.fits (nth eK m.hands q) pc=(decide ((nth eK m.hands q).fr<=pc)&&(decide (pc<(nth eK m.hands q).til)&&(lg h.file.classes X (nth eK m.hands q).cls&&fJ h.file.classes X.toNat (nth eK m.hands q).cls.toNat)))):=MF.o _
   have TU:Θ (∀o,(wr.alloc o).cell? ⟨w.heap.size,7,none⟩=some (.slice K m.hands.length k)):=q7
   clear hcell Wh hr q7 TS
   generalize hY:nth eK m.hands q=Y at *
   clear hY
   by_cases t1:Y.fr<=pc
   ·have d1:decide (Y.fr<=pc)=true:=decide_eq_true t1
    by_cases t2:pc<Y.til
    ·have d2:decide (pc<Y.til)=true:=decide_eq_true t2
     obtain ⟨B,hB⟩:∃B,(lg h.file.classes X Y.cls&&fJ h.file.classes X.toNat Y.cls.toNat)=B:=⟨_,rfl⟩
     have rA:Θ (h.fits Y pc=B):=by rw [HD.o,d1,d2,hB];rfl
     cases B
     ·have Bt:=HS.o rA.o
      have zj:Θ (h.caughtL pc (m.hands.drop (q+1))=R):=Bt
      clear Bt
      go_wp2
      go_quiet ((go_at_call 110;exact Calls.quiet_of_same ((fM _ _ _ _ _ _ ((Wi.o _).bl (aR (Bl.refl _) _)) HC.o.tree).mono fun e w' hh=>⟨hh.1.trans (ag hB),hh.2⟩)))
      go_wp2
      go_roundw
      case rel=>exact ⟨q+1,by omega,by go_num,aR (hg.o.alloc _) _,TU.o _,zj⟩
      case measure=>simp [intOf];omega
     ·have sX:Θ (Y.pc=R):=HT.o rA.o
      go_wp2
      go_quiet ((go_at_call 110;exact Calls.quiet_of_same ((fM _ _ _ _ _ _ ((Wi.o _).bl (aR (Bl.refl _) _)) HC.o.tree).mono fun e w' hh=>⟨hh.1.trans (ag hB),hh.2⟩)))
      go_wp2
      go_ret
      exact ⟨lZ sX.o,⟨vo,vx,hv,(mG.o _).drewN _⟩,(Fr.old dX (hg.o.alloc _)).drewN _⟩
    ·have d2:decide (pc<Y.til)=false:=decide_eq_false t2
     have zj:Θ (h.caughtL pc (m.hands.drop (q+1))=R):=HS.o (by rw [HD.o,d2,Bool.false_and,Bool.and_false])
     go_wp2
     go_quiet (fail)
     go_wp2
     go_roundw
     case rel=>exact ⟨q+1,by omega,by go_num,aR (hg.o.alloc _) _,TU.o _,zj⟩
     case measure=>simp [intOf];omega
   ·have d1:decide (Y.fr<=pc)=false:=decide_eq_false t1
    have zj:Θ (h.caughtL pc (m.hands.drop (q+1))=R):=HS.o (by rw [HD.o,d1,Bool.false_and])
    go_wp2
    go_quiet (fail)
    go_wp2
    go_roundw
    case rel=>exact ⟨q+1,by omega,by go_num,aR (hg.o.alloc _) _,TU.o _,zj⟩
    case measure=>simp [intOf];omega
  ·obtain rfl:q=m.hands.length:=by omega
   have HE:Θ (-1=R):=by have:=hr.o;rw [List.drop_length] at this;exact this
   go_wp2
   go_ret
   exact ⟨lZ HE.o,⟨vo,vx,hv,HA.o.old hg.o⟩,Fr.old dX hg.o⟩
theorem cH {P:Program} {md:Region.Mode} {ops:Array Oper} {Q:Exit->Act->World->Prop} {S:World->Prop} {i:Nat} {oi:Oper} {d:Option Tmp} {fuel:Nat} {listed:Array Bool} {a:Act} {w:World} (hi:ops[i]?=some oi) (hd:oi.dst=d) (hs:Region.noSelect ops=true) (hf:Region.free md ops listed i=true) (hr:(Region.ready md ops listed).contains i=true) (hQ:∀c a w,Q (.panic c) (a.put oi.dst undef) w->Q (.panic c) a w) (hw:Region.wanted oi (yielded ops a.tmps)=false) (hS:S w) (h:wpAnyH P md ops Q S fuel (listed.setIfInBounds i true) (a.put d undef) w):wpAnyH P md ops Q S (fuel+1) listed a w :=
 wpAnyH_take hi hs hf hr hQ (Or.inr ⟨hw,rfl⟩) hS (hd▸h)
theorem fV {P:Program} {md:Region.Mode} {ops:Array Oper} {Q:Exit->Act->World->Prop} {S:World->Prop} {i:Nat} {oi:Oper} {d:Option Tmp} {v:Value} {fuel:Nat} {listed:Array Bool} {a:Act} {w:World} (hi:ops[i]?=some oi) (hd:oi.dst=d) (hs:Region.noSelect ops=true) (hf:Region.free md ops listed i=true) (hr:(Region.ready md ops listed).contains i=true) (hQ:∀c a w,Q (.panic c) (a.put oi.dst v) w->Q (.panic c) a w) (hw:Region.wanted oi (yielded ops a.tmps)=true) (hy:∀w,S w->(execOp a.eval oi).run P w=.ok (.value v) w) (hS:S w) (h:wpAnyH P md ops Q S fuel (listed.setIfInBounds i true) (a.put d v) w):wpAnyH P md ops Q S (fuel+1) listed a w :=
 wpAnyH_take hi hs hf hr hQ (Or.inl ⟨hw,hy⟩) hS (hd▸h)
section
variable (w0:World) (g:Ad) (p:Nat) (h:Hp) (v:Va) (c:Int) (w:World)
theorem NZ (hH:Hs w0 g w p h) (C:Cw w0 g h) (hk:¬v.kind=3) :
  χ 163 #[π p 0,jh v,ι c] w fun e w'=>e=.returned (jh (h.isV v c))/\Hs w0 g w' p (h.must (isRef v))/\Fr w0.heap.size g.T w w':=by
 have dX:=hH.base
 have HF:Θ (Fr w0.heap.size g.T w ((w.alloc (bD v)).alloc eI)):=((Fr.refl _ _ w).alloc dX _).alloc (by simp;omega) _
 have HH:Θ (Hs w0 g ((w.alloc (bD v)).alloc eI) p h):=hH.cf (((Cf.refl _ _ w).alloc dX _).alloc (by simp;omega) _)
 have HV:Θ (aC ((w.alloc (bD v)).alloc eI) w.heap.size v):=(iQ w v aE).1
 have HR:Θ (aC ((w.alloc (bD v)).alloc eI) (w.heap.size+1) aE):=(iQ w v aE).2
 have HC:Θ (Cw w0 g h):=C
 have et:w0.heap.size<=w.heap.size+1:=by omega
 have gz:w.heap.size<=w.heap.size+1:=by omega
 clear hH C
 have hi:isRef v=false:=by unfold isRef;exact decide_eq_false hk
 have e1:h.isV v c=⟨1,0⟩:=by unfold Hp.isV Hp.mustB;rw [hi];simp
 rw [e1,hi]
 have pZ:(v.kind==3)=false:=by simpa using hk
 have v0:=HV.o.c0
 have JI:h.mustB false=false:=rfl
 clear e1 hk
 go_enter func163,ntmps163
 go_wp2
 refine wp_region_held_drew (S:=fun w'=>κ w' w.heap.size 0 (ι v.kind)) (by kernel_rfl) ?_ (fun hHeld=>?_)
 ·exact v0
 refine fV (i:=0) (d:=some 8) (v:=?_) rfl rfl (by kernel_rfl) (by kernel_rfl) (by kernel_rfl) (fun _ _ _ h=>h) (by rfl) ?_ hHeld ?_
 rotate_left 1
 ·intro w' hSw;go_simp<;>with_reducible rfl
 try simp only [aZ]
 refine fV (i:=1) (d:=some 9) (v:=?_) rfl rfl (by kernel_rfl) (by kernel_rfl) (by kernel_rfl) (fun _ _ _ h=>h) (by rfl) ?_ hHeld ?_
 rotate_left 1
 ·intro w' hSw;go_simp<;>with_reducible rfl
 try simp only [aZ]
 refine fV (i:=2) (d:=some 10) (v:=?_) rfl rfl (by kernel_rfl) (by kernel_rfl) (by kernel_rfl) (fun _ _ _ h=>h) (by rfl) ?_ hHeld ?_
 rotate_left 1
 ·intro w' hSw;go_simp<;>with_reducible rfl
 try simp only [aZ]
 refine fV (i:=3) (d:=some 11) (v:=?_) rfl rfl (by kernel_rfl) (by kernel_rfl) (by kernel_rfl) (fun _ _ _ h=>h) (by rfl) ?_ hHeld ?_
 rotate_left 1
 ·intro w' hSw;go_simp<;>with_reducible rfl
 try simp only [aZ]
 refine wpAnyH_ready (rs:=[4]) (by kernel_rfl) (by simp) ?_
 refine AllReadyH.cons rfl (fun K hK=>?_) AllReadyH.nil
 go_simp
 go_at_call 55
 refine (bZ w0 g HC.o.k p h false _ (HH.o.cf (Cf.drew (Cf.refl _ _ _)))).mono ?_
 rintro e w1 ⟨he,h1,f1⟩
 rw [JI] at he
 subst he
 have FD:Θ (Fr w0.heap.size g.T ((w.alloc (bD v)).alloc eI) w1):=Fr.trans (Fr.drew (Fr.refl _ _ _)) f1
 have b1:=HR.o.keep HC.o.k FD.o
 have r0:=b1.c0
 have r1:=b1.c1
 have r2:=b1.fr 0
 have r3:=b1.fr 1
 have kA:Θ (aC w1 (w.heap.size+1) aE):=b1
 clear b1
 go_wp2_with fail
 refine hK.out _ _ ((HV.o.keep HC.o.k FD.o).c0) (fun ah=>?_)
 clear hK K
 try simp only [aZ]
 refine fV (i:=5) (d:=some 13) (v:=?_) rfl rfl (by kernel_rfl) (by kernel_rfl) (by kernel_rfl) (fun _ _ _ h=>h) (by rfl) ?_ ah ?_
 rotate_left 1
 ·intro w' hSw;go_simp<;>with_reducible rfl
 try simp only [aZ]
 refine cH (i:=6) (d:=some 14) rfl rfl (by kernel_rfl) (by kernel_rfl) (by kernel_rfl) (fun _ _ _ h=>h) (by rfl) ah ?_
 try simp only [aZ]
 refine cH (i:=7) (d:=some 15) rfl rfl (by kernel_rfl) (by kernel_rfl) (by kernel_rfl) (fun _ _ _ h=>h) (by rfl) ah ?_
 try simp only [aZ]
 refine cH (i:=8) (d:=some 16) rfl rfl (by kernel_rfl) (by kernel_rfl) (by kernel_rfl) (fun _ _ _ h=>h) (by rfl) ah ?_
 try simp only [aZ]
 refine fV (i:=9) (d:=some 17) (v:=?_) rfl rfl (by kernel_rfl) (by kernel_rfl) (by kernel_rfl) (fun _ _ _ h=>h) (by rfl) ?_ ah ?_
 rotate_left 1
 ·intro w' hSw;go_simp<;>with_reducible rfl
 try simp only [aZ]
 refine fV (i:=10) (d:=some 18) (v:=?_) rfl rfl (by kernel_rfl) (by kernel_rfl) (by kernel_rfl) (fun _ _ _ h=>h) (by rfl) ?_ ah ?_
 rotate_left 1
 ·intro w' hSw;go_simp<;>with_reducible rfl
 try simp only [aZ]
 refine cH (i:=11) (d:=some 19) rfl rfl (by kernel_rfl) (by kernel_rfl) (by kernel_rfl) (fun _ _ _ h=>h) (by rfl) ah ?_
 try simp only [aZ]
 refine cH (i:=12) (d:=some 20) rfl rfl (by kernel_rfl) (by kernel_rfl) (by kernel_rfl) (fun _ _ _ h=>h) (by rfl) ah ?_
 try simp only [aZ]
 refine cH (i:=13) (d:=some 21) rfl rfl (by kernel_rfl) (by kernel_rfl) (by kernel_rfl) (fun _ _ _ h=>h) (by rfl) ah ?_
 try simp only [aZ]
 refine cH (i:=14) (d:=some 22) rfl rfl (by kernel_rfl) (by kernel_rfl) (by kernel_rfl) (fun _ _ _ h=>h) (by rfl) ah ?_
 try simp only [aZ]
 refine cH (i:=15) (d:=some 23) rfl rfl (by kernel_rfl) (by kernel_rfl) (by kernel_rfl) (fun _ _ _ h=>h) (by rfl) ah ?_
 try simp only [aZ]
 refine cH (i:=16) (d:=some 24) rfl rfl (by kernel_rfl) (by kernel_rfl) (by kernel_rfl) (fun _ _ _ h=>h) (by rfl) ah ?_
 try simp only [aZ]
 refine cH (i:=17) (d:=some 25) rfl rfl (by kernel_rfl) (by kernel_rfl) (by kernel_rfl) (fun _ _ _ h=>h) (by rfl) ah ?_
 try simp only [aZ]
 refine cH (i:=18) (d:=some 26) rfl rfl (by kernel_rfl) (by kernel_rfl) (by kernel_rfl) (fun _ _ _ h=>h) (by rfl) ah ?_
 try simp only [aZ]
 refine cH (i:=19) (d:=some 27) rfl rfl (by kernel_rfl) (by kernel_rfl) (by kernel_rfl) (fun _ _ _ h=>h) (by rfl) ah ?_
 try simp only [aZ]
 refine cH (i:=20) (d:=some 28) rfl rfl (by kernel_rfl) (by kernel_rfl) (by kernel_rfl) (fun _ _ _ h=>h) (by rfl) ah ?_
 try simp only [aZ]
 refine cH (i:=21) (d:=some 29) rfl rfl (by kernel_rfl) (by kernel_rfl) (by kernel_rfl) (fun _ _ _ h=>h) (by rfl) ah ?_
 try simp only [aZ]
 refine cH (i:=22) (d:=some 30) rfl rfl (by kernel_rfl) (by kernel_rfl) (by kernel_rfl) (fun _ _ _ h=>h) (by rfl) ah ?_
 try simp only [aZ]
 refine cH (i:=23) (d:=some 31) rfl rfl (by kernel_rfl) (by kernel_rfl) (by kernel_rfl) (fun _ _ _ h=>h) (by rfl) ah ?_
 try simp only [aZ]
 refine cH (i:=24) (d:=some 32) rfl rfl (by kernel_rfl) (by kernel_rfl) (by kernel_rfl) (fun _ _ _ h=>h) (by rfl) ah ?_
 try simp only [aZ]
 refine cH (i:=25) (d:=some 33) rfl rfl (by kernel_rfl) (by kernel_rfl) (by kernel_rfl) (fun _ _ _ h=>h) (by rfl) ah ?_
 try simp only [aZ]
 refine cH (i:=26) (d:=some 34) rfl rfl (by kernel_rfl) (by kernel_rfl) (by kernel_rfl) (fun _ _ _ h=>h) (by rfl) ah ?_
 try simp only [aZ]
 refine fV (i:=27) (d:=some 35) (v:=?_) rfl rfl (by kernel_rfl) (by kernel_rfl) (by kernel_rfl) (fun _ _ _ h=>h) (by rfl) ?_ ah ?_
 rotate_left 1
 ·intro w' hSw;go_simp<;>with_reducible rfl
 try simp only [aZ]
 refine wpAnyH_done (by kernel_rfl) ?_ _
 go_wp2
 (try simp only [Exit.inBlock,Exit.then])
 refine bodyPost_ret (results_cell_row rfl _ _ (w.heap.size+1) _ _ _ _ rfl (kA.o.set ⟨1,0⟩).blk underlying62 rfl bC) rfl ?_
 exact ⟨rfl,h1.cf (kA.o.cf HC.o.k et _ _),(((HF.o.trans FD.o).new gz et _).new gz et _)⟩
theorem Nu (hH:Hs w0 g w p h) (C:Cw w0 g h) (oz:v.kind=3->v.n<h.objs.length) :
  χ 163 #[π p 0,jh v,ι c] w fun e w'=>e=.returned (jh (h.isV v c))/\Hs w0 g w' p (h.must (isRef v))/\Fr w0.heap.size g.T w w':=by
 have Wj:=hH
 have C0:=C
 have dX:=hH.base
 have HF:Θ (Fr w0.heap.size g.T w ((w.alloc (bD v)).alloc eI)):=((Fr.refl _ _ w).alloc dX _).alloc (by simp;omega) _
 have HH:Θ (Hs w0 g ((w.alloc (bD v)).alloc eI) p h):=hH.cf (((Cf.refl _ _ w).alloc dX _).alloc (by simp;omega) _)
 have HV:Θ (aC ((w.alloc (bD v)).alloc eI) w.heap.size v):=(iQ w v aE).1
 have HR:Θ (aC ((w.alloc (bD v)).alloc eI) (w.heap.size+1) aE):=(iQ w v aE).2
 have HC:Θ (Cw w0 g h):=C
 have et:w0.heap.size<=w.heap.size+1:=by omega
 have gz:w.heap.size<=w.heap.size+1:=by omega
 clear hH C
 by_cases hk:v.kind=3
 ·clear Wj C0
  obtain ⟨vk,vn⟩:=v
  dsimp only at *
  subst hk
  have NY:h.must (isRef ⟨3,vn⟩)=h:=rfl
  rw [NY]
  clear NY
  cases cY:h.over
  ·have Gq:(!h.over)=true:=by rw [cY];rfl
   by_cases hn:vn<0
   ·have e1:h.isV ⟨3,vn⟩ c=⟨1,0⟩:=by unfold Hp.isV;dsimp only;rw [decide_eq_false (by omega)];simp
    rw [e1]
    clear e1 oz
    have d1:decide (0<=vn)=false:=decide_eq_false (by omega)
    go_enter func163,ntmps163
    go_wp2
    go_quiet ((go_at_call 55;exact Calls.quiet_of_same ((fU w0 g p h _ (HH.o.drewN _)).mono fun e w' hh=>⟨hh.1.trans (ag Gq),hh.2⟩)))
    go_wp2
    (try simp only [Exit.inBlock,Exit.then])
    refine bodyPost_ret (results_cell_row rfl _ _ (w.heap.size+1) _ _ _ _ rfl ((HR.o.drewN _).set ⟨1,0⟩).blk underlying62 rfl bC) rfl ?_
    exact ⟨rfl,(HH.o.drewN _).cf ((HR.o.drewN _).cf HC.o.k et _ _),(((HF.o.drewN _).new gz et _).new gz et _)⟩
   ·obtain ⟨n,rfl⟩:∃n:Nat,vn=n:=⟨vn.toNat,by omega⟩
    have pE:n<h.objs.length:=by have:=oz rfl;omega
    obtain ⟨vo,vx,hv,H⟩:=HH.o
    have rp:Θ (bK ((w.alloc (bD ⟨3,n⟩)).alloc eI) g.A h.file.classes):=HC.o.cls.bl H.bl
    have c0:=H.cells.c0
    have c2:=H.cells.c2
    obtain ⟨gb,cap,nt,-,zd,hcc⟩:=kb H.obs (by omega)
    rw [nt] at c2
    have o1:=(hcc n pE).1
    unfold maxLen at zd
    have iw:(0:Int)<=(n:Int):=by omega
    have fT:(n:Int)<(h.objs.length:Int):=by omega
    clear hcc nt H oz hn
    obtain ⟨R,hR⟩:∃R,(lg h.file.classes (nth cF h.objs n).cls c&&fJ h.file.classes (nth cF h.objs n).cls.toNat c.toNat)=R:=⟨_,rfl⟩
    have e1:h.isV ⟨3,n⟩ c=⟨1,if R=true then 1 else 0⟩:=by
     unfold Hp.isV Hp.mustB Hp.obj fu;dsimp only;rw [cY,Int.toNat_natCast,hR,decide_eq_true iw];simp [isRef]
    rw [e1]
    clear e1
    generalize hX:(nth cF h.objs n).cls=X at *
    clear hX
    cases R
    ·go_enter func163,ntmps163
     go_wp2
     go_quiet (first|(go_at_call 55;exact Calls.quiet_of_same ((fU w0 g p h _ (HH.o.drewN _)).mono fun e w' hh=>⟨hh.1.trans (ag Gq),hh.2⟩))|(go_at_call 110;exact Calls.quiet_of_same ((fM _ _ _ _ _ _ (rp.o.bl (aR (Bl.refl _) _)) HC.o.tree).mono fun e w' hh=>⟨hh.1.trans (ag hR),hh.2⟩)))
     go_wp2
     (try simp only [Exit.inBlock,Exit.then])
     refine bodyPost_ret (results_cell_row rfl _ _ (w.heap.size+1) _ _ _ _ rfl ((HR.o.drewN _).set ⟨1,0⟩).blk underlying62 rfl bC) rfl ?_
     exact ⟨rfl,(HH.o.drewN _).cf ((HR.o.drewN _).cf HC.o.k et _ _),(((HF.o.drewN _).new gz et _).new gz et _)⟩
    ·go_enter func163,ntmps163
     go_wp2
     go_quiet (first|(go_at_call 55;exact Calls.quiet_of_same ((fU w0 g p h _ (HH.o.drewN _)).mono fun e w' hh=>⟨hh.1.trans (ag Gq),hh.2⟩))|(go_at_call 110;exact Calls.quiet_of_same ((fM _ _ _ _ _ _ (rp.o.bl (aR (Bl.refl _) _)) HC.o.tree).mono fun e w' hh=>⟨hh.1.trans (ag hR),hh.2⟩)))
     go_wp2
     (try simp only [Exit.inBlock,Exit.then])
     refine bodyPost_ret (results_cell_row rfl _ _ (w.heap.size+1) _ _ _ _ rfl ((HR.o.drewN _).set ⟨1,1⟩).blk underlying62 rfl bC) rfl ?_
     exact ⟨rfl,(HH.o.drewN _).cf ((HR.o.drewN _).cf HC.o.k et _ _),(((HF.o.drewN _).new gz et _).new gz et _)⟩
  ·have Gq:(!h.over)=false:=by rw [cY];rfl
   have e1:h.isV ⟨3,vn⟩ c=⟨1,0⟩:=by unfold Hp.isV Hp.mustB;rw [cY];simp
   rw [e1]
   clear e1 oz
   go_enter func163,ntmps163
   go_wp2
   go_quiet ((go_at_call 55;exact Calls.quiet_of_same ((fU w0 g p h _ (HH.o.drewN _)).mono fun e w' hh=>⟨hh.1.trans (ag Gq),hh.2⟩)))
   go_wp2
   (try simp only [Exit.inBlock,Exit.then])
   refine bodyPost_ret (results_cell_row rfl _ _ (w.heap.size+1) _ _ _ _ rfl ((HR.o.drewN _).set ⟨1,0⟩).blk underlying62 rfl bC) rfl ?_
   exact ⟨rfl,(HH.o.drewN _).cf ((HR.o.drewN _).cf HC.o.k et _ _),(((HF.o.drewN _).new gz et _).new gz et _)⟩
 ·exact NZ w0 g p h v c w Wj C0 hk
end
end Go.Proofs.YtgiiapenmjollaaGreat
