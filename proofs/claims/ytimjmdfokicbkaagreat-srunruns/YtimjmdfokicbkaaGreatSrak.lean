import Derived.Test.YtimjmdfokicbkaaGreatSrad
import Derived.Test.YtimjmdfokicbkaaGreatSraj
import Derived.Deep.Upon
import Derived.Deep.RegionHeld3
namespace Go.Proofs.YtimjmdfokicbkaaGreat
set_option linter.unusedVariables false
set_option linter.unusedSimpArgs false
set_option maxHeartbeats 40000000
set_option maxRecDepth 100000
open Go.RowKit
open Go.Value (int)
open Go.IntKind (i64)
theorem oj (w:World) (a b c:Va):aQ (((w.alloc (cS a)).alloc (cS b)).alloc (cS c)) w.heap.size a/\aQ (((w.alloc (cS a)).alloc (cS b)).alloc (cS c)) (w.heap.size+1) b/\aQ (((w.alloc (cS a)).alloc (cS b)).alloc (cS c)) (w.heap.size+1+1) c:=by
 have h2:((w.alloc (cS a)).alloc (cS b)).heap.size=w.heap.size+1+1:=by rw [World.size_alloc,World.size_alloc]
 obtain ⟨p1,p2⟩:=iP w a b
 refine ⟨⟨?_⟩,⟨?_⟩,⟨?_⟩⟩
 ·rw [Below.heap_alloc _ _ _ (by omega)];exact p1.blk
 ·rw [Below.heap_alloc _ _ _ (by omega)];exact p2.blk
 ·rw [<-h2];exact aD _ _ _
theorem qG (w0:World) (g:Ad) (p:Nat) (h:Hp) (a b:Va) (k op:Int) (w:World) (hH:Hs w0 g w p h) (C:Cw w0 g h) (hk:k=1∨k=2) (ia:cP a.n) (ib:cP b.n) :
  Calls Tryz.prog 169 #[.pointer (some ⟨p,0,none⟩),iA a,iA b,int i64 k,int i64 op] w fun e w'=>e=.returned (iA (h.reckV a b k op))/\Hs w0 g w' p (h.reckH a b k op)/\Fr w0.heap.size g.T w w':=by
 have cH:=hH.base
 have HF:Hid (Fr w0.heap.size g.T w (((w.alloc (cS a)).alloc (cS b)).alloc iq)):=(((Fr.refl _ _ w).alloc cH _).alloc (by simp;omega) _).alloc (by simp;omega) _
 have HH:Hid (Hs w0 g (((w.alloc (cS a)).alloc (cS b)).alloc iq) p h):=hH.cf ((((Cf.refl _ _ w).alloc cH _).alloc (by simp;omega) _).alloc (by simp;omega) _)
 have HA:Hid (aQ (((w.alloc (cS a)).alloc (cS b)).alloc iq) w.heap.size a):=(oj w a b ag).1
 have HB:Hid (aQ (((w.alloc (cS a)).alloc (cS b)).alloc iq) (w.heap.size+1) b):=(oj w a b ag).2.1
 have HR:Hid (aQ (((w.alloc (cS a)).alloc (cS b)).alloc iq) (w.heap.size+1+1) ag):=(oj w a b ag).2.2
 have HC:Hid (Cw w0 g h):=C
 have ez:w0.heap.size≤w.heap.size+1+1:=by omega
 have gB:w.heap.size≤w.heap.size+1+1:=by omega
 have da:(a.kind==k)=decide (a.kind=k):=by rw [Bool.eq_iff_iff];simp
 have db:(b.kind==k)=decide (b.kind=k):=by rw [Bool.eq_iff_iff];simp
 clear hH C
 cases hm:h.mustB (ct a b k)
 ·have e1:h.reckV a b k op=ag:=by unfold Hp.reckV;rw [if_neg (by rw [hm];decide)]
  have e2:h.reckH a b k op=h.must (ct a b k):=by unfold Hp.reckH;rw [if_neg (by rw [hm];decide)]
  rw [e1,e2]
  clear e1 e2
  by_cases ka:a.kind=k
  ·have eo:ct a b k=decide (b.kind=k):=by unfold ct;rw [decide_eq_true ka];rfl
   rw [eo] at hm ⊢
   have Un:(a.kind==k)=true:=by simpa using ka
   clear da eo ka
   go_enter Tryz.func169,Tryz.ntmps169
   go_wp2_with (go_at_call 56;refine (bj w0 g HC.out.k p h _ _ HH.out).mono ?_;rintro e w1 ⟨he,h1,f1⟩;rw [hm] at he;subst he;have b1:=HR.out.keep HC.out.k f1;have r0:=b1.c0;have r1:=b1.c1;have r2:=b1.fr 0;have r3:=b1.fr 1;have j6:Hid (aQ w1 (w.heap.size+1+1) ag):=b1;clear b1)
   (try simp only [Exit.inBlock,Exit.then])
   refine bodyPost_ret (results_cell_row rfl _ _ (w.heap.size+1+1) _ _ _ _ rfl (j6.out.set ag).blk Tryz.underlying62 rfl bk) rfl ?_
   exact ⟨rfl,h1.cf (j6.out.cf HC.out.k ez _ _),(((HF.out.trans f1).new gB ez _).new gB ez _)⟩
  ·have eo:ct a b k=false:=by unfold ct;rw [decide_eq_false ka];rfl
   rw [eo] at hm ⊢
   have Un:(a.kind==k)=false:=by simpa using ka
   clear da eo ka
   go_enter Tryz.func169,Tryz.ntmps169
   go_wp2_with (go_at_call 56;refine (bj w0 g HC.out.k p h false _ HH.out).mono ?_;rintro e w1 ⟨he,h1,f1⟩;rw [hm] at he;subst he;have b1:=HR.out.keep HC.out.k f1;have r0:=b1.c0;have r1:=b1.c1;have r2:=b1.fr 0;have r3:=b1.fr 1;have j6:Hid (aQ w1 (w.heap.size+1+1) ag):=b1;clear b1)
   (try simp only [Exit.inBlock,Exit.then])
   refine bodyPost_ret (results_cell_row rfl _ _ (w.heap.size+1+1) _ _ _ _ rfl (j6.out.set ag).blk Tryz.underlying62 rfl bk) rfl ?_
   exact ⟨rfl,h1.cf (j6.out.cf HC.out.k ez _ _),(((HF.out.trans f1).new gB ez _).new gB ez _)⟩
 ·obtain ⟨hb,bq,xV⟩:=dX hm
  have OX:a.kind=k/\b.kind=k:=by unfold ct at hb;simp at hb;exact hb
  have rP:Hid (h.must true=h):=rfl
  have ES:h.mustB true=true:=by have:=hm;rw [hb] at this;exact this
  have Un:(a.kind==k)=true:=by simpa using OX.1
  have YQ:(b.kind==k)=true:=by simpa using OX.2
  obtain ⟨N,hN⟩:∃N,jY k op a b=N:=⟨_,rfl⟩
  have e1:h.reckV a b k op=⟨k,N⟩:=by unfold Hp.reckV;rw [if_pos hm,hN]
  rw [e1]
  clear hb bq xV OX da db
  cases hR:iI k op a b
  ·have e2:h.reckH a b k op=h.raise 2:=by unfold Hp.reckH;rw [if_pos hm,if_neg (by rw [hR];decide)]
   rw [e2]
   rcases hk with hk|hk
   ·subst hk
    have HN:Hid (wrap32 (dE op (wrap32 a.n) (wrap32 b.n))=N):=hN
    have DC:Hid (ey op (wrap32 b.n)=false):=hR
    clear hN hR e1 e2 hm
    go_enter Tryz.func169,Tryz.ntmps169
    go_wp2_with (first
     | (go_at_call 56;refine (bj w0 g HC.out.k p h true _ HH.out).mono ?_;rintro e w1 ⟨he,h1,f1⟩;rw [ES] at he;subst he;rw [rP.out] at h1;have b1:=HR.out.keep HC.out.k f1;have r0:=b1.c0;have r1:=b1.c1;have r2:=b1.fr 0;have r3:=b1.fr 1;have j6:Hid (aQ w1 (w.heap.size+1+1) ag):=b1;clear b1;have x1:=(HA.out.keep HC.out.k f1).c1;have y1:=(HB.out.keep HC.out.k f1).c1)
     | (go_at_call 215;refine (j7 op a.n b.n _ ia.1 ia.2 ib.1 ib.2).mono ?_;rintro e w5 ⟨he,kR⟩;subst he;rw [kR];clear kR w5)
     | (go_at_call 216;refine (vR op a.n b.n _).mono ?_;rintro e w6 ⟨he,Dj⟩;rw [HN.out,DC.out] at he;subst he;rw [Dj];clear Dj w6)
     | (go_at_call 167;refine (kg w0 g p h 2 _ h1 HC.out (by omega)).mono ?_;rintro e w2 ⟨rfl,h2,f2⟩;clear r0 r1 r2 r3;have b2:=j6.out.keep HC.out.k f2;have r0:=b2.c0;have r1:=b2.c1;have r2:=b2.fr 0;have r3:=b2.fr 1;have DL:Hid (aQ w2 (w.heap.size+1+1) ag):=b2;clear b2))
    (try simp only [Exit.inBlock,Exit.then])
    refine bodyPost_ret (results_cell_row rfl _ _ (w.heap.size+1+1) _ _ _ _ rfl (DL.out.set ⟨1,N⟩).blk Tryz.underlying62 rfl bk) rfl ?_
    exact ⟨rfl,h2.cf (DL.out.cf HC.out.k ez _ _),((((HF.out.trans f1).trans f2).new gB ez _).new gB ez _)⟩
   ·subst hk
    have HN:Hid (dE op a.n b.n=N):=hN
    have DC:Hid (ey op b.n=false):=hR
    clear hN hR e1 e2 hm
    go_enter Tryz.func169,Tryz.ntmps169
    go_wp2_with (first
     | (go_at_call 56;refine (bj w0 g HC.out.k p h true _ HH.out).mono ?_;rintro e w1 ⟨he,h1,f1⟩;rw [ES] at he;subst he;rw [rP.out] at h1;have b1:=HR.out.keep HC.out.k f1;have r0:=b1.c0;have r1:=b1.c1;have r2:=b1.fr 0;have r3:=b1.fr 1;have j6:Hid (aQ w1 (w.heap.size+1+1) ag):=b1;clear b1;have x1:=(HA.out.keep HC.out.k f1).c1;have y1:=(HB.out.keep HC.out.k f1).c1)
     | (go_at_call 215;refine (j7 op a.n b.n _ ia.1 ia.2 ib.1 ib.2).mono ?_;rintro e w5 ⟨he,kR⟩;rw [HN.out,DC.out] at he;subst he;rw [kR];clear kR w5)
     | (go_at_call 167;refine (kg w0 g p h 2 _ h1 HC.out (by omega)).mono ?_;rintro e w2 ⟨rfl,h2,f2⟩;clear r0 r1 r2 r3;have b2:=j6.out.keep HC.out.k f2;have r0:=b2.c0;have r1:=b2.c1;have r2:=b2.fr 0;have r3:=b2.fr 1;have DL:Hid (aQ w2 (w.heap.size+1+1) ag):=b2;clear b2))
    (try simp only [Exit.inBlock,Exit.then])
    refine bodyPost_ret (results_cell_row rfl _ _ (w.heap.size+1+1) _ _ _ _ rfl (DL.out.set ⟨2,N⟩).blk Tryz.underlying62 rfl bk) rfl ?_
    exact ⟨rfl,h2.cf (DL.out.cf HC.out.k ez _ _),((((HF.out.trans f1).trans f2).new gB ez _).new gB ez _)⟩
  ·have e2:h.reckH a b k op=h:=by unfold Hp.reckH;rw [if_pos hm,if_pos hR]
   rw [e2]
   rcases hk with hk|hk
   ·subst hk
    have HN:Hid (wrap32 (dE op (wrap32 a.n) (wrap32 b.n))=N):=hN
    have DC:Hid (ey op (wrap32 b.n)=true):=hR
    clear hN hR e1 e2 hm
    go_enter Tryz.func169,Tryz.ntmps169
    go_wp2_with (first
     | (go_at_call 56;refine (bj w0 g HC.out.k p h true _ HH.out).mono ?_;rintro e w1 ⟨he,h1,f1⟩;rw [ES] at he;subst he;rw [rP.out] at h1;have b1:=HR.out.keep HC.out.k f1;have r0:=b1.c0;have r1:=b1.c1;have r2:=b1.fr 0;have r3:=b1.fr 1;have j6:Hid (aQ w1 (w.heap.size+1+1) ag):=b1;clear b1;have x1:=(HA.out.keep HC.out.k f1).c1;have y1:=(HB.out.keep HC.out.k f1).c1)
     | (go_at_call 215;refine (j7 op a.n b.n _ ia.1 ia.2 ib.1 ib.2).mono ?_;rintro e w5 ⟨he,kR⟩;subst he;rw [kR];clear kR w5)
     | (go_at_call 216;refine (vR op a.n b.n _).mono ?_;rintro e w6 ⟨he,Dj⟩;rw [HN.out,DC.out] at he;subst he;rw [Dj];clear Dj w6))
    (try simp only [Exit.inBlock,Exit.then])
    refine bodyPost_ret (results_cell_row rfl _ _ (w.heap.size+1+1) _ _ _ _ rfl (j6.out.set ⟨1,N⟩).blk Tryz.underlying62 rfl bk) rfl ?_
    exact ⟨rfl,h1.cf (j6.out.cf HC.out.k ez _ _),(((HF.out.trans f1).new gB ez _).new gB ez _)⟩
   ·subst hk
    have HN:Hid (dE op a.n b.n=N):=hN
    have DC:Hid (ey op b.n=true):=hR
    clear hN hR e1 e2 hm
    go_enter Tryz.func169,Tryz.ntmps169
    go_wp2_with (first
     | (go_at_call 56;refine (bj w0 g HC.out.k p h true _ HH.out).mono ?_;rintro e w1 ⟨he,h1,f1⟩;rw [ES] at he;subst he;rw [rP.out] at h1;have b1:=HR.out.keep HC.out.k f1;have r0:=b1.c0;have r1:=b1.c1;have r2:=b1.fr 0;have r3:=b1.fr 1;have j6:Hid (aQ w1 (w.heap.size+1+1) ag):=b1;clear b1;have x1:=(HA.out.keep HC.out.k f1).c1;have y1:=(HB.out.keep HC.out.k f1).c1)
     | (go_at_call 215;refine (j7 op a.n b.n _ ia.1 ia.2 ib.1 ib.2).mono ?_;rintro e w5 ⟨he,kR⟩;rw [HN.out,DC.out] at he;subst he;rw [kR];clear kR w5))
    (try simp only [Exit.inBlock,Exit.then])
    refine bodyPost_ret (results_cell_row rfl _ _ (w.heap.size+1+1) _ _ _ _ rfl (j6.out.set ⟨2,N⟩).blk Tryz.underlying62 rfl bk) rfl ?_
    exact ⟨rfl,h1.cf (j6.out.cf HC.out.k ez _ _),(((HF.out.trans f1).new gB ez _).new gB ez _)⟩
abbrev YR (x:Hd):Obj:=.cells #[int i64 x.fr,int i64 x.til,int i64 x.pc,int i64 x.cls] 106
abbrev dH (m:Me) (P C K:Option Addr) (p c k:Nat):Obj:=.cells #[.slice P m.params.length p,int i64 m.ret.kind,int i64 m.ret.cls,int i64 m.stack,int i64 m.locs,int i64 m.regs,.slice C m.code.length c,.slice K m.hands.length k] 49
theorem yG (w0:World) (g:Ad) (p:Nat) (h:Hp) (m:Me) (P CC K:Option Addr) (pp c k:Nat) (pc:Int) (w:World) (hH:Hs w0 g w p h) (C:Cw w0 g h) (hK:kP w0 K m.hands) (ht:0≤h.thrown/\h.thrown<h.objs.length) :
  Calls Tryz.prog 60 #[.pointer (some ⟨p,0,none⟩),iU m P CC K pp c k,int i64 pc] w fun e w'=>e=.returned (int i64 (h.caughtL pc m.hands))/\Hs w0 g w' p h/\Fr w0.heap.size g.T w w':=by
 have cH:=hH.base
 obtain ⟨vo,vx,hv,H⟩:=hH
 have HA:Hid (cC w0 g w p h vo vx hv):=H
 have HC:Hid (Cw w0 g h):=C
 have HK:Hid (kP w K m.hands):=hK.bl H.bl
 have nY:Hid (cg w g.A h.file.classes):=C.cls.bl H.bl
 have NL:=hK.1
 unfold maxLen at NL
 obtain ⟨n,hn⟩:∃n:Nat,h.thrown=n:=⟨h.thrown.toNat,by omega⟩
 have kq:n<h.objs.length:=by omega
 have HN:Hid (h.thrown=n):=hn
 obtain ⟨gb,cap,mW,-,yC,hcc⟩:=kf H.obs (by omega)
 have NP:=(hcc n kq).1
 unfold maxLen at yC
 have WC:Hid (w.cell? ⟨gb,n*2,none⟩=some (int i64 (nth cA h.objs n).cls)):=NP
 have WD:Hid (vo=.slice (some ⟨gb,0,none⟩) h.objs.length cap):=mW
 have kp:(0:Int)≤(n:Int):=by omega
 have kb:(n:Int)<(h.objs.length:Int):=by omega
 have KM:Hid (∀x:Hd,h.fits x pc=(decide (x.fr≤pc)&&(decide (pc<x.til)&&(jU h.file.classes (nth cA h.objs n).cls x.cls&&fI h.file.classes (nth cA h.objs n).cls.toNat x.cls.toNat)))):=fun x=>by
  unfold Hp.fits Hp.obj gj;rw [hn,Int.toNat_natCast]
 have HM:Hid ((w.alloc (dH m P CC K pp c k)).cell? ⟨w.heap.size,7,none⟩=some (.slice K m.hands.length k)):=ak rfl
 clear H C hK ht hn hcc NP mW
 obtain ⟨R,hR⟩:∃R,h.caughtL pc m.hands=R:=⟨_,rfl⟩
 rw [hR]
 have HR:Hid (h.caughtL pc (m.hands.drop 0)=R):=by rw [List.drop_zero];exact hR
 clear hR
 generalize hX:(nth cA h.objs n).cls=X at *
 clear hX
 go_enter Tryz.func60,Tryz.ntmps60
 go_wp2
 go_loopw [7] (fun i wr=>∃q:Nat,q≤m.hands.length/\i=int i64 q/\Hid (Bl w wr)/\wr.cell? ⟨w.heap.size,7,none⟩=some (.slice K m.hands.length k)/\Hid (h.caughtL pc (m.hands.drop q)=R)) (fun i _=>m.hands.length-(intOf i).toNat)
 case atStart=>exact ⟨0,Nat.zero_le _,rfl,(Bl.refl w).alloc _,HM.out,HR⟩
 case round =>
  obtain ⟨q,hq,rfl,hg,c7,hr⟩:=hrel
  by_cases eQ:q<m.hands.length
  ·have Uo:=HK.out.bl hg.out
   rcases Uo.2 with h0|⟨b',gp,Sb,hcell⟩
   ·omega
   obtain ⟨g0,g1,g2,g3,-⟩:=hcell q eQ
   rw [Sb] at c7
   have HS:Hid (h.fits (nth eB m.hands q) pc=false->h.caughtL pc (m.hands.drop (q+1))=R):=fun hx=>(oM eQ hx).symm.trans hr.out
   have HT:Hid (h.fits (nth eB m.hands q) pc=true->(nth eB m.hands q).pc=R):=fun hx=>(pR eQ hx).symm.trans hr.out
   have hlt:=af (HA.out.old hg.out).blk
   have IX:Hid (∀o,cC w0 g (wr.alloc o) p h vo vx hv):=fun o=>HA.out.old (hg.out.alloc o)
   have q0:∀o,(wr.alloc o).cell? ⟨p,0,none⟩=some (.slice g.A h.file.classes.length g.a):=fun o=>(IX.out o).cells.c0
   have q2:∀o,(wr.alloc o).cell? ⟨p,2,none⟩=some (.slice (some ⟨gb,0,none⟩) h.objs.length cap):=fun o=>by rw [(IX.out o).cells.c2,WD.out]
   have YS:∀o,(wr.alloc o).cell? ⟨p,13,none⟩=some (int i64 (n:Int)):=fun o=>by rw [(IX.out o).cells.c13,HN.out]
   have qo:∀o,(wr.alloc o).cell? ⟨gb,n*2,none⟩=some (int i64 X):=fun o=>(hg.out.alloc o).cell WC.out
   have q7:∀o,(wr.alloc o).cell? ⟨w.heap.size,7,none⟩=some (.slice K m.hands.length k):=fun o=>by rw [Sb];exact ((Bl.refl wr).alloc o).cell c7
   have Up:Hid (∀o,cg (wr.alloc o) g.A h.file.classes):=fun o=>nY.out.bl (hg.out.alloc o)
   have HD:Hid (h.fits (nth eB m.hands q) pc=(decide ((nth eB m.hands q).fr≤pc)&&(decide (pc<(nth eB m.hands q).til)&&(jU h.file.classes X (nth eB m.hands q).cls&&fI h.file.classes X.toNat (nth eB m.hands q).cls.toNat)))):=KM.out _
   have Sc:Hid (∀o,(wr.alloc o).cell? ⟨w.heap.size,7,none⟩=some (.slice K m.hands.length k)):=q7
   clear hcell Uo hr q7 Sb
   generalize hY:nth eB m.hands q=Y at *
   clear hY
   by_cases t1:Y.fr≤pc
   ·have d1:decide (Y.fr≤pc)=true:=decide_eq_true t1
    by_cases t2:pc<Y.til
    ·have d2:decide (pc<Y.til)=true:=decide_eq_true t2
     obtain ⟨B,hB⟩:∃B,(jU h.file.classes X Y.cls&&fI h.file.classes X.toNat Y.cls.toNat)=B:=⟨_,rfl⟩
     have O6:Hid (h.fits Y pc=B):=by rw [HD.out,d1,d2,hB];rfl
     cases B
     ·have Lm:=HS.out O6.out
      have yH:Hid (h.caughtL pc (m.hands.drop (q+1))=R):=Lm
      clear Lm
      go_wp2
      go_quiet ((go_at_call 112;exact Calls.quiet_of_same ((fP _ _ _ _ _ _ ((Up.out _).bl (aR (Bl.refl _) _)) HC.out.tree).mono fun e w' hh=>⟨hh.1.trans (aj hB),hh.2⟩)))
      go_wp2
      go_roundw
      case rel=>exact ⟨q+1,by omega,by go_num,aR (hg.out.alloc _) _,Sc.out _,yH⟩
      case measure=>simp [intOf];omega
     ·have mK:Hid (Y.pc=R):=HT.out O6.out
      go_wp2
      go_quiet ((go_at_call 112;exact Calls.quiet_of_same ((fP _ _ _ _ _ _ ((Up.out _).bl (aR (Bl.refl _) _)) HC.out.tree).mono fun e w' hh=>⟨hh.1.trans (aj hB),hh.2⟩)))
      go_wp2
      go_ret
      exact ⟨lR mK.out,⟨vo,vx,hv,(IX.out _).drewN _⟩,(Fr.old cH (hg.out.alloc _)).drewN _⟩
    ·have d2:decide (pc<Y.til)=false:=decide_eq_false t2
     have yH:Hid (h.caughtL pc (m.hands.drop (q+1))=R):=HS.out (by rw [HD.out,d2,Bool.false_and,Bool.and_false])
     go_wp2
     go_quiet (fail)
     go_wp2
     go_roundw
     case rel=>exact ⟨q+1,by omega,by go_num,aR (hg.out.alloc _) _,Sc.out _,yH⟩
     case measure=>simp [intOf];omega
   ·have d1:decide (Y.fr≤pc)=false:=decide_eq_false t1
    have yH:Hid (h.caughtL pc (m.hands.drop (q+1))=R):=HS.out (by rw [HD.out,d1,Bool.false_and])
    go_wp2
    go_quiet (fail)
    go_wp2
    go_roundw
    case rel=>exact ⟨q+1,by omega,by go_num,aR (hg.out.alloc _) _,Sc.out _,yH⟩
    case measure=>simp [intOf];omega
  ·obtain rfl:q=m.hands.length:=by omega
   have HE:Hid (-1=R):=by have:=hr.out;rw [List.drop_length] at this;exact this
   go_wp2
   go_ret
   exact ⟨lR HE.out,⟨vo,vx,hv,HA.out.old hg.out⟩,Fr.old cH hg.out⟩
structure Ca where
 q:Nat
 lb:Nat
 lc:Nat
 P:Option Addr
 C:Option Addr
 K:Option Addr
 p:Nat
 c:Nat
 k:Nat
def om (a:Ca) (c:aH) (A:Option Addr) (cap:Nat):Array Value :=
 #[.slice a.P c.m.params.length a.p,int i64 c.m.ret.kind,int i64 c.m.ret.cls,int i64 c.m.stack,int i64 c.m.locs,int i64 c.m.regs,.slice a.C c.m.code.length a.c,.slice a.K c.m.hands.length a.k,
  .slice (some ⟨a.lb,0,none⟩) c.locs.length a.lc,.slice A c.stk.length cap,int i64 c.pc]
def bG (lb:Nat) (w:World) (A:Option Addr) (l:List Va):Prop :=
 l.length=0∨∃b off cs f,A=some ⟨b,off,none⟩/\w.heap[b]?=some (.cells cs 62 f)/\b≠lb /\
  ∀i,i<l.length->cs[off+i*2]?=some (int i64 (nth ag l i).kind)/\cs[off+i*2+1]?=some (int i64 (nth ag l i).n)
structure bp (w0 w:World) (a:Ca) (c:aH) (A:Option Addr) (cap:Nat):Prop where
 own:w0.heap.size≤a.q
 ownl:w0.heap.size≤a.lb
 blk:w.heap[a.q]?=some (.cells (om a c A cap) 111 (0,0))
 loc:cv w a.lb c.locs
 stk:bG a.lb w A c.stk
 me:kX w0 c.m a.P a.C a.K
 cap:c.stk.length≤cap
def Cs (w0 w:World) (a:Ca) (c:aH):Prop:=∃A cap,bp w0 w a c A cap
structure Fq (B:Nat) (T:TypeId) (a:Ca) (w w':World):Prop where
 bl:Below B w w'
 keep:∀(b:Nat) (cs:Array Value) (t:TypeId) (f:Nat×Nat),w.heap[b]?=some (.cells cs t f)->¬ig T t->b≠a.q->b≠a.lb->w'.heap[b]?=some (.cells cs t f)
theorem Fr.fq {B:Nat} {T:TypeId} {a:Ca} {w w':World} (h:Fr B T w w'):Fq B T a w w':=⟨h.bl,fun b cs t f e n _ _=>h.keep b cs t f e n⟩
theorem Fq.refl (B:Nat) (T:TypeId) (a:Ca) (w:World):Fq B T a w w:=(Fr.refl B T w).fq
section
variable {B:Nat} {T:TypeId} {a:Ca} {x y z:World}
theorem Fq.trans (h:Fq B T a x y) (k:Fq B T a y z):Fq B T a x z :=
 ⟨h.bl.trans k.bl,fun b cs t f e n n1 n2=>k.keep b cs t f (h.keep b cs t f e n n1 n2) n n1 n2⟩
theorem Fq.fr (h:Fr B T x y) (k:Fq B T a y z) (hq:x.heap.size≤a.q) (hl:x.heap.size≤a.lb):Fr B T x z :=
 ⟨h.bl.trans k.bl,fun b cs t f e n=>k.keep b cs t f (h.keep b cs t f e n) n (by have:=af e;omega) (by have:=af e;omega)⟩
end
theorem bG.keep {lb:Nat} {w w':World} {A:Option Addr} {l:List Va} (h:bG lb w A l)
  (k:∀b cs f,w.heap[b]?=some (.cells cs 62 f)->b≠lb->w'.heap[b]?=some (.cells cs 62 f)):bG lb w' A l:=by
 rcases h with h|⟨b,off,cs,f,h1,h2,h3,h4⟩
 ·exact Or.inl h
 ·exact Or.inr ⟨b,off,cs,f,h1,k b cs f h2 h3,h3,h4⟩
theorem bG.fr {B lb:Nat} {T:TypeId} {w w':World} {A:Option Addr} {l:List Va} (h:bG lb w A l) (k:Tk T) (f:Fr B T w w'):bG lb w' A l :=
 h.keep fun b cs fz e _=>f.keep b cs _ fz e k.nv
theorem cv.frr {B:Nat} {T:TypeId} {w w':World} {b:Nat} {l:List Va} (h:cv w b l) (k:Tk T) (f:Fr B T w w'):cv w' b l:=⟨f.keep _ _ _ _ h.blk k.nv,h.len⟩
section
variable {B:Nat} {T:TypeId} {w0 w w':World} {a:Ca} {c:aH}
theorem bp.fr {A:Option Addr} {cap:Nat} (h:bp w0 w a c A cap) (k:Tk T) (f:Fr B T w w'):bp w0 w' a c A cap :=
 ⟨h.own,h.ownl,f.keep _ _ _ _ h.blk k.nc,h.loc.frr k f,h.stk.fr k f,h.me,h.cap⟩
theorem Cs.fr (h:Cs w0 w a c) (k:Tk T) (f:Fr B T w w'):Cs w0 w' a c:=by
 obtain ⟨A,cap,h⟩:=h
 exact ⟨A,cap,h.fr k f⟩
end
section
variable {lb:Nat} {w:World} {A:Option Addr} {l:List Va}
theorem bG.vas (h:bG lb w A l) (hm:l.length≤maxLen):wR w A l:=by
 refine ⟨hm,?_⟩
 rcases h with h|⟨b,off,cs,f,h1,h2,h3,h4⟩
 ·exact Or.inl h
 ·exact Or.inr ⟨b,off,h1,fun i hi=>⟨(aa h2).trans (h4 i hi).1,(aa h2).trans (h4 i hi).2⟩⟩
theorem bG.take (h:bG lb w A l) (n:Nat):bG lb w A (l.take n):=by
 rcases h with h|⟨b,off,cs,f,h1,h2,h3,h4⟩
 ·left;rw [List.length_take];omega
 ·refine Or.inr ⟨b,off,cs,f,h1,h2,h3,fun i hi=>?_⟩
  simp only [List.length_take] at hi
  rw [DT (by omega)]
  exact h4 i (by omega)
end
theorem bG.drop {lb:Nat} {w:World} {b off:Nat} {l:List Va} (h:bG lb w (some ⟨b,off,none⟩) l) (n:Nat):bG lb w (some ⟨b,off+n*2,none⟩) (l.drop n):=by
 rcases h with h|⟨b',gp,cs,f,h1,h2,h3,h4⟩
 ·left;rw [List.length_drop];omega
 ·simp only [Option.some.injEq,Addr.mk.injEq] at h1
  obtain ⟨rfl,rfl,-⟩:=h1
  refine Or.inr ⟨b,off+n*2,cs,f,rfl,h2,h3,fun i hi=>?_⟩
  simp only [List.length_drop] at hi
  rw [vT]
  have:=h4 (n+i) (by omega)
  have e1:off+n*2+i*2=off+(n+i)*2:=by omega
  have e2:off+n*2+i*2+1=off+(n+i)*2+1:=by omega
  rw [e1]
  exact this
structure ET (w:World) (a:Ca) (c:aH) (A:Option Addr) (cap:Nat):Prop where
 c0:w.cell? ⟨a.q,0,none⟩=some (.slice a.P c.m.params.length a.p)
 c1:w.cell? ⟨a.q,1,none⟩=some (int i64 c.m.ret.kind)
 c2:w.cell? ⟨a.q,2,none⟩=some (int i64 c.m.ret.cls)
 c3:w.cell? ⟨a.q,3,none⟩=some (int i64 c.m.stack)
 c4:w.cell? ⟨a.q,4,none⟩=some (int i64 c.m.locs)
 c5:w.cell? ⟨a.q,5,none⟩=some (int i64 c.m.regs)
 c6:w.cell? ⟨a.q,6,none⟩=some (.slice a.C c.m.code.length a.c)
 c7:w.cell? ⟨a.q,7,none⟩=some (.slice a.K c.m.hands.length a.k)
 c8:w.cell? ⟨a.q,8,none⟩=some (.slice (some ⟨a.lb,0,none⟩) c.locs.length a.lc)
 c9:w.cell? ⟨a.q,9,none⟩=some (.slice A c.stk.length cap)
 c10:w.cell? ⟨a.q,10,none⟩=some (int i64 c.pc)
section
variable {w0 w:World} {a:Ca} {c:aH} {A:Option Addr} {cap:Nat}
theorem bp.cells (H:bp w0 w a c A cap):ET w a c A cap:=by
 constructor<;>(rw [aa H.blk];rfl)
theorem bp.free (H:bp w0 w a c A cap) (i:Nat):w.frozen? ⟨a.q,i,none⟩=false:=ay H.blk i
theorem bp.apart (H:bp w0 w a c A cap):a.lb≠a.q:=by
 intro h
 have h1:=H.loc.blk
 rw [h,H.blk] at h1
 simp at h1
theorem bp.setStk (H:bp w0 w a c A cap) {A':Option Addr} {cap':Nat} {l:List Va} (h:bG a.lb w A' l) (hc:l.length≤cap') :
  bp w0 (w.setCell ⟨a.q,9,none⟩ (.slice A' l.length cap')) a { c with stk:=l } A' cap':=by
 refine ⟨H.own,H.ownl,by rw [ax H.blk];rfl,⟨?_,H.loc.len⟩,?_,H.me,hc⟩
 ·rw [aA H.apart];exact H.loc.blk
 ·refine h.keep fun b cs f e n=>?_
  rw [aA]
  ·exact e
  ·rintro rfl;rw [H.blk] at e;simp at e
theorem bp.setPc (H:bp w0 w a c A cap) (n:Int) :
  bp w0 (w.setCell ⟨a.q,10,none⟩ (int i64 n)) a { c with pc:=n } A cap:=by
 refine ⟨H.own,H.ownl,by rw [ax H.blk];rfl,⟨?_,H.loc.len⟩,?_,H.me,H.cap⟩
 ·rw [aA H.apart];exact H.loc.blk
 ·refine H.stk.keep fun b cs f e n=>?_
  rw [aA]
  ·exact e
  ·rintro rfl;rw [H.blk] at e;simp at e
end
theorem bp.cf {T:TypeId} {w0 w:World} {a:Ca} {c:aH} {A:Option Addr} {cap:Nat} (H:bp w0 w a c A cap) (k:Tk T) (i:Nat) (v:Value):Cf w0.heap.size T w (w.setCell ⟨a.q,i,none⟩ v) :=
 (Cf.refl _ _ w).set H.blk k.nc H.own v
section
variable {w0 w:World}
theorem bp.fq {a:Ca} {c:aH} {A:Option Addr} {cap:Nat} (H:bp w0 w a c A cap) (T:TypeId) (i:Nat) (v:Value):Fq w0.heap.size T a w (w.setCell ⟨a.q,i,none⟩ v) :=
 ⟨(Below.refl _ w).setCell H.own v,fun b cs t f e n n1 n2=>by rw [aA n1];exact e⟩
theorem eM.cf {w':World} {T:TypeId} {b:Nat} {l:List Va} (h:eM b w w') (k:Tk T) (hL:cv w b l) (hb:w0.heap.size≤b) (hs:w0.heap.size≤w.heap.size):Cf w0.heap.size T w w' :=
 ⟨⟨h.os,h.tape,h.output,h.size,fun i hi=>h.block i (by omega) (by omega)⟩,fun i cs t f e n=>by
  have hi:=af e
  rw [h.block i hi]
  ·exact e
  ·rintro rfl;rw [hL.blk] at e;simp at e;exact k.nv (e.2.1▸n)⟩
theorem eM.fq {w':World} {a:Ca} {T:TypeId} (h:eM a.lb w w') (hb:w0.heap.size≤a.lb) (hs:w0.heap.size≤w.heap.size):Fq w0.heap.size T a w w' :=
 ⟨⟨h.os,h.tape,h.output,h.size,fun i hi=>h.block i (by omega) (by omega)⟩,fun i cs t f e n n1 n2=>by rw [h.block i (af e) n2];exact e⟩
theorem bp.setLoc {w':World} {a:Ca} {c:aH} {A:Option Addr} {cap:Nat} (H:bp w0 w a c A cap) (h:eM a.lb w w') {l:List Va} (hl:cv w' a.lb l) (hn:l.length=c.locs.length) :
  bp w0 w' a { c with locs:=l } A cap:=by
 refine ⟨H.own,H.ownl,?_,hl,?_,H.me,H.cap⟩
 ·rw [h.block _ (af H.blk) (Ne.symm H.apart),H.blk]
  simp only [om,hn]
 ·exact H.stk.keep fun b cs f e n=>by rw [h.block _ (af e) n];exact e
end
theorem kH (h:Hp) (ho:h.over=false) (b:Bool):h.mustB b=b:=by unfold Hp.mustB;rw [ho];simp
theorem nO:(Tryz.prog.info? 62).map (fun i=>(i.zero,i.size,i.bytes))=some (some (.agg #[int i64 0,int i64 0]),2,16):=by kernel_rfl
theorem BU:∀k:Nat,aL (List.replicate k ag)=(List.replicate k [Value.int .i64 0,Value.int .i64 0]).flatten
 | 0=>rfl
 | k+1=>by rw [List.replicate_succ,List.replicate_succ,List.flatten_cons,<-BU k];rfl
theorem EU:∀(k j:Nat),j<k*2->(aL (List.replicate k ag))[j]?=some (int i64 0)
 | 0,j,h=>by omega
 | k+1,0,_=>by rw [List.replicate_succ];rfl
 | k+1,1,_=>by rw [List.replicate_succ];rfl
 | k+1,j+2,h=>by
  rw [List.replicate_succ]
  show (aL (List.replicate k ag))[j]?=_
  exact EU k j (by omega)
theorem Jb (k:Nat):madeCells #[int i64 0,int i64 0] (k*2)=(aL (List.replicate k ag)).toArray:=by
 apply Array.ext_getElem?
 intro j
 by_cases hj:j<k*2
 ·have h2:=EU k j hj
  simp only [List.getElem?_toArray,h2]
  unfold madeCells
  have hm:j%2=0∨j%2=1:=by omega
  rcases hm with hm|hm<;>simp [hj,hm]
 ·rw [Array.getElem?_eq_none (by rw [size_madeCells];omega),Array.getElem?_eq_none (by simp [eE];omega)]
theorem Aa (n:Nat) (hn:n≤1000000) (u:World):(Instr.makeSlice 58 (int i64 (n:Int)) (int i64 (n:Int))).run Tryz.prog u=.ok (.slice (some ⟨u.heap.size,0,none⟩) n n) (u.alloc (.cells (aL (List.replicate n ag)).toArray 62)):=by
 obtain ⟨i,hi,hz,hs,hb⟩:=info_parts nO
 have h:=run_make u 58 62 i _ Tryz.underlying58 hi hz .i64 .i64 (n:Int) (n:Int) (by omega) (Int.le_refl _) (by rw [hb];omega) (by omega)
 rw [hs] at h
 simp only [Int.toNat_natCast] at h
 rw [<-Jb]
 exact h
theorem cv.new (w:World) (l:List Va) (hl:l.length≤maxLen):cv (w.alloc (.cells (aL l).toArray 62)) w.heap.size l:=⟨aD _ _ _,hl⟩
theorem cv.stk {w:World} {b lb:Nat} {l:List Va} (h:cv w b l) (hb:b≠lb):bG lb w (some ⟨b,0,none⟩) l :=
 Or.inr ⟨b,0,_,_,rfl,h.blk,hb,fun i hi=>by
  have:=fL l i hi
  simpa using this⟩
def pG (w0:World) (g:Ad) (p:Nat) (a:Ca) (A:Option Addr) (w:World) (many:Nat) (h:Hp) (c:aH) (l:List Va) (same:Bool) (e:Ending) (w':World):Prop :=
 ∃A1 cV bc,e=.returned (.slice A1 many cV)/\bG a.lb w' A1 l/\Hs w0 g w' p h/\bp w0 w' a c A bc/\Fq w0.heap.size g.T a w w'/\(same=true->∀x y,A=some x->A1=some y->y.block=x.block)
section
variable (w0:World) (g:Ad)
theorem bO (k:Tk g.T) (p:Nat) (h:Hp) (a:Ca) (c:aH) (many:Nat) (w:World) (A:Option Addr) (cap:Nat) (hH:Hs w0 g w p h) (H:bp w0 w a c A cap) (ho:h.over=false) (hm:many≤c.stk.length) (hs:c.stk.length≤1000) :
  Calls Tryz.prog 57 #[.pointer (some ⟨p,0,none⟩),.pointer (some ⟨a.q,0,none⟩),int i64 (many:Int)] w fun e w' =>
   pG w0 g p a A w many h (c.cut many) (c.top many) true e w':=by
 have HC:Hid (bp w0 w a c A cap):=H
 have HH:Hid (Hs w0 g w p h):=hH
 have c9:=H.cells.c9
 have f9:=H.free 9
 have mH:=H.cap
 have ES:(!h.over)=true:=by rw [ho];rfl
 obtain ⟨n,hn⟩:∃n,c.stk.length=n+many:=⟨c.stk.length-many,by omega⟩
 have e1:c.top many=c.stk.drop n:=by unfold aH.top;rw [if_pos hm];congr 1;omega
 have e2:c.cut many={ c with stk:=c.stk.take n }:=by unfold aH.cut;rw [if_pos hm];congr 2;omega
 rw [e1,e2]
 clear e1 e2 H hH hm
 have hlt:(c.stk.take n).length=n:=by simp;omega
 have Sd:(c.stk.drop n).length=many:=by simp;omega
 have HS:Hid (bG a.lb w A c.stk):=HC.out.stk
 have HN:Hid (c.stk.length=n+many):=hn
 rw [hn] at c9 hs mH
 clear hn
 go_enter Tryz.func57,Tryz.ntmps57
 go_wp2_with (go_at_call 56;refine (dh w0 g p h _ HH.out).mono ?_;rintro e w1 ⟨he,hw1⟩;rw [ES] at he;subst he;subst hw1)
 ·go_ret
  refine ⟨A,_,n,rfl,Or.inl (by omega),HH.out.cf (HC.out.cf k 9 _),?_,HC.out.fq _ 9 _,fun _ x y h1 h2=>by rw [h1] at h2;simp at h2;rw [h2]⟩
  have hx:=HC.out.setStk (cap':=n) (HS.out.take n) (by omega)
  rw [hlt] at hx
  exact hx
 ·go_ret
  refine ⟨_,_,cap,rfl,?_,HH.out.cf (HC.out.cf k 9 _),?_,HC.out.fq _ 9 _,fun _ x y h1 h2=>by subst h1;simp at h2;rw [<-h2];unfold Addr.add;split<;>rfl⟩
  ·rcases HS.out with h0|⟨b,off,cs,f,rfl,-⟩
   ·exact Or.inl (by rw [Sd];have:=HN.out;omega)
   ·have e:(⟨b,off,none⟩:Addr).add (n*2)=⟨b,off+n*2,none⟩:=by simp [Addr.add]
    have hx:=HC.out.setStk (cap':=cap) (HS.out.take n) (by omega)
    rw [hlt] at hx
    have hy:=HS.out.drop n
    show bG a.lb _ (some ((⟨b,off,none⟩:Addr).add (n*2))) _
    rw [e]
    refine hy.keep fun b' cs' f' e' n'=>?_
    rw [aA]
    ·exact e'
    ·rintro rfl;rw [HC.out.blk] at e';simp at e'
  ·have hx:=HC.out.setStk (cap':=cap) (HS.out.take n) (by omega)
   rw [hlt] at hx
   exact hx
set_option maxRecDepth 10000 in
theorem dK (k:Tk g.T) (p:Nat) (h:Hp) (a:Ca) (c:aH) (many:Nat) (w:World) (A:Option Addr) (cap:Nat) (hH:Hs w0 g w p h) (H:bp w0 w a c A cap) (ho:h.over=false) (hm:c.stk.length<many) (hs:many≤4) :
  Calls Tryz.prog 57 #[.pointer (some ⟨p,0,none⟩),.pointer (some ⟨a.q,0,none⟩),int i64 (many:Int)] w fun e w' =>
   pG w0 g p a A w many (h.fin 6) c (List.replicate many ag) false e w':=by
 have HC:Hid (bp w0 w a c A cap):=H
 have HH:Hid (Hs w0 g w p h):=hH
 have c9:=H.cells.c9
 have mH:=H.cap
 have rP:Hid (h.must false=h.fin 6):=rfl
 have Se:Hid (h.mustB false=false):=rfl
 clear H hH ho
 generalize hL:c.stk.length=L at c9 hm mH
 clear hL
 have hd:decide (many≤L)=false:=decide_eq_false (by omega)
 have KY:=Aa many (by omega)
 go_enter Tryz.func57,Tryz.ntmps57
 go_wp2_with (go_at_call 56;refine (bj w0 g k p h false _ HH.out).mono ?_;rintro e w1 ⟨he,h1,f1⟩;rw [Se.out] at he;subst he;rw [rP.out] at h1)
 go_ret
 have cH:=h1.base
 have Sf:a.lb<w1.heap.size:=af (HC.out.fr k f1).loc.blk
 have F:Fr w0.heap.size g.T w1 (w1.alloc (.cells (aL (List.replicate many ag)).toArray 62)):=(Fr.refl _ _ _).alloc cH _
 exact ⟨_,_,cap,rfl,(cv.new w1 (List.replicate many ag) (by unfold maxLen;simp;omega)).stk (by omega),h1.cf ((Cf.refl _ _ _).alloc cH _),(HC.out.fr k f1).fr k F,(f1.trans F).fq,fun h=>by simp at h⟩
theorem EW (k:Tk g.T) (p:Nat) (h:Hp) (a:Ca) (c:aH) (many:Nat) (w:World) (A:Option Addr) (cap:Nat) (hH:Hs w0 g w p h) (H:bp w0 w a c A cap) (ho:h.over=false) (hm:many≤4) (hs:c.stk.length≤1000) :
  Calls Tryz.prog 57 #[.pointer (some ⟨p,0,none⟩),.pointer (some ⟨a.q,0,none⟩),int i64 (many:Int)] w fun e w' =>
   pG w0 g p a A w many (h.must (c.has many)) (c.cut many) (c.top many) (c.has many) e w':=by
 by_cases hl:many≤c.stk.length
 ·have e:h.must (c.has many)=h:=by unfold Hp.must;rw [if_pos (yh hl)]
  rw [e,yh hl]
  exact bO w0 g k p h a c many w A cap hH H ho hl hs
 ·have e:h.must (c.has many)=h.fin 6:=by unfold Hp.must aH.has;rw [if_neg (by simpa using hl)]
  have e1:c.top many=List.replicate many ag:=by unfold aH.top;rw [if_neg hl]
  have e2:c.cut many=c:=by unfold aH.cut;rw [if_neg hl]
  have e3:c.has many=false:=by unfold aH.has;exact decide_eq_false hl
  rw [e,e1,e2,e3]
  exact dK w0 g k p h a c many w A cap hH H ho (by omega) hm
end
theorem bG.news {lb:Nat} {w:World} {b off:Nat} {l:List Va} (h:bG lb w (some ⟨b,off,none⟩) l) (hl:0<l.length):∀j u,(aL l)[j]?=some u->w.cell? ((⟨b,off,none⟩:Addr).add j)=some u:=by
 rcases h with h|⟨b',gp,cs,f,h1,h2,h3,h4⟩
 ·omega
 simp only [Option.some.injEq,Addr.mk.injEq] at h1
 obtain ⟨rfl,rfl,-⟩:=h1
 intro j u hu
 have hj:j<l.length*2:=by
  rw [<-eE]
  exact (List.getElem?_eq_some_iff.mp hu).1
 have e:(⟨b,off,none⟩:Addr).add j=⟨b,off+j,none⟩:=by simp [Addr.add]
 rw [e,aa h2]
 have hx:=fL l (j/2) (by omega)
 have hy:=h4 (j/2) (by omega)
 have hm:j=j/2*2∨j=j/2*2+1:=by omega
 rcases hm with hm|hm
 ·have e2:off+j=off+j/2*2:=by omega
  rw [hm,hx.1] at hu
  rw [e2,hy.1];exact hu
 ·have e2:off+j=off+j/2*2+1:=by omega
  rw [hm,hx.2] at hu
  rw [e2,hy.2];exact hu
theorem BV {ops:Array Oper} {o:Oper} {a:Act} {W:World} {K:Act->World->Prop} {Q:Exit->Act->World->Prop} {E:Prop} (hgd:o.guard=none) (s x:Operand)
  (ho:o.op=.call { callee:=.builtin .append,args:=#[s,x],argTypes:=#[58,58] })
  (base B:Nat) (hs:a.eval s=.slice (some ⟨B,0,none⟩) 0 0) (hB:W.heap[B]?=some (.cells #[] 62 (0,0))) (hb:base≤B)
  (A:Option Addr) (n cap lb:Nat) (l:List Va) (hx:a.eval x=.slice A n cap) (hn:l.length=n) (hst:bG lb W A l) (hl:n≤1000)
  (h:∀v' w',w'.ownsRow base 62 2 v' n (aL l)->W.grownBy w' (some B)->v'.ownBlock=some B∨v'.ownBlock=some W.heap.size->K (a.put o.dst v') w') :
  if Region.wanted o (yielded ops a.tmps)=true then Oper.wp Tryz.prog o a W K Q else E:=by
 obtain ⟨i,hi,hz,hsz,mY⟩:=info_parts nO
 have hw:Region.wanted o (yielded ops a.tmps)=true:=by simp [Region.wanted,hgd]
 rw [if_pos hw]
 have WE:=af hB
 have fZ:W.ownsRow base 62 2 (.slice (some ⟨B,0,none⟩) 0 0) 0 []:=⟨rfl,Or.inr ⟨B,0,#[],rfl,hb,hB,Nat.le_refl _,by unfold maxLen;omega,rfl,rfl⟩⟩
 by_cases h0:n=0
 ·have gJ:l=[]:=List.eq_nil_of_length_eq_zero (by omega)
  subst gJ
  subst h0
  have Sg:Src Tryz.prog i.size 58 (.slice A 0 cap) 0 [] W:=by
   cases A with
   | none=>exact Src.ofNil W Tryz.underlying58 cap
   | some ad=>exact Src.ofSlice W Tryz.underlying58 ad 0 cap [] (by simp) (by simp) (by simp)
  have hr:=run_append_nothing (P:=Tryz.prog) W 58 58 o.type 62 i Tryz.underlying58 hi (some ⟨B,0,none⟩) 0 0 (Nat.le_refl _) (.slice A 0 cap) Sg
  unfold Oper.wp execOp
  simp only [ho,resolve,invoke,builtin,Sem.run_bind,Sem.run_pure,Result.andThen_ok,List.map_toArray,List.map_cons,List.map_nil,hs,hx,hr]
  exact h _ _ fZ ⟨rfl,rfl,rfl,Nat.le_refl _,fun _ _ _=>rfl⟩ (Or.inl rfl)
 ·rcases hst with h1|⟨b,off,cs,f,rfl,h2,h3,h4⟩
  ·omega
  obtain ⟨v',w',hr,o1,o2,-,o3⟩:=run_append_own_at (P:=Tryz.prog) W base 58 o.type 62 i _ 2 16 Tryz.underlying58 hi hz hsz mY rfl (by omega)
   (.slice (some ⟨B,0,none⟩) 0 0) 0 [] fZ ⟨b,off,none⟩ n cap (aL l) (by rw [eE,hn])
   (bG.news (Or.inr ⟨b,off,cs,f,rfl,h2,h3,h4⟩:bG lb W (some ⟨b,off,none⟩) l) (by omega)) (oK l) (by unfold maxLen;omega) (by omega) (by omega)
  unfold Oper.wp execOp
  simp only [ho,resolve,invoke,builtin,Sem.run_bind,Sem.run_pure,Result.andThen_ok,List.map_toArray,List.map_cons,List.map_nil,hs,hx,hr]
  exact h _ _ (by simpa using o1) o2 o3
theorem b8 {w:World} {b:Nat} {cs:Array Value} {t:TypeId} (hb:b=w.heap.size):(w.alloc (.cells cs t)).heap[b]?=some (.cells cs t (0,0)):=by subst hb;exact aD _ _ _
theorem iB {w:World} {b:Nat} {o o':Obj} (hb:b<w.heap.size) (h:w.heap[b]?=some o):(w.alloc o').heap[b]?=some o:=(Below.heap_alloc _ _ _ hb).trans h
theorem nP {W0 W w1:World} (h:Bl W0 W) {row:Option Nat} (hg:W.grownBy w1 row) (hr:∀k,row=some k->W0.heap.size≤k):Bl W0 w1:=Below.grown h hg h.size hr
theorem Hs.old {w0 w w':World} {g:Ad} {p:Nat} {h:Hp} (H:Hs w0 g w p h) (hb:Bl w w'):Hs w0 g w' p h:=by
 obtain ⟨vo,vx,hv,H⟩:=H
 exact ⟨vo,vx,hv,H.old hb⟩
theorem bp.old {w0 w w':World} {a:Ca} {c:aH} {A:Option Addr} {cap:Nat} (h:bp w0 w a c A cap) (hb:Bl w w'):bp w0 w' a c A cap :=
 ⟨h.own,h.ownl,(hb.block _ (af h.blk)).trans h.blk,⟨(hb.block _ (af h.loc.blk)).trans h.loc.blk,h.loc.len⟩,h.stk.keep fun b cs f e _=>(hb.block _ (af e)).trans e,h.me,h.cap⟩
theorem Ab {w:World} {base lb n:Nat} {b cap:Nat} {l:List Va} (h:w.ownsRow base 62 2 (.slice (some ⟨b,0,none⟩) n cap) n (aL l)) (hl:lb<base) (hn:n=l.length):bG lb w (some ⟨b,0,none⟩) l/\l.length≤cap:=by
 subst hn
 rcases h.2 with ⟨h1,h2⟩|⟨gb,cp,cur,h1,h2,h3,h4,h5,h6,h7⟩
 ·simp at h1
 ·simp at h1
  obtain ⟨rfl,rfl⟩:=h1
  refine ⟨Or.inr ⟨b,0,cur,(0,0),rfl,h3,by omega,fun i hi=>?_⟩,h4⟩
  have hv:=fL l i hi
  rw [<-h7] at hv
  rw [List.getElem?_take,if_pos (by omega),List.getElem?_take,if_pos (by omega)] at hv
  simpa using hv
theorem tJ (A:Option Addr) (c n:Nat) (l:List Va) (w:World) (hl:wR w A l) (hb:l.length≤1000000) (hn:n=l.length) :
  Calls Tryz.prog 54 #[.slice A n c] w fun e w'=>e=.returned (int i64 (aP l:Nat))/\w'=w:=by
 subst hn
 exact ER A c l w hl hb
theorem EX {w0:World} {g:Ad} (k:Tk g.T) {p:Nat} {h:Hp} {a:Ca} {c:aH} {v:Va} {w w2:World} {A:Option Addr} {cap gg bc:Nat} (HH:Hs w0 g (w.alloc (cS v)) p h) (HC:bp w0 (w.alloc (cS v)) a c A cap) (Sf:a.lb<w.heap.size) (cH:w0.heap.size≤w.heap.size)
  (hb:Bl (w.alloc (cS v)) w2) (ho:w2.ownsRow (w.heap.size+1) 62 2 (.slice (some ⟨gg,0,none⟩) (c.stk.length+1) bc) (c.stk.length+1) (aL c.stk++[int i64 v.kind,int i64 v.n])) :
  bp w0 (w2.setCell ⟨a.q,9,none⟩ (.slice (some ⟨gg,0,none⟩) (c.stk.length+1) bc)) a (c.put v) (some ⟨gg,0,none⟩) bc /\
  Hs w0 g (w2.setCell ⟨a.q,9,none⟩ (.slice (some ⟨gg,0,none⟩) (c.stk.length+1) bc)) p h /\
  Fq w0.heap.size g.T a w (w2.setCell ⟨a.q,9,none⟩ (.slice (some ⟨gg,0,none⟩) (c.stk.length+1) bc)):=by
 have e:aL c.stk++[int i64 v.kind,int i64 v.n]=aL (c.stk++[v]):=by rw [fg];rfl
 rw [e] at ho
 obtain ⟨hs,hc⟩:=Ab ho (lb:=a.lb) (by omega) (by simp)
 have H2:=HC.old hb
 have h1:=H2.setStk hs hc
 have el:(c.stk++[v]).length=c.stk.length+1:=by simp
 rw [el] at h1
 refine ⟨h1,(HH.old hb).cf (H2.cf k 9 _),Fq.trans (Fr.fq ?_) (H2.fq _ 9 _)⟩
 exact Fr.old cH (Bl.trans ((Bl.refl w).alloc _) hb)
theorem kh (w0:World) (g:Ad) (k:Tk g.T) (p:Nat) (h:Hp) (a:Ca) (c:aH) (v:Va) (w:World) (hH:Hs w0 g w p h) (hC:Cs w0 w a c) (hs:c.stk.length≤1000) :
  Calls Tryz.prog 61 #[.pointer (some ⟨p,0,none⟩),.pointer (some ⟨a.q,0,none⟩),iA v] w fun e w' =>
   e=.returned (.tuple #[])/\Hs w0 g w' p (h.putH c v)/\Cs w0 w' a (c.put v)/\Fq w0.heap.size g.T a w w':=by
 have cH:=hH.base
 have HF:Hid (Fr w0.heap.size g.T w (w.alloc (cS v))):=(Fr.refl _ _ w).alloc cH _
 have HH:Hid (Hs w0 g (w.alloc (cS v)) p h):=hH.cf ((Cf.refl _ _ w).alloc cH _)
 have HV:Hid (aQ (w.alloc (cS v)) w.heap.size v):=aQ.new w v
 obtain ⟨A,cap,H0⟩:=hC
 have cU:a.q<w.heap.size:=af H0.blk
 have Sf:a.lb<w.heap.size:=af H0.loc.blk
 have H:=H0.fr k HF.out
 have HC:Hid (bp w0 (w.alloc (cS v)) a c A cap):=H
 have c9:=H.cells.c9
 have f9:=H.free 9
 have v0:=HV.out.c0
 have v1:=HV.out.c1
 clear H hH H0
 obtain ⟨i0,ta,sd,tf,th⟩:=info_parts nO
 have hsz:(w.alloc (cS v)).heap.size=w.heap.size+1:=by simp
 have k1:a.q<w.heap.size+1:=by omega
 have k2:a.q<w.heap.size+1+1:=by omega
 have k3:a.q<w.heap.size+1+1+1:=by omega
 go_enter Tryz.func61,Tryz.ntmps61
 go_wp2
 have HS:Hid (∀W,Bl (w.alloc (cS v)) W->bG a.lb W A c.stk):=fun W hb=>HC.out.stk.keep fun b cs f e _=>(hb.block _ (af e)).trans e
 have HQ:Hid (∀W,Bl (w.alloc (cS v)) W->W.cell? ⟨a.q,9,none⟩=some (.slice A c.stk.length cap)/\W.frozen? ⟨a.q,9,none⟩=false/\W.cell? ⟨w.heap.size,0,none⟩=some (int i64 v.kind)/\W.cell? ⟨w.heap.size,1,none⟩=some (int i64 v.n)) :=
  fun W hb=>⟨hb.cell HC.out.cells.c9,(Below.frozen hb (p:=⟨a.q,9,none⟩) (by simp;omega)).trans (HC.out.free 9),hb.cell HV.out.c0,hb.cell HV.out.c1⟩
 go_region_law (first
  | (refine BV rfl _ _ rfl (w.heap.size+1) _ rfl (by first|exact b8 (by simp)|exact iB (by simp) (b8 (by simp))) (by simp) A c.stk.length cap a.lb c.stk rfl rfl (HS.out _ (by repeat (first|exact Bl.refl _|refine Bl.alloc ?_ _|refine Bl.drew ?_))) hs ?_;intro v1 w1 O7 iH O8;have hb1:Bl (w.alloc (cS v)) w1:=(nP (by repeat (first|exact Bl.refl _|refine Bl.alloc ?_ _|refine Bl.drew ?_)) iH (by intro k hk;simp at hk;rw [hsz];omega));have Hz:∀k,v1.ownBlock=some k->w.heap.size+1≤k:=(by intro k hk;rw [hk] at O8;simp at O8;omega);obtain ⟨q9,z9,r0,r1⟩:=HQ.out w1 hb1)
  | (refine step_append_lies _ rfl _ _ _ rfl (w.heap.size+1) 62 i0 _ 2 16 Tryz.underlying58 ta sd tf th rfl (by omega) v1 c.stk.length (aL c.stk) rfl (by first|exact O7|exact O7.alloc _) _ 1 1 [int i64 v.kind,int i64 v.n] rfl rfl (World.news_of_block (cs:=#[int i64 v.kind,int i64 v.n]) (t:=62) (fr:=(0,0)) (by first|exact b8 rfl|(rw [iH.block _ (by simp) (by simp)];first|exact b8 (by simp)|exact iB (by simp) (b8 (by simp))))) (by simp [Value.oneCell']) (by omega) (by unfold maxLen;omega) (by omega) (by have:=hb1.size;rw [hsz] at this;simp;omega) _ rfl ?_;intro gg bc w2 O9 bK hat hlt;have dA:Bl (w.alloc (cS v)) w2:=(nP (by first|exact hb1|exact hb1.alloc _) bK (by rw [hsz];exact Hz));obtain ⟨p9,y9,-,-⟩:=HQ.out w2 dA))
 all_goals
  obtain ⟨Si,Uq,EL⟩:=EX k HH.out HC.out Sf cH dA O9
  have Jc:Hid (bp w0 (w2.setCell ⟨a.q,9,none⟩ (.slice (some ⟨gg,0,none⟩) (c.stk.length+1) bc)) a (c.put v) (some ⟨gg,0,none⟩) bc):=Si
  have Jd:Hid (Hs w0 g (w2.setCell ⟨a.q,9,none⟩ (.slice (some ⟨gg,0,none⟩) (c.stk.length+1) bc)) p h):=Uq
  have Pb:Hid (Fq w0.heap.size g.T a w (w2.setCell ⟨a.q,9,none⟩ (.slice (some ⟨gg,0,none⟩) (c.stk.length+1) bc))):=EL
  have s3:=Si.cells.c3
  have Ur:(c.put v).m.stack=c.m.stack:=rfl
  rw [Ur] at s3
  clear Ur Si Uq EL O9 bK hat hlt
  cases hst:h.stops
  ·go_wp2_with (first
    | (go_at_call 54;refine (tJ _ _ _ (c.stk++[v]) _ (Jc.out.stk.vas (by unfold maxLen;simp [aH.put];omega)) (by simp;omega) (by simp)).mono ?_;rintro e w3 ⟨rfl,lF⟩;rw [lF];clear lF w3)
    | (go_at_call 114;refine (gQ w0 g p h _ Jd.out).mono ?_;rintro e w4 ⟨he,sC⟩;rw [hst] at he;subst he;rw [sC];clear sC w4)
    | (go_at_call 56;refine (bj w0 g k p h _ _ Jd.out).mono ?_;rintro e w5 ⟨rfl,h5,f5⟩))
   go_end0
   refine ⟨rfl,?_,⟨_,_,Jc.out.fr k f5⟩,Pb.out.trans f5.fq⟩
   have hr:h.putH c v=h.must (decide ((aP (c.stk++[v]):Int)≤c.m.stack)):=by unfold Hp.putH;rw [if_neg (by rw [hst];decide)]
   rw [hr]
   exact h5
  ·go_wp2_with (first
    | (go_at_call 54;refine (tJ _ _ _ (c.stk++[v]) _ (Jc.out.stk.vas (by unfold maxLen;simp [aH.put];omega)) (by simp;omega) (by simp)).mono ?_;rintro e w3 ⟨rfl,lF⟩;rw [lF];clear lF w3)
    | (go_at_call 114;refine (gQ w0 g p h _ Jd.out).mono ?_;rintro e w4 ⟨he,sC⟩;rw [hst] at he;subst he;rw [sC];clear sC w4))
   go_end0
   have hr:h.putH c v=h:=by unfold Hp.putH;rw [if_pos hst]
   rw [hr]
   exact ⟨rfl,Jd.out,⟨_,_,Jc.out⟩,Pb.out⟩
theorem br {P:Program} {md:Region.Mode} {ops:Array Oper} {Q:Exit->Act->World->Prop} {S:World->Prop} {i:Nat} {oi:Oper} {d:Option Tmp} {fuel:Nat} {listed:Array Bool} {a:Act} {w:World} (hi:ops[i]?=some oi) (hd:oi.dst=d)
  (hs:Region.noSelect ops=true) (hf:Region.free md ops listed i=true) (hr:(Region.ready md ops listed).contains i=true)
  (hQ:∀c a w,Q (.panic c) (a.put oi.dst undef) w->Q (.panic c) a w) (hw:Region.wanted oi (yielded ops a.tmps)=false) (hS:S w)
  (h:wpAnyH P md ops Q S fuel (listed.setIfInBounds i true) (a.put d undef) w):wpAnyH P md ops Q S (fuel+1) listed a w :=
 wpAnyH_take hi hs hf hr hQ (Or.inr ⟨hw,rfl⟩) hS (hd▸h)
theorem bR {P:Program} {md:Region.Mode} {ops:Array Oper} {Q:Exit->Act->World->Prop} {S:World->Prop} {i:Nat} {oi:Oper} {d:Option Tmp} {v:Value} {fuel:Nat} {listed:Array Bool} {a:Act} {w:World} (hi:ops[i]?=some oi) (hd:oi.dst=d)
  (hs:Region.noSelect ops=true) (hf:Region.free md ops listed i=true) (hr:(Region.ready md ops listed).contains i=true)
  (hQ:∀c a w,Q (.panic c) (a.put oi.dst v) w->Q (.panic c) a w) (hw:Region.wanted oi (yielded ops a.tmps)=true) (hy:∀w,S w->(execOp a.eval oi).run P w=.ok (.value v) w) (hS:S w)
  (h:wpAnyH P md ops Q S fuel (listed.setIfInBounds i true) (a.put d v) w):wpAnyH P md ops Q S (fuel+1) listed a w :=
 wpAnyH_take hi hs hf hr hQ (Or.inl ⟨hw,hy⟩) hS (hd▸h)
section
variable (w0:World) (g:Ad) (p:Nat) (h:Hp) (v:Va) (c:Int) (w:World)
theorem MG (hH:Hs w0 g w p h) (C:Cw w0 g h) (hk:¬v.kind=3) :
  Calls Tryz.prog 173 #[.pointer (some ⟨p,0,none⟩),iA v,int i64 c] w fun e w'=>e=.returned (iA (h.isV v c))/\Hs w0 g w' p (h.must (isRef v))/\Fr w0.heap.size g.T w w':=by
 have cH:=hH.base
 have HF:Hid (Fr w0.heap.size g.T w ((w.alloc (cS v)).alloc iq)):=((Fr.refl _ _ w).alloc cH _).alloc (by simp;omega) _
 have HH:Hid (Hs w0 g ((w.alloc (cS v)).alloc iq) p h):=hH.cf (((Cf.refl _ _ w).alloc cH _).alloc (by simp;omega) _)
 have HV:Hid (aQ ((w.alloc (cS v)).alloc iq) w.heap.size v):=(iP w v ag).1
 have HR:Hid (aQ ((w.alloc (cS v)).alloc iq) (w.heap.size+1) ag):=(iP w v ag).2
 have HC:Hid (Cw w0 g h):=C
 have ez:w0.heap.size≤w.heap.size+1:=by omega
 have gB:w.heap.size≤w.heap.size+1:=by omega
 clear hH C
 have hi:isRef v=false:=by unfold isRef;exact decide_eq_false hk
 have e1:h.isV v c=⟨1,0⟩:=by unfold Hp.isV Hp.mustB;rw [hi];simp
 rw [e1,hi]
 have sU:(v.kind==3)=false:=by simpa using hk
 have v0:=HV.out.c0
 have Ip:h.mustB false=false:=rfl
 clear e1 hk
 go_enter Tryz.func173,Tryz.ntmps173
 go_wp2
 refine wp_region_held_drew (S:=fun w'=>w'.cell? ⟨w.heap.size,0,none⟩=some (int i64 v.kind)) (by kernel_rfl) ?_ (fun hHeld=>?_)
 ·exact v0
 refine bR (i:=0) (d:=some 8) (v:=?_) rfl rfl (by kernel_rfl) (by kernel_rfl) (by kernel_rfl) (fun _ _ _ h=>h) (by rfl) ?_ hHeld ?_
 rotate_left 1
 ·intro w' hSw;go_simp<;>with_reducible rfl
 try simp only [aS,aN,aT,a0,a1]
 refine bR (i:=1) (d:=some 9) (v:=?_) rfl rfl (by kernel_rfl) (by kernel_rfl) (by kernel_rfl) (fun _ _ _ h=>h) (by rfl) ?_ hHeld ?_
 rotate_left 1
 ·intro w' hSw;go_simp<;>with_reducible rfl
 try simp only [aS,aN,aT,a0,a1]
 refine bR (i:=2) (d:=some 10) (v:=?_) rfl rfl (by kernel_rfl) (by kernel_rfl) (by kernel_rfl) (fun _ _ _ h=>h) (by rfl) ?_ hHeld ?_
 rotate_left 1
 ·intro w' hSw;go_simp<;>with_reducible rfl
 try simp only [aS,aN,aT,a0,a1]
 refine bR (i:=3) (d:=some 11) (v:=?_) rfl rfl (by kernel_rfl) (by kernel_rfl) (by kernel_rfl) (fun _ _ _ h=>h) (by rfl) ?_ hHeld ?_
 rotate_left 1
 ·intro w' hSw;go_simp<;>with_reducible rfl
 try simp only [aS,aN,aT,a0,a1]
 refine wpAnyH_ready (rs:=[4]) (by kernel_rfl) (by simp) ?_
 refine AllReadyH.cons rfl (fun K hK=>?_) AllReadyH.nil
 go_simp
 go_at_call 56
 refine (bj w0 g HC.out.k p h false _ (HH.out.cf (Cf.drew (Cf.refl _ _ _)))).mono ?_
 rintro e w1 ⟨he,h1,f1⟩
 rw [Ip] at he
 subst he
 have FD:Hid (Fr w0.heap.size g.T ((w.alloc (cS v)).alloc iq) w1):=Fr.trans (Fr.drew (Fr.refl _ _ _)) f1
 have b1:=HR.out.keep HC.out.k FD.out
 have r0:=b1.c0
 have r1:=b1.c1
 have r2:=b1.fr 0
 have r3:=b1.fr 1
 have j6:Hid (aQ w1 (w.heap.size+1) ag):=b1
 clear b1
 go_wp2_with fail
 refine hK.out _ _ ((HV.out.keep HC.out.k FD.out).c0) (fun ah=>?_)
 clear hK K
 try simp only [aS,aN,aT,a0,a1]
 refine bR (i:=5) (d:=some 13) (v:=?_) rfl rfl (by kernel_rfl) (by kernel_rfl) (by kernel_rfl) (fun _ _ _ h=>h) (by rfl) ?_ ah ?_
 rotate_left 1
 ·intro w' hSw;go_simp<;>with_reducible rfl
 try simp only [aS,aN,aT,a0,a1]
 refine br (i:=6) (d:=some 14) rfl rfl (by kernel_rfl) (by kernel_rfl) (by kernel_rfl) (fun _ _ _ h=>h) (by rfl) ah ?_
 try simp only [aS,aN,aT,a0,a1]
 refine br (i:=7) (d:=some 15) rfl rfl (by kernel_rfl) (by kernel_rfl) (by kernel_rfl) (fun _ _ _ h=>h) (by rfl) ah ?_
 try simp only [aS,aN,aT,a0,a1]
 refine br (i:=8) (d:=some 16) rfl rfl (by kernel_rfl) (by kernel_rfl) (by kernel_rfl) (fun _ _ _ h=>h) (by rfl) ah ?_
 try simp only [aS,aN,aT,a0,a1]
 refine bR (i:=9) (d:=some 17) (v:=?_) rfl rfl (by kernel_rfl) (by kernel_rfl) (by kernel_rfl) (fun _ _ _ h=>h) (by rfl) ?_ ah ?_
 rotate_left 1
 ·intro w' hSw;go_simp<;>with_reducible rfl
 try simp only [aS,aN,aT,a0,a1]
 refine bR (i:=10) (d:=some 18) (v:=?_) rfl rfl (by kernel_rfl) (by kernel_rfl) (by kernel_rfl) (fun _ _ _ h=>h) (by rfl) ?_ ah ?_
 rotate_left 1
 ·intro w' hSw;go_simp<;>with_reducible rfl
 try simp only [aS,aN,aT,a0,a1]
 refine br (i:=11) (d:=some 19) rfl rfl (by kernel_rfl) (by kernel_rfl) (by kernel_rfl) (fun _ _ _ h=>h) (by rfl) ah ?_
 try simp only [aS,aN,aT,a0,a1]
 refine br (i:=12) (d:=some 20) rfl rfl (by kernel_rfl) (by kernel_rfl) (by kernel_rfl) (fun _ _ _ h=>h) (by rfl) ah ?_
 try simp only [aS,aN,aT,a0,a1]
 refine br (i:=13) (d:=some 21) rfl rfl (by kernel_rfl) (by kernel_rfl) (by kernel_rfl) (fun _ _ _ h=>h) (by rfl) ah ?_
 try simp only [aS,aN,aT,a0,a1]
 refine br (i:=14) (d:=some 22) rfl rfl (by kernel_rfl) (by kernel_rfl) (by kernel_rfl) (fun _ _ _ h=>h) (by rfl) ah ?_
 try simp only [aS,aN,aT,a0,a1]
 refine br (i:=15) (d:=some 23) rfl rfl (by kernel_rfl) (by kernel_rfl) (by kernel_rfl) (fun _ _ _ h=>h) (by rfl) ah ?_
 try simp only [aS,aN,aT,a0,a1]
 refine br (i:=16) (d:=some 24) rfl rfl (by kernel_rfl) (by kernel_rfl) (by kernel_rfl) (fun _ _ _ h=>h) (by rfl) ah ?_
 try simp only [aS,aN,aT,a0,a1]
 refine br (i:=17) (d:=some 25) rfl rfl (by kernel_rfl) (by kernel_rfl) (by kernel_rfl) (fun _ _ _ h=>h) (by rfl) ah ?_
 try simp only [aS,aN,aT,a0,a1]
 refine br (i:=18) (d:=some 26) rfl rfl (by kernel_rfl) (by kernel_rfl) (by kernel_rfl) (fun _ _ _ h=>h) (by rfl) ah ?_
 try simp only [aS,aN,aT,a0,a1]
 refine br (i:=19) (d:=some 27) rfl rfl (by kernel_rfl) (by kernel_rfl) (by kernel_rfl) (fun _ _ _ h=>h) (by rfl) ah ?_
 try simp only [aS,aN,aT,a0,a1]
 refine br (i:=20) (d:=some 28) rfl rfl (by kernel_rfl) (by kernel_rfl) (by kernel_rfl) (fun _ _ _ h=>h) (by rfl) ah ?_
 try simp only [aS,aN,aT,a0,a1]
 refine br (i:=21) (d:=some 29) rfl rfl (by kernel_rfl) (by kernel_rfl) (by kernel_rfl) (fun _ _ _ h=>h) (by rfl) ah ?_
 try simp only [aS,aN,aT,a0,a1]
 refine br (i:=22) (d:=some 30) rfl rfl (by kernel_rfl) (by kernel_rfl) (by kernel_rfl) (fun _ _ _ h=>h) (by rfl) ah ?_
 try simp only [aS,aN,aT,a0,a1]
 refine br (i:=23) (d:=some 31) rfl rfl (by kernel_rfl) (by kernel_rfl) (by kernel_rfl) (fun _ _ _ h=>h) (by rfl) ah ?_
 try simp only [aS,aN,aT,a0,a1]
 refine br (i:=24) (d:=some 32) rfl rfl (by kernel_rfl) (by kernel_rfl) (by kernel_rfl) (fun _ _ _ h=>h) (by rfl) ah ?_
 try simp only [aS,aN,aT,a0,a1]
 refine br (i:=25) (d:=some 33) rfl rfl (by kernel_rfl) (by kernel_rfl) (by kernel_rfl) (fun _ _ _ h=>h) (by rfl) ah ?_
 try simp only [aS,aN,aT,a0,a1]
 refine br (i:=26) (d:=some 34) rfl rfl (by kernel_rfl) (by kernel_rfl) (by kernel_rfl) (fun _ _ _ h=>h) (by rfl) ah ?_
 try simp only [aS,aN,aT,a0,a1]
 refine bR (i:=27) (d:=some 35) (v:=?_) rfl rfl (by kernel_rfl) (by kernel_rfl) (by kernel_rfl) (fun _ _ _ h=>h) (by rfl) ?_ ah ?_
 rotate_left 1
 ·intro w' hSw;go_simp<;>with_reducible rfl
 try simp only [aS,aN,aT,a0,a1]
 refine wpAnyH_done (by kernel_rfl) ?_ _
 go_wp2
 (try simp only [Exit.inBlock,Exit.then])
 refine bodyPost_ret (results_cell_row rfl _ _ (w.heap.size+1) _ _ _ _ rfl (j6.out.set ⟨1,0⟩).blk Tryz.underlying62 rfl bk) rfl ?_
 exact ⟨rfl,h1.cf (j6.out.cf HC.out.k ez _ _),(((HF.out.trans FD.out).new gB ez _).new gB ez _)⟩
theorem MH (hH:Hs w0 g w p h) (C:Cw w0 g h) (kV:v.kind=3->v.n<h.objs.length) :
  Calls Tryz.prog 173 #[.pointer (some ⟨p,0,none⟩),iA v,int i64 c] w fun e w'=>e=.returned (iA (h.isV v c))/\Hs w0 g w' p (h.must (isRef v))/\Fr w0.heap.size g.T w w':=by
 have Dl:=hH
 have C0:=C
 have cH:=hH.base
 have HF:Hid (Fr w0.heap.size g.T w ((w.alloc (cS v)).alloc iq)):=((Fr.refl _ _ w).alloc cH _).alloc (by simp;omega) _
 have HH:Hid (Hs w0 g ((w.alloc (cS v)).alloc iq) p h):=hH.cf (((Cf.refl _ _ w).alloc cH _).alloc (by simp;omega) _)
 have HV:Hid (aQ ((w.alloc (cS v)).alloc iq) w.heap.size v):=(iP w v ag).1
 have HR:Hid (aQ ((w.alloc (cS v)).alloc iq) (w.heap.size+1) ag):=(iP w v ag).2
 have HC:Hid (Cw w0 g h):=C
 have ez:w0.heap.size≤w.heap.size+1:=by omega
 have gB:w.heap.size≤w.heap.size+1:=by omega
 clear hH C
 by_cases hk:v.kind=3
 ·clear Dl C0
  obtain ⟨vk,vn⟩:=v
  dsimp only at *
  subst hk
  have ES:h.must (isRef ⟨3,vn⟩)=h:=rfl
  rw [ES]
  clear ES
  cases bq:h.over
  ·have qH:(!h.over)=true:=by rw [bq];rfl
   by_cases hn:vn<0
   ·have e1:h.isV ⟨3,vn⟩ c=⟨1,0⟩:=by unfold Hp.isV;dsimp only;rw [decide_eq_false (by omega)];simp
    rw [e1]
    clear e1 kV
    have d1:decide (0≤vn)=false:=decide_eq_false (by omega)
    go_enter Tryz.func173,Tryz.ntmps173
    go_wp2
    go_quiet ((go_at_call 56;exact Calls.quiet_of_same ((dh w0 g p h _ (HH.out.drewN _)).mono fun e w' hh=>⟨hh.1.trans (aj qH),hh.2⟩)))
    go_wp2
    (try simp only [Exit.inBlock,Exit.then])
    refine bodyPost_ret (results_cell_row rfl _ _ (w.heap.size+1) _ _ _ _ rfl ((HR.out.drewN _).set ⟨1,0⟩).blk Tryz.underlying62 rfl bk) rfl ?_
    exact ⟨rfl,(HH.out.drewN _).cf ((HR.out.drewN _).cf HC.out.k ez _ _),(((HF.out.drewN _).new gB ez _).new gB ez _)⟩
   ·obtain ⟨n,rfl⟩:∃n:Nat,vn=n:=⟨vn.toNat,by omega⟩
    have kq:n<h.objs.length:=by have:=kV rfl;omega
    obtain ⟨vo,vx,hv,H⟩:=HH.out
    have nY:Hid (cg ((w.alloc (cS ⟨3,n⟩)).alloc iq) g.A h.file.classes):=HC.out.cls.bl H.bl
    have c0:=H.cells.c0
    have c2:=H.cells.c2
    obtain ⟨gb,cap,mW,-,yC,hcc⟩:=kf H.obs (by omega)
    rw [mW] at c2
    have o1:=(hcc n kq).1
    unfold maxLen at yC
    have kp:(0:Int)≤(n:Int):=by omega
    have kb:(n:Int)<(h.objs.length:Int):=by omega
    clear hcc mW H kV hn
    obtain ⟨R,hR⟩:∃R,(jU h.file.classes (nth cA h.objs n).cls c&&fI h.file.classes (nth cA h.objs n).cls.toNat c.toNat)=R:=⟨_,rfl⟩
    have e1:h.isV ⟨3,n⟩ c=⟨1,if R=true then 1 else 0⟩:=by
     unfold Hp.isV Hp.mustB Hp.obj gj;dsimp only;rw [bq,Int.toNat_natCast,hR,decide_eq_true kp];simp [isRef]
    rw [e1]
    clear e1
    generalize hX:(nth cA h.objs n).cls=X at *
    clear hX
    cases R
    ·go_enter Tryz.func173,Tryz.ntmps173
     go_wp2
     go_quiet (first|(go_at_call 56;exact Calls.quiet_of_same ((dh w0 g p h _ (HH.out.drewN _)).mono fun e w' hh=>⟨hh.1.trans (aj qH),hh.2⟩))|(go_at_call 112;exact Calls.quiet_of_same ((fP _ _ _ _ _ _ (nY.out.bl (aR (Bl.refl _) _)) HC.out.tree).mono fun e w' hh=>⟨hh.1.trans (aj hR),hh.2⟩)))
     go_wp2
     (try simp only [Exit.inBlock,Exit.then])
     refine bodyPost_ret (results_cell_row rfl _ _ (w.heap.size+1) _ _ _ _ rfl ((HR.out.drewN _).set ⟨1,0⟩).blk Tryz.underlying62 rfl bk) rfl ?_
     exact ⟨rfl,(HH.out.drewN _).cf ((HR.out.drewN _).cf HC.out.k ez _ _),(((HF.out.drewN _).new gB ez _).new gB ez _)⟩
    ·go_enter Tryz.func173,Tryz.ntmps173
     go_wp2
     go_quiet (first|(go_at_call 56;exact Calls.quiet_of_same ((dh w0 g p h _ (HH.out.drewN _)).mono fun e w' hh=>⟨hh.1.trans (aj qH),hh.2⟩))|(go_at_call 112;exact Calls.quiet_of_same ((fP _ _ _ _ _ _ (nY.out.bl (aR (Bl.refl _) _)) HC.out.tree).mono fun e w' hh=>⟨hh.1.trans (aj hR),hh.2⟩)))
     go_wp2
     (try simp only [Exit.inBlock,Exit.then])
     refine bodyPost_ret (results_cell_row rfl _ _ (w.heap.size+1) _ _ _ _ rfl ((HR.out.drewN _).set ⟨1,1⟩).blk Tryz.underlying62 rfl bk) rfl ?_
     exact ⟨rfl,(HH.out.drewN _).cf ((HR.out.drewN _).cf HC.out.k ez _ _),(((HF.out.drewN _).new gB ez _).new gB ez _)⟩
  ·have qH:(!h.over)=false:=by rw [bq];rfl
   have e1:h.isV ⟨3,vn⟩ c=⟨1,0⟩:=by unfold Hp.isV Hp.mustB;rw [bq];simp
   rw [e1]
   clear e1 kV
   go_enter Tryz.func173,Tryz.ntmps173
   go_wp2
   go_quiet ((go_at_call 56;exact Calls.quiet_of_same ((dh w0 g p h _ (HH.out.drewN _)).mono fun e w' hh=>⟨hh.1.trans (aj qH),hh.2⟩)))
   go_wp2
   (try simp only [Exit.inBlock,Exit.then])
   refine bodyPost_ret (results_cell_row rfl _ _ (w.heap.size+1) _ _ _ _ rfl ((HR.out.drewN _).set ⟨1,0⟩).blk Tryz.underlying62 rfl bk) rfl ?_
   exact ⟨rfl,(HH.out.drewN _).cf ((HR.out.drewN _).cf HC.out.k ez _ _),(((HF.out.drewN _).new gB ez _).new gB ez _)⟩
 ·exact MG w0 g p h v c w Dl C0 hk
end
abbrev cO (op ia ib ic ii:Int) (Q:Option Addr) (nl q:Nat):Array Value:=#[int i64 op,int i64 ia,int i64 ib,int i64 ic,int i64 ii,.slice Q nl q]
structure cI (w:World) (b:Nat) (op ia ib ic ii:Int):Prop where
 ex:∃u,w.heap[b]?=some (.cells #[int i64 op,int i64 ia,int i64 ib,int i64 ic,int i64 ii,u] 55 (0,0))
section
variable {w:World} {b:Nat} {op ia ib ic ii:Int}
theorem cI.c0 (h:cI w b op ia ib ic ii):w.cell? ⟨b,0,none⟩=some (int i64 op):=by
 obtain ⟨u,h⟩:=h.ex;rw [aa h];rfl
theorem cI.c1 (h:cI w b op ia ib ic ii):w.cell? ⟨b,1,none⟩=some (int i64 ia):=by
 obtain ⟨u,h⟩:=h.ex;rw [aa h];rfl
theorem cI.c2 (h:cI w b op ia ib ic ii):w.cell? ⟨b,2,none⟩=some (int i64 ib):=by
 obtain ⟨u,h⟩:=h.ex;rw [aa h];rfl
theorem cI.c4 (h:cI w b op ia ib ic ii):w.cell? ⟨b,4,none⟩=some (int i64 ii):=by
 obtain ⟨u,h⟩:=h.ex;rw [aa h];rfl
end
theorem cI.fq {B:Nat} {T:TypeId} {a:Ca} {w w':World} {b:Nat} {op ia ib ic ii:Int} (h:cI w b op ia ib ic ii) (k:Tk T) (f:Fq B T a w w') (h1:b≠a.q) (h2:b≠a.lb):cI w' b op ia ib ic ii:=by
 obtain ⟨u,h⟩:=h.ex;exact ⟨u,f.keep _ _ _ _ h k.nn h1 h2⟩
theorem cI.fr {B:Nat} {T:TypeId} {w w':World} {b:Nat} {op ia ib ic ii:Int} (h:cI w b op ia ib ic ii) (k:Tk T) (f:Fr B T w w'):cI w' b op ia ib ic ii:=by
 obtain ⟨u,h⟩:=h.ex;exact ⟨u,f.keep _ _ _ _ h k.nn⟩
theorem cI.drewN {w:World} {b:Nat} {op ia ib ic ii:Int} (h:cI w b op ia ib ic ii) (n:Nat):cI (w.drewN n) b op ia ib ic ii:=⟨h.ex⟩
theorem aQ.fq {B:Nat} {T:TypeId} {a:Ca} {w w':World} {b:Nat} {v:Va} (h:aQ w b v) (k:Tk T) (f:Fq B T a w w') (h1:b≠a.q) (h2:b≠a.lb):aQ w' b v:=⟨f.keep _ _ _ _ h.blk k.nv h1 h2⟩
theorem Ae (w:World) (op ia ib ic ii:Int) (u:Value):cI ((w.alloc (.cells #[int i64 op,int i64 ia,int i64 ib,int i64 ic,int i64 ii,u] 55)).alloc iq) w.heap.size op ia ib ic ii
  /\ aQ ((w.alloc (.cells #[int i64 op,int i64 ia,int i64 ib,int i64 ic,int i64 ii,u] 55)).alloc iq) (w.heap.size+1) ag :=
 ⟨⟨u,iB (by simp) (b8 rfl)⟩,⟨b8 (by simp)⟩⟩
theorem bG.fst {lb:Nat} {w:World} {A:Option Addr} {l:List Va} (h:bG lb w A l) (hl:0<l.length):∃b off,A=some ⟨b,off,none⟩/\∀i,i<l.length->w.cell? ⟨b,off+i*2,none⟩=some (int i64 (nth ag l i).kind)/\w.cell? ⟨b,off+i*2+1,none⟩=some (int i64 (nth ag l i).n):=by
 rcases h with h|⟨b,off,cs,f,h1,h2,h3,h4⟩
 ·omega
 ·exact ⟨b,off,h1,fun i hi=>by rw [aa h2,aa h2];exact h4 i hi⟩
theorem Cs.old {w0 w w':World} {a:Ca} {c:aH} (h:Cs w0 w a c) (hb:Bl w w'):Cs w0 w' a c:=by
 obtain ⟨A,cap,h⟩:=h
 exact ⟨A,cap,h.old hb⟩
theorem Cs.lt {w0 w:World} {a:Ca} {c:aH} (h:Cs w0 w a c):a.q<w.heap.size/\a.lb<w.heap.size:=by
 obtain ⟨A,cap,h⟩:=h
 exact ⟨af h.blk,af h.loc.blk⟩
theorem Fr.set2 {B:Nat} {T:TypeId} {x w:World} {b:Nat} (h:Fr B T x w) (hb:x.heap.size≤b) (hB:B≤b) (u v:Value):Fr B T x ((w.setCell ⟨b,0,none⟩ u).setCell ⟨b,1,none⟩ v):=(h.new hb hB u).new hb hB v
def Ln (N:Nat) (A:Option Addr) (n:Nat):Prop:=n=0∨∃b off,A=some ⟨b,off,none⟩/\b<N
theorem bp.ere {w0 w:World} {a:Ca} {c:aH} {A:Option Addr} {cap:Nat} (h:bp w0 w a c A cap):Ln w.heap.size A c.stk.length:=by
 rcases h.stk with h0|⟨b,off,cs,f,h1,h2,-⟩
 ·exact Or.inl h0
 ·exact Or.inr ⟨b,off,h1,af h2⟩
theorem kI {N n b off:Nat} {A:Option Addr} (h:Ln N A n) (hn:0<n) (hb:∀x y:Addr,A=some x->some (⟨b,off,none⟩:Addr)=some y->y.block=x.block):b≠N+1:=by
 rcases h with h|⟨b0,o0,rfl,h⟩
 ·omega
 ·have:=hb _ _ rfl rfl
  simp only at this
  omega
theorem eU (c:aH) (k:Nat):(c.cut k).stk.length≤c.stk.length:=by unfold aH.cut;split<;>simp
theorem Ln.le {N n m:Nat} {A:Option Addr} (h:Ln N A n) (hm:m≤n):Ln N A m:=by
 rcases h with h|h
 ·exact Or.inl (by omega)
 ·exact Or.inr h
section
variable {w0 w:World} {a:Ca} {c:aH} {A:Option Addr} {cap N b:Nat}
theorem bp.box (h:bp w0 w a c A cap) (he:Ln N A c.stk.length) (hb:N≤b) (h1:b≠a.q) (h2:b≠a.lb) (i:Nat) (v:Value):bp w0 (w.setCell ⟨b,i,none⟩ v) a c A cap:=by
 refine ⟨h.own,h.ownl,?_,⟨?_,h.loc.len⟩,?_,h.me,h.cap⟩
 ·rw [aA (Ne.symm h1)];exact h.blk
 ·rw [aA (Ne.symm h2)];exact h.loc.blk
 ·rcases h.stk with h0|⟨b',off,cs,f,h3,h4,h5,h6⟩
  ·exact Or.inl h0
  ·rcases he with he|⟨b2,o2,e2,e3⟩
   ·exact Or.inl he
   ·rw [h3] at e2
    simp only [Option.some.injEq,Addr.mk.injEq] at e2
    obtain ⟨rfl,-,-⟩:=e2
    exact Or.inr ⟨b',off,cs,f,h3,by rw [aA (by omega)];exact h4,h5,h6⟩
theorem bp.box2 (h:bp w0 w a c A cap) (he:Ln N A c.stk.length) (hb:N≤b) (h1:b≠a.q) (h2:b≠a.lb) (u v:Value):bp w0 ((w.setCell ⟨b,0,none⟩ u).setCell ⟨b,1,none⟩ v) a c A cap :=
 (h.box he hb h1 h2 0 u).box he hb h1 h2 1 v
end
theorem Fq.box2 {B:Nat} {T:TypeId} {a:Ca} {x w:World} {b:Nat} (h:Fq B T a x w) (hb:x.heap.size≤b) (hB:B≤b) (u v:Value):Fq B T a x ((w.setCell ⟨b,0,none⟩ u).setCell ⟨b,1,none⟩ v):=by
 refine ⟨(h.bl.setCell hB u).setCell hB v,fun y cs t f e n n1 n2=>?_⟩
 have:=af e
 rw [aA (by omega),aA (by omega)]
 exact h.keep y cs t f e n n1 n2
theorem bG.fq {B:Nat} {T:TypeId} {w0 w w':World} {a:Ca} {c:aH} {A A':Option Addr} {cap:Nat} {l:List Va} (h:bG a.lb w A l) (H:bp w0 w a c A' cap) (k:Tk T) (f:Fq B T a w w'):bG a.lb w' A l :=
 h.keep fun b cs fz e n=>f.keep b cs _ fz e k.nv (fun hb=>by rw [hb,H.blk] at e;simp at e) n
section
variable {w0 w:World} {g:Ad} {p:Nat} {h:Hp} {a:Ca} {c:aH} (K ia ib ic ii:Int) (Q:Option Addr) (nl q:Nat)
theorem jE (hH:Hs w0 g w p h) (hC:Cs w0 w a c) (C:Cw w0 g h) :
  ∃A cap,Hid (Ln w.heap.size A c.stk.length)/\a.q<w.heap.size/\a.lb<w.heap.size/\Hid (Fr w0.heap.size g.T w ((w.alloc (.cells (cO K ia ib ic ii Q nl q) 55)).alloc iq))/\Hid (Hs w0 g ((w.alloc (.cells (cO K ia ib ic ii Q nl q) 55)).alloc iq) p h)
   /\ Hid (bp w0 ((w.alloc (.cells (cO K ia ib ic ii Q nl q) 55)).alloc iq) a c A cap)/\Hid (cI ((w.alloc (.cells (cO K ia ib ic ii Q nl q) 55)).alloc iq) w.heap.size K ia ib ic ii)
   /\ Hid (aQ ((w.alloc (.cells (cO K ia ib ic ii Q nl q) 55)).alloc iq) (w.heap.size+1) ag)/\Hid (Cw w0 g h)/\w0.heap.size≤w.heap.size+1/\w.heap.size≤w.heap.size+1/\w.heap.size≠a.q/\w.heap.size≠a.lb/\w.heap.size+1≠a.q/\w.heap.size+1≠a.lb:=by
 have cH:=hH.base
 obtain ⟨A,cap,H0⟩:=hC
 have cU:a.q<w.heap.size:=af H0.blk
 have gJ:a.lb<w.heap.size:=af H0.loc.blk
 have hbl:Bl w ((w.alloc (.cells (cO K ia ib ic ii Q nl q) 55)).alloc iq):=((Bl.refl w).alloc _).alloc _
 exact ⟨A,cap,H0.ere,cU,gJ,Fr.old cH hbl,hH.old hbl,H0.old hbl,(Ae w K ia ib ic ii _).1,(Ae w K ia ib ic ii (.slice Q nl q)).2,C,by omega,by omega,by omega,by omega,by omega,by omega⟩
theorem dpre (hH:Hs w0 g w p h) (hC:Cs w0 w a c) (C:Cw w0 g h) (eP:c.stk.length≤500) :
  ∃A cap,a.q<w.heap.size/\a.lb<w.heap.size/\Hid (Fr w0.heap.size g.T w (w.alloc (.cells (cO K ia ib ic ii Q nl q) 55)))/\Hid (Hs w0 g (w.alloc (.cells (cO K ia ib ic ii Q nl q) 55)) p h)
   /\ Hid (bp w0 (w.alloc (.cells (cO K ia ib ic ii Q nl q) 55)) a c A cap)/\(w.alloc (.cells (cO K ia ib ic ii Q nl q) 55)).cell? ⟨a.q,10,none⟩=some (int i64 c.pc)/\Hid (cI (w.alloc (.cells (cO K ia ib ic ii Q nl q) 55)) w.heap.size K ia ib ic ii)/\Hid (Cw w0 g h)
   /\ w.heap.size≠a.q/\w.heap.size≠a.lb/\a.q≠w.heap.size/\a.lb≠w.heap.size/\a.q<w.heap.size+1/\a.lb<w.heap.size+1/\c.stk.length≤1000:=by
 have cH:=hH.base
 obtain ⟨A,cap,H0⟩:=hC
 have cU:a.q<w.heap.size:=af H0.blk
 have gJ:a.lb<w.heap.size:=af H0.loc.blk
 have hbl:Bl w (w.alloc (.cells (cO K ia ib ic ii Q nl q) 55)):=(Bl.refl w).alloc _
 have hc:=H0.old hbl
 exact ⟨A,cap,cU,gJ,Fr.old cH hbl,hH.old hbl,hc,hc.cells.c10,⟨_,b8 rfl⟩,C,by omega,by omega,by omega,by omega,by omega,by omega,by omega⟩
end
theorem kr {w0 W w1:World} {g:Ad} {p n:Nat} {h h0:Hp} {a:Ca} {c:aH} {A:Option Addr} {many:Nat} {l:List Va} {same:Bool} {e:Ending} {K ia ib ic ii:Int} {ov:Bool} (hT:pG w0 g p a A W many h c l same e w1) (HI:Hid (cI W n K ia ib ic ii)) (HW:Hid (Cw w0 g h0)) (n1:n≠a.q) (n2:n≠a.lb) (bq:h.over=ov) :
  ∃A1 cV bc,e=.returned (.slice A1 many cV)/\bG a.lb w1 A1 l/\w1.cell? ⟨n,0,none⟩=some (int i64 K)/\w1.cell? ⟨n,1,none⟩=some (int i64 ia)/\w1.cell? ⟨n,2,none⟩=some (int i64 ib)/\w1.cell? ⟨n,4,none⟩=some (int i64 ii)/\Hid (cI w1 n K ia ib ic ii)
   /\ Hid (Hs w0 g w1 p h)/\w1.cell? ⟨p,12,none⟩=some (.bool ov)/\Hid (bp w0 w1 a c A bc)/\Fq w0.heap.size g.T a W w1/\(same=true->∀x y,A=some x->A1=some y->y.block=x.block):=by
 obtain ⟨A1,cV,bc,rfl,cu,h1,c1,f1,kj⟩:=hT
 have i1:=HI.out.fq HW.out.k f1 n1 n2
 have vB:=h1
 obtain ⟨vo,vx,hv,X⟩:=h1
 exact ⟨A1,cV,bc,rfl,cu,i1.c0,i1.c1,i1.c2,i1.c4,i1,vB,by rw [X.cells.c12,bq],c1,f1,kj⟩
theorem rC {w0 W w1:World} {g:Ad} {n:Nat} {h0:Hp} {a:Ca} (HR:Hid (aQ W n ag)) (HW:Hid (Cw w0 g h0)) (f1:Fq w0.heap.size g.T a W w1) (n3:n≠a.q) (n4:n≠a.lb) :
  w1.cell? ⟨n,0,none⟩=some (int i64 ag.kind)/\w1.cell? ⟨n,1,none⟩=some (int i64 ag.n)/\w1.frozen? ⟨n,0,none⟩=false/\w1.frozen? ⟨n,1,none⟩=false/\Hid (aQ w1 n ag):=by
 have b1:=HR.out.fq HW.out.k f1 n3 n4
 exact ⟨b1.c0,b1.c1,b1.fr 0,b1.fr 1,b1⟩
section
variable {w0 w1 w2:World} {g:Ad} {n:Nat} {h0:Hp}
theorem EY (HR:Hid (aQ w1 n ag)) (HW:Hid (Cw w0 g h0)) (F2:Hid (Fr w0.heap.size g.T w1 w2)) :
  w2.cell? ⟨n,0,none⟩=some (int i64 ag.kind)/\w2.cell? ⟨n,1,none⟩=some (int i64 ag.n)/\w2.frozen? ⟨n,0,none⟩=false/\w2.frozen? ⟨n,1,none⟩=false/\Hid (aQ w2 n ag):=by
 have b1:=HR.out.keep HW.out.k F2.out
 exact ⟨b1.c0,b1.c1,b1.fr 0,b1.fr 1,b1⟩
theorem Af {K ia ib ic ii:Int} (HI:Hid (cI w1 n K ia ib ic ii)) (HW:Hid (Cw w0 g h0)) (F2:Hid (Fr w0.heap.size g.T w1 w2)) :
  w2.cell? ⟨n,1,none⟩=some (int i64 ia)/\w2.cell? ⟨n,2,none⟩=some (int i64 ib)/\Hid (cI w2 n K ia ib ic ii):=by
 have i2:=HI.out.fr HW.out.k F2.out
 exact ⟨i2.c1,i2.c2,i2⟩
end
section
variable {lb:Nat} {w:World} {A:Option Addr} {l:List Va}
theorem kl (st:bG lb w A l) (hl:0<l.length):∃b off,A=some ⟨b,off,none⟩/\w.cell? ⟨b,off,none⟩=some (int i64 (nth ag l 0).kind)/\w.cell? ⟨b,off+1,none⟩=some (int i64 (nth ag l 0).n)/\Hid (bG lb w (some ⟨b,off,none⟩) l):=by
 obtain ⟨b,off,rfl,hc⟩:=st.fst hl
 have t0:=(hc 0 hl).1
 have t1:=(hc 0 hl).2
 rw [Nat.zero_mul,Nat.add_zero] at t0 t1
 exact ⟨b,off,rfl,t0,t1,st⟩
theorem yI (st:bG lb w A l) (hl:1<l.length):∃b off,A=some ⟨b,off,none⟩/\w.cell? ⟨b,off,none⟩=some (int i64 (nth ag l 0).kind)/\w.cell? ⟨b,off+1,none⟩=some (int i64 (nth ag l 0).n)/\w.cell? ⟨b,off+2,none⟩=some (int i64 (nth ag l 1).kind)/\w.cell? ⟨b,off+2+1,none⟩=some (int i64 (nth ag l 1).n)/\Hid (bG lb w (some ⟨b,off,none⟩) l):=by
 obtain ⟨b,off,rfl,hc⟩:=st.fst (by omega)
 have t0:=(hc 0 (by omega)).1
 have t1:=(hc 0 (by omega)).2
 have t2:=(hc 1 hl).1
 have t3:=(hc 1 hl).2
 rw [Nat.zero_mul,Nat.add_zero] at t0 t1
 rw [Nat.one_mul] at t2 t3
 exact ⟨b,off,rfl,t0,t1,t2,t3,st⟩
end
section
variable {w0 w1 w2:World} {g:Ad} {h0:Hp} {lb b off:Nat} {l:List Va}
theorem Lp (ST:Hid (bG lb w1 (some ⟨b,off,none⟩) l)) (HW:Hid (Cw w0 g h0)) (F2:Hid (Fr w0.heap.size g.T w1 w2)) (hl:0<l.length):w2.cell? ⟨b,off,none⟩=some (int i64 (nth ag l 0).kind)/\w2.cell? ⟨b,off+1,none⟩=some (int i64 (nth ag l 0).n)/\Hid (bG lb w2 (some ⟨b,off,none⟩) l):=by
 obtain ⟨b',gp,e,t0,t1,s⟩:=kl (ST.out.fr HW.out.k F2.out) hl
 simp only [Option.some.injEq,Addr.mk.injEq] at e
 obtain ⟨rfl,rfl,-⟩:=e
 exact ⟨t0,t1,s⟩
theorem Pd (ST:Hid (bG lb w1 (some ⟨b,off,none⟩) l)) (HW:Hid (Cw w0 g h0)) (F2:Hid (Fr w0.heap.size g.T w1 w2)) (hl:1<l.length):w2.cell? ⟨b,off,none⟩=some (int i64 (nth ag l 0).kind)/\w2.cell? ⟨b,off+1,none⟩=some (int i64 (nth ag l 0).n)/\w2.cell? ⟨b,off+2,none⟩=some (int i64 (nth ag l 1).kind)/\w2.cell? ⟨b,off+2+1,none⟩=some (int i64 (nth ag l 1).n)/\Hid (bG lb w2 (some ⟨b,off,none⟩) l):=by
 obtain ⟨b',gp,e,t0,t1,t2,t3,s⟩:=yI (ST.out.fr HW.out.k F2.out) hl
 simp only [Option.some.injEq,Addr.mk.injEq] at e
 obtain ⟨rfl,rfl,-⟩:=e
 exact ⟨t0,t1,t2,t3,s⟩
end
section
variable (w0:World) (g:Ad) (p:Nat) (h:Hp) (a:Ca) (c:aH) (ia ib ic ii:Int) (Q:Option Addr) (nl q:Nat) (w:World)
theorem Je (hH:Hs w0 g w p h) (hC:Cs w0 w a c) (C:Cw w0 g h) (ho:h.over=false) (eP:c.stk.length≤500) (hp:0≤c.pc/\c.pc≤100000) :
  Calls Tryz.prog 59 #[.pointer (some ⟨p,0,none⟩),.pointer (some ⟨a.q,0,none⟩),.agg (cO 11 ia ib ic ii Q nl q)] w fun e w'=>e=.returned (int i64 ia)/\Hs w0 g w' p h/\Cs w0 w' a c/\Fq w0.heap.size g.T a w w':=by
 have cH:=hH.base
 obtain ⟨A,cap,cU,gJ,HF,HH,HC,d10,HI,HW,n1,n2,qI,qJ,k1,k2,hs⟩:=dpre 11 ia ib ic ii Q nl q hH hC C eP
 have bq:=ho
 clear hH hC C ho
 go_enter Tryz.func59,Tryz.ntmps59
 go_wp2
 go_ret
 exact ⟨rfl,HH.out,⟨A,cap,HC.out⟩,HF.out.fq⟩
theorem Jf (hH:Hs w0 g w p h) (hC:Cs w0 w a c) (C:Cw w0 g h) (ho:h.over=false) (eP:c.stk.length≤500) (hp:0≤c.pc/\c.pc≤100000) :
  Calls Tryz.prog 59 #[.pointer (some ⟨p,0,none⟩),.pointer (some ⟨a.q,0,none⟩),.agg (cO 22 ia ib ic ii Q nl q)] w fun e w'=>e=.returned (int i64 (c.pc+1))/\Hs w0 g w' p (h.must (c.has 1))/\Cs w0 w' a (c.cut 1)/\Fq w0.heap.size g.T a w w':=by
 have cH:=hH.base
 obtain ⟨A,cap,cU,gJ,HF,HH,HC,d10,HI,HW,n1,n2,qI,qJ,k1,k2,hs⟩:=dpre 22 ia ib ic ii Q nl q hH hC C eP
 have bq:=ho
 clear hH hC C ho
 go_enter Tryz.func59,Tryz.ntmps59
 go_wp2_with (go_at_call 57;refine (EW w0 g HW.out.k p h a c 1 _ A cap HH.out HC.out bq (by omega) hs).mono ?_;rintro e w1 ⟨A1,cV,bc,rfl,cu,h1,c1,f1,-⟩)
 go_ret
 exact ⟨rfl,h1,⟨A,bc,c1⟩,HF.out.fq.trans f1⟩
theorem BW (hH:Hs w0 g w p h) (hC:Cs w0 w a c) (C:Cw w0 g h) (ho:h.over=false) (eP:c.stk.length≤500) (hp:0≤c.pc/\c.pc≤100000) (hl:c.stk.length<1) :
  Calls Tryz.prog 59 #[.pointer (some ⟨p,0,none⟩),.pointer (some ⟨a.q,0,none⟩),.agg (cO 21 ia ib ic ii Q nl q)] w fun e w'=>e=.returned (int i64 (c.pc+1))/\Hs w0 g w' p (h.fin 6)/\Cs w0 w' a c/\Fq w0.heap.size g.T a w w':=by
 have cH:=hH.base
 obtain ⟨A,cap,cU,gJ,HF,HH,HC,d10,HI,HW,n1,n2,qI,qJ,k1,k2,hs⟩:=dpre 21 ia ib ic ii Q nl q hH hC C eP
 have bq:=ho
 clear hH hC C ho
 have l7:Hid ((h.fin 6).over=true):=by simp [Hp.fin,bq,Hid]
 go_enter Tryz.func59,Tryz.ntmps59
 go_wp2_with ((go_at_call 57;refine (dK w0 g HW.out.k p h a c 1 _ A cap HH.out HC.out bq hl (by omega)).mono ?_;intro e w1 hT;obtain ⟨A1,cV,bc,rfl,cu,j0,j1,j2,j4,gI,H1,iC,C1,f1,-⟩:=kr hT HI HW n1 n2 l7.out;have F1:Hid (Fq w0.heap.size g.T a w w1):=Fq.trans HF.out.fq f1;clear hT f1))
 go_ret
 exact ⟨rfl,H1.out,⟨A,bc,C1.out⟩,F1.out⟩
theorem BX (hH:Hs w0 g w p h) (hC:Cs w0 w a c) (C:Cw w0 g h) (ho:h.over=false) (eP:c.stk.length≤500) (hp:0≤c.pc/\c.pc≤100000) (hl:c.stk.length<1) :
  Calls Tryz.prog 59 #[.pointer (some ⟨p,0,none⟩),.pointer (some ⟨a.q,0,none⟩),.agg (cO 24 ia ib ic ii Q nl q)] w fun e w'=>e=.returned (int i64 (c.pc+1))/\Hs w0 g w' p (h.fin 6)/\Cs w0 w' a c/\Fq w0.heap.size g.T a w w':=by
 have cH:=hH.base
 obtain ⟨A,cap,cU,gJ,HF,HH,HC,d10,HI,HW,n1,n2,qI,qJ,k1,k2,hs⟩:=dpre 24 ia ib ic ii Q nl q hH hC C eP
 have bq:=ho
 clear hH hC C ho
 have l7:Hid ((h.fin 6).over=true):=by simp [Hp.fin,bq,Hid]
 go_enter Tryz.func59,Tryz.ntmps59
 go_wp2_with ((go_at_call 57;refine (dK w0 g HW.out.k p h a c 1 _ A cap HH.out HC.out bq hl (by omega)).mono ?_;intro e w1 hT;obtain ⟨A1,cV,bc,rfl,cu,j0,j1,j2,j4,gI,H1,iC,C1,f1,-⟩:=kr hT HI HW n1 n2 l7.out;have F1:Hid (Fq w0.heap.size g.T a w w1):=Fq.trans HF.out.fq f1;clear hT f1))
 go_ret
 exact ⟨rfl,H1.out,⟨A,bc,C1.out⟩,F1.out⟩
theorem Jg (hH:Hs w0 g w p h) (hC:Cs w0 w a c) (C:Cw w0 g h) (ho:h.over=false) (eP:c.stk.length≤500) (hp:0≤c.pc/\c.pc≤100000) (hl:1≤c.stk.length) :
  Calls Tryz.prog 59 #[.pointer (some ⟨p,0,none⟩),.pointer (some ⟨a.q,0,none⟩),.agg (cO 21 ia ib ic ii Q nl q)] w fun e w'=>e=.returned (int i64 (c.pc+1))/\Hs w0 g w' p (h.throw (nth ag (c.top 1) 0))/\Cs w0 w' a (c.cut 1)/\Fq w0.heap.size g.T a w w':=by
 have cH:=hH.base
 obtain ⟨A,cap,cU,gJ,HF,HH,HC,d10,HI,HW,n1,n2,qI,qJ,k1,k2,hs⟩:=dpre 21 ia ib ic ii Q nl q hH hC C eP
 have bq:=ho
 clear hH hC C ho
 go_enter Tryz.func59,Tryz.ntmps59
 go_wp2_with (first
  | (go_at_call 57;refine (bO w0 g HW.out.k p h a c 1 _ A cap HH.out HC.out bq hl hs).mono ?_;intro e w1 hT;obtain ⟨A1,cV,bc,rfl,cu,j0,j1,j2,j4,gI,H1,iC,C1,f1,-⟩:=kr hT HI HW n1 n2 bq;have F1:Hid (Fq w0.heap.size g.T a w w1):=Fq.trans HF.out.fq f1;clear hT f1;obtain ⟨b,off,rfl,t0,t1,jS⟩:=kl cu (by simp [aC]);clear cu)
  | (go_at_call 115;refine (BR w0 g p h (nth ag (c.top 1) 0) _ H1.out HW.out).mono ?_;rintro e w2 ⟨rfl,h2,f2⟩))
 go_ret
 exact ⟨rfl,h2,⟨A,bc,C1.out.fr HW.out.k f2⟩,F1.out.trans f2.fq⟩
theorem Jh (hH:Hs w0 g w p h) (hC:Cs w0 w a c) (C:Cw w0 g h) (ho:h.over=false) (eP:c.stk.length≤500) (hp:0≤c.pc/\c.pc≤100000) (hl:1≤c.stk.length) (Ji:h.sh.out.length≤60000) :
  Calls Tryz.prog 59 #[.pointer (some ⟨p,0,none⟩),.pointer (some ⟨a.q,0,none⟩),.agg (cO 24 ia ib ic ii Q nl q)] w fun e w'=>e=.returned (int i64 (c.pc+1))/\Hs w0 g w' p (h.emit (nth ag (c.top 1) 0) ia)/\Cs w0 w' a (c.cut 1)/\Fq w0.heap.size g.T a w w':=by
 have cH:=hH.base
 obtain ⟨A,cap,cU,gJ,HF,HH,HC,d10,HI,HW,n1,n2,qI,qJ,k1,k2,hs⟩:=dpre 24 ia ib ic ii Q nl q hH hC C eP
 have bq:=ho
 clear hH hC C ho
 go_enter Tryz.func59,Tryz.ntmps59
 go_wp2_with ((go_at_call 57;refine (bO w0 g HW.out.k p h a c 1 _ A cap HH.out HC.out bq hl hs).mono ?_;intro e w1 hT;obtain ⟨A1,cV,bc,rfl,cu,j0,j1,j2,j4,gI,H1,iC,C1,f1,-⟩:=kr hT HI HW n1 n2 bq;have F1:Hid (Fq w0.heap.size g.T a w w1):=Fq.trans HF.out.fq f1;clear hT f1;obtain ⟨b,off,rfl,t0,t1,jS⟩:=kl cu (by simp [aC]);clear cu))
 go_region_held3 (fun w'=>w'.cell? ⟨b,off,none⟩=some (int i64 (nth ag (c.top 1) 0).kind)/\w'.cell? ⟨b,off+1,none⟩=some (int i64 (nth ag (c.top 1) 0).n)/\w'.cell? ⟨w.heap.size,1,none⟩=some (int i64 ia))
  (go_keep)
  (first
   | (go_at_call 116;refine (EH w0 g HW.out.k p h (nth ag (c.top 1) 0) ia _ (by first|exact H1.out.cf (Cf.drew (Cf.refl _ _ _))|exact H1.out) Ji).mono ?_;rintro e w2 ⟨rfl,h2,f2⟩;have F2:Hid (Fr w0.heap.size g.T w1 w2):=Fr.trans (Fr.drew (Fr.refl _ _ _)) f2;clear f2;obtain ⟨u0,u1,Dm⟩:=Lp jS HW F2 (by simp [aC]);obtain ⟨l1,l2,Ag⟩:=Af gI HW F2))
 go_wp2
 go_ret
 exact ⟨rfl,h2,⟨A,bc,C1.out.fr HW.out.k F2.out⟩,F1.out.trans F2.out.fq⟩
end
end Go.Proofs.YtimjmdfokicbkaaGreat
