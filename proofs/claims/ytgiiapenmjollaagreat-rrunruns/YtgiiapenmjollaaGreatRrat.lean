import Derived.Test.YtgiiapenmjollaaGreatRras
namespace Go.Proofs.YtgiiapenmjollaaGreat
set_option linter.all false
set_option maxHeartbeats 40000000
set_option maxRecDepth 100000
open Go.RowKit
open Tryz
variable {f:Fi} {i:In} {z:Int} {m:Me} {b c k nc nm p q x y:Nat} {A B C K P Q:Option Addr} {w w':World}
theorem oa (i:In) (cs:List Cl) (ms:List Me) (A B:Option Addr) (x y:Nat) (m:Me) (P C K:Option Addr) (p c k:Nat) (Q:Option Addr) (q:Nat) (w:World) (h1:1<=m.regs) (h2:m.regs<=90) (hi:i.ok) (hA:bK w A cs) (hB:cz w B ms) (hQ:aU w Q i.args) :
  χ 180 #[n8 m P C K p c k cs.length ms.length A B x y,pg i Q q] w fun e w'=>e=.returned (.bool (cA cs ms m.regs m.ret.kind i))/\Bl w w':=by
 obtain ⟨op,a,b,d,n,args⟩:=i
 have hop:op=1∨op=3∨op=13∨op=16∨op=21∨op=22∨op=2∨op=24∨op=4∨op=5∨op=6∨op=7∨op=8∨op=9∨op=11∨op=12∨op=14∨op=15∨op=17∨op=18∨op=19∨op=23∨op=20∨(op≠1/\op≠3/\op≠13/\op≠16/\op≠21/\op≠22/\op≠2/\op≠24/\op≠4/\op≠5/\op≠6/\op≠7/\op≠8/\op≠9/\op≠11/\op≠12/\op≠14/\op≠15/\op≠17/\op≠18/\op≠19/\op≠23/\op≠20):=by omega
 rcases hop with rfl|rfl|rfl|rfl|rfl|rfl|rfl|rfl|rfl|rfl|rfl|rfl|rfl|rfl|rfl|rfl|rfl|rfl|rfl|rfl|rfl|rfl|rfl|hop
 ·exact OV cs ms A B x y m P C K p c k a b d n args Q q w h1 h2 hi
 ·exact OX cs ms A B x y m P C K p c k a b d n args Q q w h1 h2 hi
 ·exact Lw cs ms A B x y m P C K p c k a b d n args Q q w h1 h2 hi
 ·exact Lx cs ms A B x y m P C K p c k a b d n args Q q w h1 h2 hi
 ·exact Ly cs ms A B x y m P C K p c k a b d n args Q q w h1 h2 hi
 ·exact LA cs ms A B x y m P C K p c k a b d n args Q q w h1 h2 hi
 ·exact OY cs ms A B x y m P C K p c k a b d n args Q q w h1 h2 hi
 ·exact LB cs ms A B x y m P C K p c k a b d n args Q q w h1 h2 hi
 ·exact OZ cs ms A B x y m P C K p c k a b d n args Q q w h1 h2 hi
 ·exact Ou cs ms A B x y m P C K p c k a b d n args Q q w h1 h2 hi
 ·exact O0 cs ms A B x y m P C K p c k a b d n args Q q w h1 h2 hi
 ·exact O3 cs ms A B x y m P C K p c k a b d n args Q q w h1 h2 hi
 ·exact O4 cs ms A B x y m P C K p c k a b d n args Q q w h1 h2 hi
 ·exact O7 cs ms A B x y m P C K p c k a b d n args Q q w h1 h2 hi
 ·exact LD cs ms A B x y m P C K p c k a b d n args Q q w h1 h2 hi
 ·exact LF cs ms A B x y m P C K p c k a b d n args Q q w h1 h2 hi
 ·exact LJ cs ms A B x y m P C K p c k a b d n args Q q w h1 h2 hA hi
 ·exact LK cs ms A B x y m P C K p c k a b d n args Q q w h1 h2 hA hi
 ·exact LG cs ms A B x y m P C K p c k a b d n args Q q w h1 h2 hi
 ·have hb:cA cs ms m.regs m.ret.kind ⟨18,a,b,d,n,args⟩=fk ms m.regs ⟨18,a,b,d,n,args⟩:=rfl
  rw [hb]
  obtain ⟨R,hR⟩:∃R,fk ms m.regs ⟨18,a,b,d,n,args⟩=R:=⟨_,rfl⟩
  rw [hR]
  have bM:Θ (Bl w (eW w m P C K p c k cs.length ms.length A B x y ⟨18,a,b,d,n,args⟩ Q q)):=((Bl.refl _).alloc _).alloc _
  have HB:Θ (cz w B ms):=hB
  have HQ:Θ (aU w Q args):=hQ
  clear hb hA hB hQ hi
  go_enter func180,ntmps180
  go_wp2_with (go_at_call 223;refine (Ea m _ _ _ _ _ _ _ ms _ _ _ _ ⟨18,a,b,d,n,args⟩ _ _ _ h1 h2 (HB.o.bl bM.o) (HQ.o.bl bM.o)).mono ?_;rintro e w1 ⟨he,g1⟩;rw [hR] at he;subst he)
  go_ret
  exact ⟨rfl,bM.o.trans g1⟩
 ·exact LH cs ms A B x y m P C K p c k a b d n args Q q w h1 h2 hi
 ·exact LI cs ms A B x y m P C K p c k a b d n args Q q w h1 h2 hi
 ·have hb:cA cs ms m.regs m.ret.kind ⟨20,a,b,d,n,args⟩=mK m.regs m.ret.kind a:=rfl
  rw [hb]
  obtain ⟨R,hR⟩:∃R,mK m.regs m.ret.kind a=R:=⟨_,rfl⟩
  rw [hR]
  have bM:Θ (Bl w (eW w m P C K p c k cs.length ms.length A B x y ⟨20,a,b,d,n,args⟩ Q q)):=((Bl.refl _).alloc _).alloc _
  have Zj:=bj hi
  clear hb hA hB hQ hi
  go_enter func180,ntmps180
  go_wp2_with (go_at_call 224;refine (Ip m _ _ _ _ _ _ _ _ _ _ _ _ ⟨20,a,b,d,n,args⟩ _ _ _ h1 h2 Zj.o).mono ?_;rintro e w1 ⟨he,g1⟩;rw [hR] at he;subst he)
  go_ret
  exact ⟨rfl,bM.o.trans g1⟩
 ·obtain ⟨h1,h3,qx,Nb,PZ,GP,h2,O9,h4,h5,h6,h7,h8,h9,lP,jU,SR,PY,P0,oA,oW,Nc,kV⟩:=hop
  have z1:(op==1)=false:=by simp;omega
  have z3:(op==3)=false:=by simp;omega
  have UB:(op==13)=false:=by simp;omega
  have Wu:(op==16)=false:=by simp;omega
  have z21:(op==21)=false:=by simp;omega
  have z22:(op==22)=false:=by simp;omega
  have z2:(op==2)=false:=by simp;omega
  have z24:(op==24)=false:=by simp;omega
  have z4:(op==4)=false:=by simp;omega
  have z5:(op==5)=false:=by simp;omega
  have z6:(op==6)=false:=by simp;omega
  have z7:(op==7)=false:=by simp;omega
  have z8:(op==8)=false:=by simp;omega
  have z9:(op==9)=false:=by simp;omega
  have WZ:(op==11)=false:=by simp;omega
  have z12:(op==12)=false:=by simp;omega
  have Zk:(op==14)=false:=by simp;omega
  have Zl:(op==15)=false:=by simp;omega
  have W1:(op==17)=false:=by simp;omega
  have SS:(op==18)=false:=by simp;omega
  have Zm:(op==19)=false:=by simp;omega
  have W5:(op==23)=false:=by simp;omega
  have z20:(op==20)=false:=by simp;omega
  have hb:cA cs ms m.regs m.ret.kind ⟨op,a,b,d,n,args⟩=true:=by
   unfold cA;dsimp only
   repeat rw [if_neg (by omega)]
  rw [hb]
  clear hb hA hB hQ hi h1 h3 qx Nb PZ GP h2 O9 h4 h5 h6 h7 h8 h9 lP jU SR PY P0 oA oW Nc kV
  go_enter func180,ntmps180
  go_wp2
  go_ret
  exact ⟨rfl,((Bl.refl _).alloc _).alloc _⟩

theorem Eb {most:Int} (h:dS nc m most=true):m.params.length<=4/\m.hands.length<=8/\1<=m.code.length/\(m.code.length:Int)<=most :=
 Decidable.byContradiction fun hc=>by rw [nJ hc] at h;exact absurd h (by decide)
theorem fK.new (w:World) (nc nm:Nat) (A B:Option Addr) (x y:Nat):fK (w.alloc (D8 nc nm A B x y)) w.heap.size 0 nc nm A B x y:=⟨ai rfl,ai rfl⟩
structure ob (w:World) (b:Nat) (nc nm:Nat) (A B:Option Addr) (x y:Nat) (m:Me) (P C K:Option Addr) (p c k:Nat) (i:In) (Q:Option Addr) (q:Nat):Prop where
 f0:w.cell? ⟨b,0,none⟩=some (.slice A nc x)
 f1:w.cell? ⟨b,1,none⟩=some (.slice B nm y)
 m:fD w (b+1) m P C K p c k
 i0:w.cell? ⟨b+1+1,0,none⟩=some (ι i.op)
 i1:w.cell? ⟨b+1+1,1,none⟩=some (ι i.a)
 i2:w.cell? ⟨b+1+1,2,none⟩=some (ι i.b)
 i3:w.cell? ⟨b+1+1,3,none⟩=some (ι i.c)
 i4:w.cell? ⟨b+1+1,4,none⟩=some (ι i.n)
 i5:w.cell? ⟨b+1+1,5,none⟩=some (.slice Q i.args.length q)
theorem ob.bl (h:Bl w w') (hb:ob w b nc nm A B x y m P C K p c k i Q q):ob w' b nc nm A B x y m P C K p c k i Q q :=
 ⟨h.cell hb.f0,h.cell hb.f1,hb.m.bl h,h.cell hb.i0,h.cell hb.i1,h.cell hb.i2,h.cell hb.i3,h.cell hb.i4,h.cell hb.i5⟩
abbrev W3 (w:World) (nc nm:Nat) (A B:Option Addr) (x y:Nat) (m:Me) (P C K:Option Addr) (p c k:Nat) (i:In) (Q:Option Addr) (q:Nat):World :=
 ((w.alloc (D8 nc nm A B x y)).alloc (mY m P C K p c k)).alloc (Zg i Q q)
theorem ob.new (w:World) (nc nm:Nat) (A B:Option Addr) (x y:Nat) (m:Me) (P C K:Option Addr) (p c k:Nat) (i:In) (Q:Option Addr) (q:Nat) :
  ob (W3 w nc nm A B x y m P C K p c k i Q q) w.heap.size nc nm A B x y m P C K p c k i Q q:=by
 have h1:(w.alloc (D8 nc nm A B x y)).heap.size=w.heap.size+1:=World.size_alloc ..
 have h2:((w.alloc (D8 nc nm A B x y)).alloc (mY m P C K p c k)).heap.size=w.heap.size+1+1:=by rw [World.size_alloc,World.size_alloc]
 have b2:Bl (w.alloc (D8 nc nm A B x y)) (W3 w nc nm A B x y m P C K p c k i Q q):=((Bl.refl _).alloc _).alloc _
 have b3:Bl ((w.alloc (D8 nc nm A B x y)).alloc (mY m P C K p c k)) (W3 w nc nm A B x y m P C K p c k i Q q):=(Bl.refl _).alloc _
 have hm:=(fD.new (w.alloc (D8 nc nm A B x y)) m P C K p c k).bl b3
 rw [h1] at hm
 refine ⟨b2.cell (ai rfl),b2.cell (ai rfl),hm,?_,?_,?_,?_,?_,?_⟩<;>rw [<-h2]<;>exact ai rfl
structure oc (w:World) (b:Nat) (nc nm:Nat) (A B:Option Addr) (x y:Nat) (m:Me) (P C K:Option Addr) (p c k:Nat):Prop where
 f0:w.cell? ⟨b,0,none⟩=some (.slice A nc x)
 f1:w.cell? ⟨b,1,none⟩=some (.slice B nm y)
 m:fD w (b+1) m P C K p c k
theorem oc.bl (h:Bl w w') (hb:oc w b nc nm A B x y m P C K p c k):oc w' b nc nm A B x y m P C K p c k:=⟨h.cell hb.f0,h.cell hb.f1,hb.m.bl h⟩
theorem oc.new (w:World) (nc nm:Nat) (A B:Option Addr) (x y:Nat) (m:Me) (P C K:Option Addr) (p c k:Nat) :
  oc ((w.alloc (D8 nc nm A B x y)).alloc (mY m P C K p c k)) w.heap.size nc nm A B x y m P C K p c k:=by
 have b2:Bl (w.alloc (D8 nc nm A B x y)) ((w.alloc (D8 nc nm A B x y)).alloc (mY m P C K p c k)):=(Bl.refl _).alloc _
 have hm:=fD.new (w.alloc (D8 nc nm A B x y)) m P C K p c k
 rw [World.size_alloc] at hm
 exact ⟨b2.cell (ai rfl),b2.cell (ai rfl),hm⟩
theorem LL (n:Nat):(if (1:Int)<(n:Int) then (n:Int) else 1)=max 1 (n:Int):=by split<;>omega
theorem tS (m:Me) (P C K:Option Addr) (p c k:Nat) (w:World) (hP:cX w P m.params) (h4:m.params.length<=4) (hk:∀k,k<m.params.length->(nth bS m.params k).kind≠0) :
  χ 128 #[sK m P C K p c k] w fun e w'=>e=.returned (.bool (pd m))/\Bl w w':=by
 have hal:Bl w (w.alloc (mY m P C K p c k)):=(Bl.refl _).alloc _
 have XP:Θ (∀x:pA (w.alloc (mY m P C K p c k)),cX x.to P m.params):=fun x=>hP.bl (hal.trans x.is)
 have HK:Θ (∀k,k<m.params.length->(nth bS m.params k).kind≠0):=hk
 obtain ⟨x0,x1,x2,x3,x4,x5,x6,x7⟩:=fD.new w m P C K p c k
 have y0:=aj x0
 have y3:=aj x3
 have y4:=aj x4
 have y5:=aj x5
 clear x0 x1 x2 x3 x4 x5 x6 x7 hP hk
 have Zn:=oC m.params
 unfold pd
 by_cases hr:m.stack=0
 ·have SU:(m.stack==0)=true:=by simpa using hr
  rw [decide_eq_true hr,Bool.true_and]
  clear hr
  by_cases hs:m.locs=0
  ·have ds:(m.locs==0)=true:=by simpa using hs
   rw [decide_eq_true hs,Bool.true_and]
   clear hs
   obtain ⟨N,hN⟩:∃N,cj m.params=N:=⟨_,rfl⟩
   rw [hN] at Zn ⊢
   obtain ⟨R,hR⟩:∃R,decide (max 1 (N:Int)<=m.regs/\m.regs<=90)=R:=⟨_,rfl⟩
   rw [hR]
   rw [<-LL N] at hR
   go_enter func128,ntmps128
   go_wp2
   refine az (by kernel_rfl) (by kernel_rfl) fun hne=>?_
   repeat (go_big_quiet_step (first
    | (go_at_call 82;exact Calls.fut_eq _ (D3 _ _ _ _ (XP.o _) (by omega) HK.o) (congrArg (fun n:Nat=>Value.int .i64 (n:Int)) hN))
    | (go_at_call 35;exact Calls.fut_same_eq _ (bP _ _ _ _) (congrArg Value.bool hR))))
   refine wpQuiet_nil ?_
   rintro _ ⟨⟨w2,bX⟩,rfl⟩
   go_wp2
   all_goals
    go_ret
    exact ⟨rfl,hal.trans bX⟩
  ·have ds:(m.locs==0)=false:=by simpa using hs
   rw [decide_eq_false hs,Bool.false_and]
   go_enter func128,ntmps128
   go_wp2
   refine az (by kernel_rfl) (by kernel_rfl) fun hne=>?_
   repeat (go_big_quiet_step (fail))
   refine wpQuiet_nil ?_
   rintro _ ⟨⟨w2,bX⟩,rfl⟩
   go_wp2
   go_ret
   exact ⟨rfl,hal.trans bX⟩
 ·have SU:(m.stack==0)=false:=by simpa using hr
  rw [decide_eq_false hr,Bool.false_and]
  go_enter func128,ntmps128
  go_wp2
  refine az (by kernel_rfl) (by kernel_rfl) fun hne=>?_
  repeat (go_big_quiet_step (fail))
  refine wpQuiet_nil ?_
  rintro _ ⟨⟨w2,bX⟩,rfl⟩
  go_wp2
  go_ret
  exact ⟨rfl,hal.trans bX⟩
theorem LM {wr:World} (H:D6 wr b m P C K p c k nc nm A B x y) (o:Obj):D6 (wr.alloc o) b m P C K p c k nc nm A B x y:=H.bl ((Bl.refl wr).alloc o)
section
variable (cs:List Cl) (ms:List Me) (A B:Option Addr) (x y:Nat) (m:Me) (P C K:Option Addr) (p c k:Nat) (w:World)
theorem Ec (h1:1<=m.regs) (h2:m.regs<=90) (hA:bK w A cs) (hB:cz w B ms) (hC:pn w C m.code) :
  χ 129 #[n8 m P C K p c k cs.length ms.length A B x y] w fun e w'=>e=.returned (.bool (si cs ms m))/\Bl w w':=by
 have HA:Θ (bK w A cs):=hA
 have wy:Θ (cz w B ms):=hB
 have HC:Θ (pn w C m.code):=hC
 have eG:=hC.1
 have UE:Θ (cs.length<=maxLen):=hA.1
 have Iv:Θ (m.code.length<=maxLen):=eG
 have bM:Θ (Bl w (w.alloc (OU m P C K p c k cs.length ms.length A B x y))):=(Bl.refl _).alloc _
 have HM:=bj (D6.new w m P C K p c k cs.length ms.length A B x y)
 clear hA hB hC
 unfold maxLen at eG
 unfold si
 by_cases hl:1<=(m.code.length:Int)/\(m.code.length:Int)<=2400
 ·have d1:decide (1<=(m.code.length:Int)/\(m.code.length:Int)<=2400)=true:=decide_eq_true hl
  rw [d1,Bool.true_and]
  have HG:Θ ((∀q,q<m.code.length->nd cs ms m.code.length m.regs m.ret.kind (nth eR m.code q)=true)->m.code.all (nd cs ms m.code.length m.regs m.ret.kind)=true):=iq
  have HB:Θ (∀q,q<m.code.length->nd cs ms m.code.length m.regs m.ret.kind (nth eR m.code q)=false->m.code.all (nd cs ms m.code.length m.regs m.ret.kind)=false):=fun q=>jA
  obtain ⟨R,hR⟩:∃R,m.code.all (nd cs ms m.code.length m.regs m.ret.kind)=R:=⟨_,rfl⟩
  rw [hR] at HG HB ⊢
  clear hR
  go_enter func129,ntmps129
  go_wp2_with (go_at_call 35;refine (bP _ _ _ _).mono ?_;rintro e w0 ⟨he,gH⟩;rw [d1] at he;subst he;rw [gH];clear gH w0)
  go_loopw [15] (fun i wr=>∃q:Nat,q<=m.code.length/\i=ι q/\Θ (∀j,j<q->nd cs ms m.code.length m.regs m.ret.kind (nth eR m.code j)=true)/\Θ (Bl w wr)/\Θ (D6 wr w.heap.size m P C K p c k cs.length ms.length A B x y)) (fun i _=>m.code.length-(intOf i).toNat)
  case atStart=>exact ⟨0,Nat.zero_le _,rfl,fun j hj=>absurd hj (Nat.not_lt_zero _),bM.o,HM.o⟩
  case round =>
   clear HM bM
   obtain ⟨q,hq,rfl,lq,hg,HM⟩:=hrel
   by_cases dI:q<m.code.length
   ·rcases HC.o.2 with h0|⟨b,off,rfl,hcell⟩
    ·omega
    obtain ⟨c0,c1,c2,c3,c4,hok,Q',q',c5,Xa⟩:=hcell q dI
    replace c0:=hg.o.cell c0
    replace c1:=hg.o.cell c1
    replace c2:=hg.o.cell c2
    replace c3:=hg.o.cell c3
    replace c4:=hg.o.cell c4
    replace c5:=hg.o.cell c5
    have HN:Θ (nd cs ms m.code.length m.regs m.ret.kind (nth eR m.code q)=false->R=false):=HB.o q dI
    generalize hX:nth eR m.code q=X at *
    have HX:Θ (nth eR m.code q=X):=hX
    have Bb:=bj hok
    have P1:Θ (aU w Q' X.args):=Xa
    clear hcell HB hX Xa hok
    have mG:Θ (Bl wr (wr.alloc (SP X Q' q'))):=(Bl.refl wr).alloc _
    have Q7:=bj (LM HM.o (SP X Q' q'))
    have Q8:=bj (Lv.new wr X Q' q')
    obtain ⟨m0,m1,m2,m3,m4,m5,m6,m7,m8,m9⟩:=Q7.o
    have Gi:nd cs ms m.code.length m.regs m.ret.kind X=(decide (1<=X.op/\X.op<=24)&&(cA cs ms m.regs m.ret.kind X&&(gK cs.length m.code.length X&&pb X))):=rfl
    obtain ⟨T0,P2⟩:∃T0,decide (1<=X.op/\X.op<=24)=T0:=⟨_,rfl⟩
    obtain ⟨T1,Q9⟩:∃T1,cA cs ms m.regs m.ret.kind X=T1:=⟨_,rfl⟩
    obtain ⟨T2,SV⟩:∃T2,gK cs.length m.code.length X=T2:=⟨_,rfl⟩
    obtain ⟨T3,UF⟩:∃T3,pb X=T3:=⟨_,rfl⟩
    have vG:Θ (nd cs ms m.code.length m.regs m.ret.kind X=(T0&&(T1&&(T2&&T3)))):=by rw [<-P2,<-Q9,<-SV,<-UF];exact Gi
    clear Gi HG
    cases T0
    ·have HF:=HN.o (by rw [vG.o];rfl)
     clear HN
     go_wp2_with (first
      | (go_at_call 35;refine (bP _ _ _ _).mono ?_;rintro e w0 ⟨he,gH⟩;rw [P2] at he;subst he;rw [gH];clear gH w0))
     go_ret
     exact ⟨ag HF.symm,hg.o.trans mG.o⟩
    cases T1
    ·have HF:=HN.o (by rw [vG.o];rfl)
     clear HN
     go_wp2_with (first
      | (go_at_call 35;refine (bP _ _ _ _).mono ?_;rintro e w0 ⟨he,gH⟩;rw [P2] at he;subst he;rw [gH];clear gH w0)
      | (go_at_call 180;refine (oa X cs ms _ _ _ _ m _ _ _ _ _ _ _ _ _ h1 h2 Bb.o (HA.o.bl (hg.o.trans mG.o)) (wy.o.bl (hg.o.trans mG.o)) (P1.o.bl (hg.o.trans mG.o))).mono ?_;rintro e w1 ⟨he,g1⟩;rw [Q9] at he;subst he))
     go_ret
     exact ⟨ag HF.symm,(hg.o.trans mG.o).trans g1⟩
    cases T2
    ·have HF:=HN.o (by rw [vG.o];rfl)
     clear HN
     go_wp2_with (first
      | (go_at_call 35;refine (bP _ _ _ _).mono ?_;rintro e w0 ⟨he,gH⟩;rw [P2] at he;subst he;rw [gH];clear gH w0)
      | (go_at_call 180;refine (oa X cs ms _ _ _ _ m _ _ _ _ _ _ _ _ _ h1 h2 Bb.o (HA.o.bl (hg.o.trans mG.o)) (wy.o.bl (hg.o.trans mG.o)) (P1.o.bl (hg.o.trans mG.o))).mono ?_;rintro e w1 ⟨he,g1⟩;rw [Q9] at he;subst he;obtain ⟨a0,a1,a2,a3,a4,a5,a6,a7,a8,a9⟩:=Q7.o.bl g1;obtain ⟨i0,i1,i2,i3,i4,i5⟩:=Q8.o.bl g1)
      | (go_at_call 181;refine (sn X _ _ _ _ _ _ m _ _ _ _ _ _ _ _ _ UE.o Iv.o).mono ?_;rintro e w2 ⟨he,g2⟩;rw [SV] at he;subst he))
     go_ret
     exact ⟨ag HF.symm,((hg.o.trans mG.o).trans g1).trans g2⟩
    cases T3
    ·have HF:=HN.o (by rw [vG.o];rfl)
     clear HN
     go_wp2_with (first
      | (go_at_call 35;refine (bP _ _ _ _).mono ?_;rintro e w0 ⟨he,gH⟩;rw [P2] at he;subst he;rw [gH];clear gH w0)
      | (go_at_call 180;refine (oa X cs ms _ _ _ _ m _ _ _ _ _ _ _ _ _ h1 h2 Bb.o (HA.o.bl (hg.o.trans mG.o)) (wy.o.bl (hg.o.trans mG.o)) (P1.o.bl (hg.o.trans mG.o))).mono ?_;rintro e w1 ⟨he,g1⟩;rw [Q9] at he;subst he;obtain ⟨a0,a1,a2,a3,a4,a5,a6,a7,a8,a9⟩:=Q7.o.bl g1;obtain ⟨i0,i1,i2,i3,i4,i5⟩:=Q8.o.bl g1)
      | (go_at_call 181;refine (sn X _ _ _ _ _ _ m _ _ _ _ _ _ _ _ _ UE.o Iv.o).mono ?_;rintro e w2 ⟨he,g2⟩;rw [SV] at he;subst he;obtain ⟨j0,j1,j2,j3,j4,j5⟩:=Q8.o.bl (g1.trans g2))
      | (go_at_call 182;refine (tR X _ _ _ P1.o.1).mono ?_;rintro e w3 ⟨he,g3⟩;rw [UF] at he;subst he))
     go_ret
     exact ⟨ag HF.symm,(((hg.o.trans mG.o).trans g1).trans g2).trans g3⟩
    ·have HT:Θ (nd cs ms m.code.length m.regs m.ret.kind X=true):=by rw [vG.o];rfl
     clear HN
     go_wp2_with (first
      | (go_at_call 35;refine (bP _ _ _ _).mono ?_;rintro e w0 ⟨he,gH⟩;rw [P2] at he;subst he;rw [gH];clear gH w0)
      | (go_at_call 180;refine (oa X cs ms _ _ _ _ m _ _ _ _ _ _ _ _ _ h1 h2 Bb.o (HA.o.bl (hg.o.trans mG.o)) (wy.o.bl (hg.o.trans mG.o)) (P1.o.bl (hg.o.trans mG.o))).mono ?_;rintro e w1 ⟨he,g1⟩;rw [Q9] at he;subst he;obtain ⟨a0,a1,a2,a3,a4,a5,a6,a7,a8,a9⟩:=Q7.o.bl g1;obtain ⟨i0,i1,i2,i3,i4,i5⟩:=Q8.o.bl g1)
      | (go_at_call 181;refine (sn X _ _ _ _ _ _ m _ _ _ _ _ _ _ _ _ UE.o Iv.o).mono ?_;rintro e w2 ⟨he,g2⟩;rw [SV] at he;subst he;obtain ⟨j0,j1,j2,j3,j4,j5⟩:=Q8.o.bl (g1.trans g2))
      | (go_at_call 182;refine (tR X _ _ _ P1.o.1).mono ?_;rintro e w3 ⟨he,g3⟩;rw [UF] at he;subst he))
     go_roundw
     case rel=>exact ⟨q+1,by omega,by go_num,fun j hj=>if h:j<q then lq.o j h else by have:j=q:=(by omega);subst this;rw [HX.o];exact HT.o,(((hg.o.trans mG.o).trans g1).trans g2).trans g3,Q7.o.bl ((g1.trans g2).trans g3)⟩
     case measure=>simp [intOf];omega
   ·have hkk:q=m.code.length:=by omega
    subst hkk
    have HF:=HG.o lq.o
    clear HG
    go_wp2
    go_ret
    exact ⟨ag HF.symm,hg.o⟩
 ·have d1:decide (1<=(m.code.length:Int)/\(m.code.length:Int)<=2400)=false:=decide_eq_false hl
  rw [d1,Bool.false_and]
  go_enter func129,ntmps129
  go_wp2_with (go_at_call 35;refine (bP _ _ _ _).mono ?_;rintro e w0 ⟨he,gH⟩;rw [d1] at he;subst he;rw [gH];clear gH w0)
  go_ret
  exact ⟨rfl,bM.o⟩
theorem BZ (hA:bK w A cs) (hB:cz w B ms) (hm:ku w m P C K) :
  χ 68 #[n8 m P C K p c k cs.length ms.length A B x y] w fun e w'=>e=.returned (.bool (nZ cs ms m))/\Bl w w':=by
 have HA:Θ (bK w A cs):=hA
 have wy:Θ (cz w B ms):=hB
 have sZ:Θ (ku w m P C K):=hm
 have bM:Θ (Bl w (w.alloc (OU m P C K p c k cs.length ms.length A B x y))):=(Bl.refl _).alloc _
 have HM:=bj (D6.new w m P C K p c k cs.length ms.length A B x y)
 have mE:=hA.1
 unfold maxLen at mE
 clear hA hB hm
 unfold nZ
 cases hh:tQ cs.length m
 ·rw [Bool.false_and]
  go_enter func68,ntmps68
  go_wp2_with (go_at_call 36;refine (lV m _ _ _ _ _ _ _ _ (sZ.o.bl bM.o)).mono ?_;rintro e w1 ⟨he,g1⟩;rw [hh] at he;subst he)
  go_ret
  exact ⟨rfl,bM.o.trans g1⟩
 ·rw [Bool.true_and]
  have h4:m.params.length<=4:=by
   have:=hh;unfold tQ at this;rw [Bool.and_eq_true,decide_eq_true_eq] at this;exact this.1
  have Xb:Θ (∀k,k<m.params.length->(nth bS m.params k).kind≠0):=fun k hk=>by have:=Io hh k hk;omega
  cases hr:pd m
  ·rw [Bool.false_and]
   go_enter func68,ntmps68
   go_wp2_with (first
    | (go_at_call 36;refine (lV m _ _ _ _ _ _ _ _ (sZ.o.bl bM.o)).mono ?_;rintro e w1 ⟨he,g1⟩;rw [hh] at he;subst he;obtain ⟨a0,a1,a2,a3,a4,a5,a6,a7,a8,a9⟩:=HM.o.bl g1)
    | (go_at_call 128;refine (tS m _ _ _ _ _ _ _ (sZ.o.1.bl (bM.o.trans g1)) h4 Xb.o).mono ?_;rintro e w2 ⟨he,g2⟩;rw [hr] at he;subst he))
   go_ret
   exact ⟨rfl,(bM.o.trans g1).trans g2⟩
  ·rw [Bool.true_and]
   have Zo:1<=m.regs/\m.regs<=90:=by
    have:=hr;unfold pd at this;rw [Bool.and_eq_true,Bool.and_eq_true,decide_eq_true_eq,decide_eq_true_eq,decide_eq_true_eq] at this;omega
   obtain ⟨h1,h2⟩:=Zo
   obtain ⟨R,hR⟩:∃R,si cs ms m=R:=⟨_,rfl⟩
   rw [hR]
   go_enter func68,ntmps68
   go_wp2_with (first
    | (go_at_call 36;refine (lV m _ _ _ _ _ _ _ _ (sZ.o.bl bM.o)).mono ?_;rintro e w1 ⟨he,g1⟩;rw [hh] at he;subst he;obtain ⟨a0,a1,a2,a3,a4,a5,a6,a7,a8,a9⟩:=HM.o.bl g1)
    | (go_at_call 128;refine (tS m _ _ _ _ _ _ _ (sZ.o.1.bl (bM.o.trans g1)) h4 Xb.o).mono ?_;rintro e w2 ⟨he,g2⟩;rw [hr] at he;subst he;obtain ⟨b0,b1,b2,b3,b4,b5,b6,b7,b8,b9⟩:=HM.o.bl (g1.trans g2))
    | (go_at_call 129;refine (Ec cs ms _ _ _ _ m _ _ _ _ _ _ _ h1 h2 (HA.o.bl ((bM.o.trans g1).trans g2)) (wy.o.bl ((bM.o.trans g1).trans g2)) (sZ.o.2.1.bl ((bM.o.trans g1).trans g2))).mono ?_;rintro e w3 ⟨he,g3⟩;rw [hR] at he;subst he))
   go_ret
   exact ⟨rfl,((bM.o.trans g1).trans g2).trans g3⟩
end
theorem Iw (h:dt f.classes=false):js f=false:=by unfold js;rw [h];rfl
theorem Ee (h:¬(1<=(f.methods.length:Int)/\(f.methods.length:Int)<=8)):js f=false:=by unfold js;rw [decide_eq_false h,Bool.false_and,Bool.and_false]
theorem LN (hq:q<f.methods.length) (h:nZ f.classes f.methods (nth bT f.methods q)=false):js f=false:=by
 unfold js;rw [jA hq h,Bool.and_false,Bool.and_false]
theorem Ef (h0:dt f.classes=true) (h:1<=(f.methods.length:Int)/\(f.methods.length:Int)<=8) (hi:∀q,q<f.methods.length->nZ f.classes f.methods (nth bT f.methods q)=true):js f=true:=by
 unfold js;rw [h0,decide_eq_true h,iq hi];rfl
section
variable (f:Fi) (A B:Option Addr) (a b:Nat) (w:World)
theorem Ix (hA:bK w A f.classes) (hB:cz w B f.methods) :
  χ 30 #[lr f.classes.length f.methods.length A B a b] w fun e w'=>e=.returned (.bool (js f))/\Bl w w':=by
 have HA:Θ (bK w A f.classes):=hA
 have HB:Θ (cz w B f.methods):=hB
 have JJ:=hA.1
 have iL:=hB.1
 unfold maxLen at JJ iL
 clear hA hB
 have HF:Θ (fK (w.alloc (D8 f.classes.length f.methods.length A B a b)) w.heap.size 0 f.classes.length f.methods.length A B a b):=fK.new ..
 have HW:Θ (Bl w (w.alloc (D8 f.classes.length f.methods.length A B a b))):=(Bl.refl w).alloc _
 cases hm:dt f.classes
 ·have hb:=Iw hm
  rw [hb]
  go_enter func30,ntmps30
  go_wp2_with (go_at_call 34;refine (l3 _ _ _ _ (HA.o.bl HW.o)).mono ?_;rintro e w1 ⟨he,g1⟩;rw [hm] at he;subst he)
  go_ret
  exact ⟨rfl,HW.o.trans g1⟩
 by_cases hn:1<=(f.methods.length:Int)/\(f.methods.length:Int)<=8
 ·have dn:decide (1<=(f.methods.length:Int)/\(f.methods.length:Int)<=8)=true:=decide_eq_true hn
  have HG:Θ ((∀q,q<f.methods.length->nZ f.classes f.methods (nth bT f.methods q)=true)->js f=true):=Ef hm hn
  go_enter func30,ntmps30
  go_wp2_with (first
   | (go_at_call 34;refine (l3 _ _ _ _ (HA.o.bl HW.o)).mono ?_;rintro e w1 ⟨he,g1⟩;rw [hm] at he;subst he;have q1:=(HF.o.bl g1).2;simp only [Nat.zero_add] at q1)
   | (go_at_call 35;refine (bP _ _ _ _).mono ?_;rintro e w2 ⟨he,bX⟩;rw [dn] at he;subst he;rw [bX];clear bX w2))
  go_loopw [19] (fun i wr=>∃k:Nat,k<=f.methods.length/\i=ι k/\Θ (∀j,j<k->nZ f.classes f.methods (nth bT f.methods j)=true)/\Θ (Bl w wr)/\Θ (fK wr w.heap.size 0 f.classes.length f.methods.length A B a b)) (fun i _=>f.methods.length-(intOf i).toNat)
  case atStart=>exact ⟨0,Nat.zero_le _,rfl,fun j hj=>absurd hj (Nat.not_lt_zero _),HW.o.trans g1,HF.o.bl g1⟩
  case round =>
   clear HF HW q1 g1 hm
   obtain ⟨k,hk,rfl,Ra,hg,HF⟩:=hrel
   by_cases LO:k<f.methods.length
   ·have Eg:=HB.o.bl hg.o
    have Rb:=bj Eg
    rcases Eg.2 with h0|⟨b',iO,rfl,hcell⟩
    ·omega
    obtain ⟨P,C,K,p,c,kk,c0,c1,c2,c3,c4,c5,c6,c7,hme⟩:=hcell k LO
    have jP:Θ (nZ f.classes f.methods (nth bT f.methods k)=false->js f=false):=LN LO
    generalize hM:nth bT f.methods k=m at *
    have HM:Θ (nth bT f.methods k=m):=hM
    have sZ:Θ (ku wr m P C K):=hme
    have X9:∀o,(wr.alloc o).cell? ⟨w.heap.size,0,none⟩=some (.slice A f.classes.length a):=fun o=>((Bl.refl wr).alloc o).cell HF.o.1
    have qf1:∀o,(wr.alloc o).cell? ⟨w.heap.size,1,none⟩=some (.slice (some ⟨b',iO,none⟩) f.methods.length b):=fun o=>by
     have:=HF.o.2;simp only [Nat.zero_add] at this;exact ((Bl.refl wr).alloc o).cell this
    have bM:Θ (Bl wr (wr.alloc (mY m P C K p c kk))):=(Bl.refl wr).alloc _
    have Zp:Θ (fK (wr.alloc (mY m P C K p c kk)) w.heap.size 0 f.classes.length f.methods.length A _ a b):=HF.o.bl bM.o
    clear Eg hcell hM hme
    cases hh:nZ f.classes f.methods m
    ·have HN:Θ (js f=false):=jP.o hh
     clear jP
     go_wp2_with (go_at_call 68;refine (BZ f.classes f.methods _ _ _ _ m _ _ _ _ _ _ _ (HA.o.bl (hg.o.trans bM.o)) (Rb.o.bl bM.o) (sZ.o.bl bM.o)).mono ?_;rintro e w1 ⟨he,g1⟩;rw [hh] at he;subst he)
     go_ret
     exact ⟨ag HN.o.symm,(hg.o.trans bM.o).trans g1⟩
    ·have HT:Θ (nZ f.classes f.methods m=true):=hh
     clear jP
     go_wp2_with (go_at_call 68;refine (BZ f.classes f.methods _ _ _ _ m _ _ _ _ _ _ _ (HA.o.bl (hg.o.trans bM.o)) (Rb.o.bl bM.o) (sZ.o.bl bM.o)).mono ?_;rintro e w1 ⟨he,g1⟩;rw [hh] at he;subst he)
     go_roundw
     case rel=>exact ⟨k+1,by omega,by go_num,fun j hj=>if h:j<k then Ra.o j h else by have:j=k:=(by omega);subst this;rw [HM.o];exact HT.o,(hg.o.trans bM.o).trans g1,Zp.o.bl g1⟩
     case measure=>simp [intOf];omega
   ·obtain rfl:k=f.methods.length:=by omega
    have HN:Θ (js f=true):=HG.o Ra.o
    go_wp2
    go_ret
    exact ⟨ag HN.o.symm,hg.o⟩
 ·have hb:=Ee (f:=f) hn
  rw [hb]
  have dn:decide (1<=(f.methods.length:Int)/\(f.methods.length:Int)<=8)=false:=decide_eq_false hn
  go_enter func30,ntmps30
  go_wp2_with (first
   | (go_at_call 34;refine (l3 _ _ _ _ (HA.o.bl HW.o)).mono ?_;rintro e w1 ⟨he,g1⟩;rw [hm] at he;subst he;have q1:=(HF.o.bl g1).2;simp only [Nat.zero_add] at q1)
   | (go_at_call 35;refine (bP _ _ _ _).mono ?_;rintro e w2 ⟨he,bX⟩;rw [dn] at he;subst he;rw [bX];clear bX w2))
  go_ret
  exact ⟨rfl,HW.o.trans g1⟩
theorem Iy (hA:bK w A f.classes) (hB:cz w B f.methods) :
  χ 30 #[lr f.classes.length f.methods.length A B a b] w fun e w'=>e=.returned (.bool (bJ f))/\Bl w w':=by
 rw [Lt];exact Ix f A B a b w hA hB
end
theorem aX (m:Me) (P C K:Option Addr) (p c k:Nat) (n kind:Int) (w:World) (h1:1<=m.regs) (h2:m.regs<=90) :
  χ 73 #[sK m P C K p c k,ι n,ι kind] w fun e w'=>e=.returned (.bool (dJ m.regs n kind))/\Bl w w':=by
 by_cases hk:kind=2
 ·subst hk
  go_enter func73,ntmps73
  go_wp2_with (go_at_call 20;refine (aI _ _ _ _).mono ?_;rintro e w' ⟨rfl,rfl⟩)
  go_ret
  exact ⟨ag (by unfold dJ;rw [if_pos rfl,Bool.eq_iff_iff];simp),(Bl.refl _).alloc _⟩
 ·have ME:(kind==2)=false:=by simpa using hk
  go_enter func73,ntmps73
  go_wp2_with (go_at_call 20;refine (aI _ _ _ _).mono ?_;rintro e w' ⟨rfl,rfl⟩)
  go_ret
  exact ⟨ag (by unfold dJ;rw [if_neg hk,Bool.eq_iff_iff];simp),(Bl.refl _).alloc _⟩
theorem yk (op:Int) (w:World) (h:op<1∨24<op) :
  χ 72 #[ι op] w fun e w'=>e=.returned (.tuple #[.slice none 0 0,.bool false])/\w'=w:=by
 have z1:(op==1)=false:=by simp;omega
 have z2:(op==2)=false:=by simp;omega
 have z3:(op==3)=false:=by simp;omega
 have z4:(op==4)=false:=by simp;omega
 have z5:(op==5)=false:=by simp;omega
 have z6:(op==6)=false:=by simp;omega
 have z7:(op==7)=false:=by simp;omega
 have z8:(op==8)=false:=by simp;omega
 have z9:(op==9)=false:=by simp;omega
 have Zh:(op==10)=false:=by simp;omega
 have WZ:(op==11)=false:=by simp;omega
 have z12:(op==12)=false:=by simp;omega
 have UB:(op==13)=false:=by simp;omega
 have Zk:(op==14)=false:=by simp;omega
 have Zl:(op==15)=false:=by simp;omega
 have Wu:(op==16)=false:=by simp;omega
 have W1:(op==17)=false:=by simp;omega
 have SS:(op==18)=false:=by simp;omega
 have Zm:(op==19)=false:=by simp;omega
 have z20:(op==20)=false:=by simp;omega
 have z21:(op==21)=false:=by simp;omega
 have z22:(op==22)=false:=by simp;omega
 have W5:(op==23)=false:=by simp;omega
 have z24:(op==24)=false:=by simp;omega
 go_enter func72,ntmps72
 go_wp2
 go_ret2
 exact ⟨rfl,rfl⟩
def eQ (w w':World) (e:Ending) (x y z:Int):Prop:=e=.returned (.tuple #[.slice (some ⟨w.heap.size,0,none⟩) 3 3,.bool true])/\w'=w.alloc (.cells #[ι x,ι y,ι z] 3)
section
variable (w:World)
theorem Iz:χ 72 #[ι 1] w fun e w'=>eQ w w' e (1) (0) (0):=by
 go_enter func72,ntmps72
 go_wp2
 go_ret2
 exact ⟨rfl,rfl⟩
theorem IA:χ 72 #[ι 2] w fun e w'=>eQ w w' e (2) (0) (0):=by
 go_enter func72,ntmps72
 go_wp2
 go_ret2
 exact ⟨rfl,rfl⟩
theorem IB:χ 72 #[ι 3] w fun e w'=>eQ w w' e (3) (0) (0):=by
 go_enter func72,ntmps72
 go_wp2
 go_ret2
 exact ⟨rfl,rfl⟩
theorem IE:χ 72 #[ι 4] w fun e w'=>eQ w w' e (-1) (-1) (-1):=by
 go_enter func72,ntmps72
 go_wp2
 go_ret2
 exact ⟨rfl,rfl⟩
theorem IG:χ 72 #[ι 5] w fun e w'=>eQ w w' e (1) (1) (1):=by
 go_enter func72,ntmps72
 go_wp2
 go_ret2
 exact ⟨rfl,rfl⟩
theorem II:χ 72 #[ι 6] w fun e w'=>eQ w w' e (2) (2) (2):=by
 go_enter func72,ntmps72
 go_wp2
 go_ret2
 exact ⟨rfl,rfl⟩
theorem IJ:χ 72 #[ι 7] w fun e w'=>eQ w w' e (2) (1) (0):=by
 go_enter func72,ntmps72
 go_wp2
 go_ret2
 exact ⟨rfl,rfl⟩
theorem IK:χ 72 #[ι 8] w fun e w'=>eQ w w' e (1) (2) (0):=by
 go_enter func72,ntmps72
 go_wp2
 go_ret2
 exact ⟨rfl,rfl⟩
theorem IL:χ 72 #[ι 9] w fun e w'=>eQ w w' e (1) (2) (2):=by
 go_enter func72,ntmps72
 go_wp2
 go_ret2
 exact ⟨rfl,rfl⟩
theorem Eh:χ 72 #[ι 10] w fun e w'=>eQ w w' e (-1) (0) (0):=by
 go_enter func72,ntmps72
 go_wp2
 go_ret2
 exact ⟨rfl,rfl⟩
theorem Ei:χ 72 #[ι 11] w fun e w'=>eQ w w' e (-1) (-1) (1):=by
 go_enter func72,ntmps72
 go_wp2
 go_ret2
 exact ⟨rfl,rfl⟩
theorem Ej:χ 72 #[ι 12] w fun e w'=>eQ w w' e (-1) (0) (3):=by
 go_enter func72,ntmps72
 go_wp2
 go_ret2
 exact ⟨rfl,rfl⟩
theorem Ek:χ 72 #[ι 13] w fun e w'=>eQ w w' e (3) (-1) (0):=by
 go_enter func72,ntmps72
 go_wp2
 go_ret2
 exact ⟨rfl,rfl⟩
theorem El:χ 72 #[ι 14] w fun e w'=>eQ w w' e (-1) (3) (-1):=by
 go_enter func72,ntmps72
 go_wp2
 go_ret2
 exact ⟨rfl,rfl⟩
theorem Em:χ 72 #[ι 15] w fun e w'=>eQ w w' e (-1) (3) (-1):=by
 go_enter func72,ntmps72
 go_wp2
 go_ret2
 exact ⟨rfl,rfl⟩
theorem En:χ 72 #[ι 16] w fun e w'=>eQ w w' e (3) (-1) (0):=by
 go_enter func72,ntmps72
 go_wp2
 go_ret2
 exact ⟨rfl,rfl⟩
theorem Eo:χ 72 #[ι 17] w fun e w'=>eQ w w' e (1) (3) (-1):=by
 go_enter func72,ntmps72
 go_wp2
 go_ret2
 exact ⟨rfl,rfl⟩
theorem Ep:χ 72 #[ι 18] w fun e w'=>eQ w w' e (-1) (0) (0):=by
 go_enter func72,ntmps72
 go_wp2
 go_ret2
 exact ⟨rfl,rfl⟩
theorem Er:χ 72 #[ι 19] w fun e w'=>eQ w w' e (-1) (-1) (0):=by
 go_enter func72,ntmps72
 go_wp2
 go_ret2
 exact ⟨rfl,rfl⟩
theorem Es:χ 72 #[ι 20] w fun e w'=>eQ w w' e (-1) (0) (0):=by
 go_enter func72,ntmps72
 go_wp2
 go_ret2
 exact ⟨rfl,rfl⟩
theorem Et:χ 72 #[ι 21] w fun e w'=>eQ w w' e (3) (0) (0):=by
 go_enter func72,ntmps72
 go_wp2
 go_ret2
 exact ⟨rfl,rfl⟩
theorem Ev:χ 72 #[ι 22] w fun e w'=>eQ w w' e (3) (0) (0):=by
 go_enter func72,ntmps72
 go_wp2
 go_ret2
 exact ⟨rfl,rfl⟩
theorem Ew:χ 72 #[ι 23] w fun e w'=>eQ w w' e (-1) (-1) (0):=by
 go_enter func72,ntmps72
 go_wp2
 go_ret2
 exact ⟨rfl,rfl⟩
theorem Ex:χ 72 #[ι 24] w fun e w'=>eQ w w' e (2) (0) (0):=by
 go_enter func72,ntmps72
 go_wp2
 go_ret2
 exact ⟨rfl,rfl⟩
end
theorem gZ (op:Int) (w:World) (x y z:Int) (h:aW op=some (x,y,z)):χ 72 #[ι op] w fun e w'=>eQ w w' e x y z:=by
 by_cases h1:op=1
 ·subst h1
  have hk:aW 1=some (1,0,0):=by decide
  rw [hk] at h
  injection h with h
  injection h with ha h
  injection h with hb hc
  subst ha hb hc
  exact Iz w
 by_cases h2:op=2
 ·subst h2
  have hk:aW 2=some (2,0,0):=by decide
  rw [hk] at h
  injection h with h
  injection h with ha h
  injection h with hb hc
  subst ha hb hc
  exact IA w
 by_cases h3:op=3
 ·subst h3
  have hk:aW 3=some (3,0,0):=by decide
  rw [hk] at h
  injection h with h
  injection h with ha h
  injection h with hb hc
  subst ha hb hc
  exact IB w
 by_cases h4:op=4
 ·subst h4
  have hk:aW 4=some (-1,-1,-1):=by decide
  rw [hk] at h
  injection h with h
  injection h with ha h
  injection h with hb hc
  subst ha hb hc
  exact IE w
 by_cases h5:op=5
 ·subst h5
  have hk:aW 5=some (1,1,1):=by decide
  rw [hk] at h
  injection h with h
  injection h with ha h
  injection h with hb hc
  subst ha hb hc
  exact IG w
 by_cases h6:op=6
 ·subst h6
  have hk:aW 6=some (2,2,2):=by decide
  rw [hk] at h
  injection h with h
  injection h with ha h
  injection h with hb hc
  subst ha hb hc
  exact II w
 by_cases h7:op=7
 ·subst h7
  have hk:aW 7=some (2,1,0):=by decide
  rw [hk] at h
  injection h with h
  injection h with ha h
  injection h with hb hc
  subst ha hb hc
  exact IJ w
 by_cases h8:op=8
 ·subst h8
  have hk:aW 8=some (1,2,0):=by decide
  rw [hk] at h
  injection h with h
  injection h with ha h
  injection h with hb hc
  subst ha hb hc
  exact IK w
 by_cases h9:op=9
 ·subst h9
  have hk:aW 9=some (1,2,2):=by decide
  rw [hk] at h
  injection h with h
  injection h with ha h
  injection h with hb hc
  subst ha hb hc
  exact IL w
 by_cases rZ:op=10
 ·subst rZ
  have hk:aW 10=some (-1,0,0):=by decide
  rw [hk] at h
  injection h with h
  injection h with ha h
  injection h with hb hc
  subst ha hb hc
  exact Eh w
 by_cases lP:op=11
 ·subst lP
  have hk:aW 11=some (-1,-1,1):=by decide
  rw [hk] at h
  injection h with h
  injection h with ha h
  injection h with hb hc
  subst ha hb hc
  exact Ei w
 by_cases jU:op=12
 ·subst jU
  have hk:aW 12=some (-1,0,3):=by decide
  rw [hk] at h
  injection h with h
  injection h with ha h
  injection h with hb hc
  subst ha hb hc
  exact Ej w
 by_cases qx:op=13
 ·subst qx
  have hk:aW 13=some (3,-1,0):=by decide
  rw [hk] at h
  injection h with h
  injection h with ha h
  injection h with hb hc
  subst ha hb hc
  exact Ek w
 by_cases SR:op=14
 ·subst SR
  have hk:aW 14=some (-1,3,-1):=by decide
  rw [hk] at h
  injection h with h
  injection h with ha h
  injection h with hb hc
  subst ha hb hc
  exact El w
 by_cases PY:op=15
 ·subst PY
  have hk:aW 15=some (-1,3,-1):=by decide
  rw [hk] at h
  injection h with h
  injection h with ha h
  injection h with hb hc
  subst ha hb hc
  exact Em w
 by_cases Nb:op=16
 ·subst Nb
  have hk:aW 16=some (3,-1,0):=by decide
  rw [hk] at h
  injection h with h
  injection h with ha h
  injection h with hb hc
  subst ha hb hc
  exact En w
 by_cases P0:op=17
 ·subst P0
  have hk:aW 17=some (1,3,-1):=by decide
  rw [hk] at h
  injection h with h
  injection h with ha h
  injection h with hb hc
  subst ha hb hc
  exact Eo w
 by_cases oA:op=18
 ·subst oA
  have hk:aW 18=some (-1,0,0):=by decide
  rw [hk] at h
  injection h with h
  injection h with ha h
  injection h with hb hc
  subst ha hb hc
  exact Ep w
 by_cases oW:op=19
 ·subst oW
  have hk:aW 19=some (-1,-1,0):=by decide
  rw [hk] at h
  injection h with h
  injection h with ha h
  injection h with hb hc
  subst ha hb hc
  exact Er w
 by_cases kV:op=20
 ·subst kV
  have hk:aW 20=some (-1,0,0):=by decide
  rw [hk] at h
  injection h with h
  injection h with ha h
  injection h with hb hc
  subst ha hb hc
  exact Es w
 by_cases PZ:op=21
 ·subst PZ
  have hk:aW 21=some (3,0,0):=by decide
  rw [hk] at h
  injection h with h
  injection h with ha h
  injection h with hb hc
  subst ha hb hc
  exact Et w
 by_cases GP:op=22
 ·subst GP
  have hk:aW 22=some (3,0,0):=by decide
  rw [hk] at h
  injection h with h
  injection h with ha h
  injection h with hb hc
  subst ha hb hc
  exact Ev w
 by_cases Nc:op=23
 ·subst Nc
  have hk:aW 23=some (-1,-1,0):=by decide
  rw [hk] at h
  injection h with h
  injection h with ha h
  injection h with hb hc
  subst ha hb hc
  exact Ew w
 by_cases O9:op=24
 ·subst O9
  have hk:aW 24=some (2,0,0):=by decide
  rw [hk] at h
  injection h with h
  injection h with ha h
  injection h with hb hc
  subst ha hb hc
  exact Ex w
 have hk:aW op=none:=by
  unfold aW
  rw [if_neg h1,if_neg h2,if_neg h3,if_neg h4,if_neg h5,if_neg h6,if_neg h7,if_neg h8,if_neg h9,if_neg rZ,if_neg lP,if_neg jU,if_neg qx,if_neg SR,if_neg PY,if_neg Nb,if_neg P0,if_neg oA,if_neg oW,if_neg kV,if_neg PZ,if_neg GP,if_neg Nc,if_neg O9]
 rw [hk] at h
 cases h
theorem AG {op:Int} (h:aW op=none):op<1∨24<op:=by
 refine Decidable.byContradiction fun hc=>?_
 have:op=1∨op=2∨op=3∨op=4∨op=5∨op=6∨op=7∨op=8∨op=9∨op=10∨op=11∨op=12∨op=13∨op=14∨op=15∨op=16∨op=17∨op=18∨op=19∨op=20∨op=21∨op=22∨op=23∨op=24:=by omega
 rcases this with rfl|rfl|rfl|rfl|rfl|rfl|rfl|rfl|rfl|rfl|rfl|rfl|rfl|rfl|rfl|rfl|rfl|rfl|rfl|rfl|rfl|rfl|rfl|rfl<;>exact absurd h (by decide)
def lX (w:World) (b:Nat) (x y z:Int):Prop:=w.cell? ⟨b,0,none⟩=some (ι x)/\w.cell? ⟨b,1,none⟩=some (ι y)/\w.cell? ⟨b,2,none⟩=some (ι z)
def three (x y z:Int) (k:Nat):Int:=if k=0 then x else if k=1 then y else z
section
variable {w:World}
theorem lX.at {x y:Int} (h:lX w b x y z) (k:Nat) (hk:k<3):w.cell? ⟨b,k,none⟩=some (ι (three x y z k)):=by
 have:k=0∨k=1∨k=2:=by omega
 rcases this with rfl|rfl|rfl
 ·exact h.1
 ·exact h.2.1
 ·exact h.2.2
theorem lX.bl (h:Bl w w') {x y:Int} (hb:lX w b x y z):lX w' b x y z:=⟨h.cell hb.1,h.cell hb.2.1,h.cell hb.2.2⟩
theorem sm.bl (h:Bl w w') {off:Nat} (hb:sm w b off i Q q):sm w' b off i Q q :=
 ⟨h.cell hb.1,h.cell hb.2.1,h.cell hb.2.2.1,h.cell hb.2.2.2.1,h.cell hb.2.2.2.2.1,h.cell hb.2.2.2.2.2⟩
theorem sm.lit (h:sm w b 0 i Q q) :
  w.cell? ⟨b,0,none⟩=some (ι i.op)/\w.cell? ⟨b,1,none⟩=some (ι i.a)/\w.cell? ⟨b,2,none⟩=some (ι i.b)/\w.cell? ⟨b,3,none⟩=some (ι i.c)/\w.cell? ⟨b,4,none⟩=some (ι i.n)/\w.cell? ⟨b,5,none⟩=some (.slice Q i.args.length q):=h
theorem jF.lit (h:jF w b 0 m P C K p c k) :
  w.cell? ⟨b,0,none⟩=some (.slice P m.params.length p)/\w.cell? ⟨b,1,none⟩=some (ι m.ret.kind)/\w.cell? ⟨b,2,none⟩=some (ι m.ret.cls)
  /\ w.cell? ⟨b,3,none⟩=some (ι m.stack)/\w.cell? ⟨b,4,none⟩=some (ι m.locs)/\w.cell? ⟨b,5,none⟩=some (ι m.regs)
  /\ w.cell? ⟨b,6,none⟩=some (.slice C m.code.length c)/\w.cell? ⟨b,7,none⟩=some (.slice K m.hands.length k):=h
theorem fK.lit (h:fK w b 0 nc nm A B x y):w.cell? ⟨b,0,none⟩=some (.slice A nc x)/\w.cell? ⟨b,1,none⟩=some (.slice B nm y):=h
end
structure mz (w:World) (s nc nm:Nat) (A B:Option Addr) (a b:Nat) (m:Me) (P C K:Option Addr) (p c k:Nat) (i:In) (Q:Option Addr) (q:Nat) (x y z:Int):Prop where
 rf:fK w s 0 nc nm A B a b
 rm:jF w (s+1) 0 m P C K p c k
 ri:sm w (s+1+1) 0 i Q q
 rk:lX w (s+1+1+1) x y z
 rd:lX w (s+1+1+1+1) i.a i.b i.c
theorem mz.bl (h:Bl w w') {s a:Nat} {x y:Int} (hb:mz w s nc nm A B a b m P C K p c k i Q q x y z):mz w' s nc nm A B a b m P C K p c k i Q q x y z :=
 ⟨hb.rf.bl h,hb.rm.bl h,hb.ri.bl h,hb.rk.bl h,hb.rd.bl h⟩
abbrev lY (w:World) (nc nm:Nat) (A B:Option Addr) (a b:Nat) (m:Me) (P C K:Option Addr) (p c k:Nat) (i:In) (Q:Option Addr) (q:Nat) (x y z:Int):World :=
 (((((w.alloc (.cells #[.slice A nc a,.slice B nm b] 25)).alloc (.cells #[.slice P m.params.length p,ι m.ret.kind,ι m.ret.cls,ι m.stack,ι m.locs,ι m.regs,.slice C m.code.length c,.slice K m.hands.length k] 49)).alloc
  (.cells #[ι i.op,ι i.a,ι i.b,ι i.c,ι i.n,.slice Q i.args.length q] 55)).alloc (.cells #[ι x,ι y,ι z] 3)).alloc (.cells #[ι i.a,ι i.b,ι i.c] 3))
theorem iu (w:World) (nc nm:Nat) (A B:Option Addr) (a b:Nat) (m:Me) (P C K:Option Addr) (p c k:Nat) (i:In) (Q:Option Addr) (q:Nat) (x y z:Int) :
  mz (lY w nc nm A B a b m P C K p c k i Q q x y z) w.heap.size nc nm A B a b m P C K p c k i Q q x y z:=by
 obtain ⟨w1,h1⟩:∃w1,w.alloc (.cells #[.slice A nc a,.slice B nm b] 25)=w1:=⟨_,rfl⟩
 obtain ⟨w2,h2⟩:∃w2,w1.alloc (.cells #[.slice P m.params.length p,ι m.ret.kind,ι m.ret.cls,ι m.stack,ι m.locs,ι m.regs,.slice C m.code.length c,.slice K m.hands.length k] 49)=w2:=⟨_,rfl⟩
 obtain ⟨w3,h3⟩:∃w3,w2.alloc (.cells #[ι i.op,ι i.a,ι i.b,ι i.c,ι i.n,.slice Q i.args.length q] 55)=w3:=⟨_,rfl⟩
 obtain ⟨w4,h4⟩:∃w4,w3.alloc (.cells #[ι x,ι y,ι z] 3)=w4:=⟨_,rfl⟩
 obtain ⟨w5,h5⟩:∃w5,w4.alloc (.cells #[ι i.a,ι i.b,ι i.c] 3)=w5:=⟨_,rfl⟩
 have s1:w1.heap.size=w.heap.size+1:=by rw [<-h1,World.size_alloc]
 have s2:w2.heap.size=w.heap.size+1+1:=by rw [<-h2,World.size_alloc,s1]
 have s3:w3.heap.size=w.heap.size+1+1+1:=by rw [<-h3,World.size_alloc,s2]
 have s4:w4.heap.size=w.heap.size+1+1+1+1:=by rw [<-h4,World.size_alloc,s3]
 have e:lY w nc nm A B a b m P C K p c k i Q q x y z=w5:=by rw [<-h5,<-h4,<-h3,<-h2,<-h1]
 rw [e]
 have Xc:Bl w4 w5:=by rw [<-h5];exact (Bl.refl _).alloc _
 have Xd:Bl w3 w5:=Bl.trans (by rw [<-h4];exact (Bl.refl _).alloc _) Xc
 have Xe:Bl w2 w5:=Bl.trans (by rw [<-h3];exact (Bl.refl _).alloc _) Xd
 have Ws:Bl w1 w5:=Bl.trans (by rw [<-h2];exact (Bl.refl _).alloc _) Xe
 refine ⟨fK.bl Ws ?_,jF.bl Xe ?_,sm.bl Xd ?_,lX.bl Xc ?_,?_⟩
 ·rw [<-h1];exact ⟨ai rfl,ai rfl⟩
 ·rw [<-h2,<-s1];exact ⟨ai rfl,ai rfl,ai rfl,ai rfl,ai rfl,ai rfl,ai rfl,ai rfl⟩
 ·rw [<-h3,<-s2];exact ⟨ai rfl,ai rfl,ai rfl,ai rfl,ai rfl,ai rfl⟩
 ·rw [<-h4,<-s3];exact ⟨ai rfl,ai rfl,ai rfl⟩
 ·rw [<-h5,<-s4];exact ⟨ai rfl,ai rfl,ai rfl⟩
section
variable {cs:List Cl} {ms:List Me} {nc:Nat} {regs ret:Int} {i:In} {x y z:Int}
theorem ja (h:aW i.op=some (x,y,z)) (hk:k<3) (hb:bp regs (three i.a i.b i.c k) (three x y z k)=false):bU cs ms nc regs ret i=false:=by
 unfold bU;rw [h]
 have:k=0∨k=1∨k=2:=by omega
 rcases this with rfl|rfl|rfl<;>simp [three] at hb<;>simp [hb]
theorem ky (h:aW i.op=some (x,y,z)) (hb:∀k,k<3->bp regs (three i.a i.b i.c k) (three x y z k)=true):bU cs ms nc regs ret i=aM cs ms nc regs ret i:=by
 unfold bU;rw [h]
 have h0:=hb 0 (by omega)
 have h1:=hb 1 (by omega)
 have h2:=hb 2 (by omega)
 simp [three] at h0 h1 h2
 simp [h0,h1,h2]
end
theorem LQ (x y z:Int) (i:In) (cs:List Cl) (ms:List Me) (A B:Option Addr) (a b:Nat) (m:Me) (P C K:Option Addr) (p c k:Nat) (Q:Option Addr) (q:Nat) (w:World) (mE:cs.length<=12) (wG:ms.length<=8) (eG:m.code.length<=maxLen) (hlo:1<=m.regs) (eY:m.regs<=90) (hA:bK w A cs) (hB:cz w B ms) (hQ:aU w Q i.args) (hk:aW i.op=some (x,y,z)) (Ey:i.op=1∨i.op=2∨i.op=3∨i.op=5∨i.op=6∨i.op=7) :
  χ 32 #[lr cs.length ms.length A B a b,sK m P C K p c k,inV i Q q] w fun e w'=>e=.returned (.bool (bU cs ms m.code.length m.regs m.ret.kind i))/\Bl w w':=by
 unfold maxLen at eG
 have rA:Θ (∀j,j<3->bp m.regs (three i.a i.b i.c j) (three x y z j)=false->bU cs ms m.code.length m.regs m.ret.kind i=false):=fun j hj=>ja hk hj
 have yl:Θ ((∀j,j<3->bp m.regs (three i.a i.b i.c j) (three x y z j)=true)->bU cs ms m.code.length m.regs m.ret.kind i=aM cs ms m.code.length m.regs m.ret.kind i):=ky hk
 have HA:Θ (bK w A cs):=hA
 have HB:Θ (cz w B ms):=hB
 have HQ:Θ (aU w Q i.args):=hQ
 have HR:Θ (mz (lY w cs.length ms.length A B a b m P C K p c k i Q q x y z) w.heap.size cs.length ms.length A B a b m P C K p c k i Q q x y z):=iu w cs.length ms.length A B a b m P C K p c k i Q q x y z
 have HK:Θ (aW i.op=some (x,y,z)):=hk
 clear hA hB hQ hk
 go_enter func32,ntmps32
 go_wp2_with (go_at_call 72;refine (gZ _ _ x y z HK.o).mono ?_;rintro e w' ⟨rfl,rfl⟩)
 go_loopw [10] (fun v wr=>∃j:Nat,j<=3/\v=ι j/\Θ (∀l,l<j->bp m.regs (three i.a i.b i.c l) (three x y z l)=true)/\Θ (Bl w wr)/\Θ (mz wr w.heap.size cs.length ms.length A B a b m P C K p c k i Q q x y z)) (fun v _=>3-(intOf v).toNat)
 case atStart=>exact ⟨0,by omega,rfl,fun l hl=>absurd hl (Nat.not_lt_zero _),((((((Bl.refl w).alloc _).alloc _).alloc _).alloc _).alloc _),HR⟩
 case round =>
  clear HR
  obtain ⟨j,hj,rfl,kZ,hg,HR⟩:=hrel
  by_cases ij:j<3
  ·have gk:=aj (HR.o.rk.at j ij)
   have gd:=aj (HR.o.rd.at j ij)
   have y0:=aj HR.o.rm.1
   have y1:=aj HR.o.rm.2.1
   have y2:=aj HR.o.rm.2.2.1
   have y3:=aj HR.o.rm.2.2.2.1
   have y4:=aj HR.o.rm.2.2.2.2.1
   have y5:=aj HR.o.rm.2.2.2.2.2.1
   have y6:=aj HR.o.rm.2.2.2.2.2.2.1
   have y7:=aj HR.o.rm.2.2.2.2.2.2.2
   have iA:Θ (bp m.regs (three i.a i.b i.c j) (three x y z j)=false->bU cs ms m.code.length m.regs m.ret.kind i=false):=rA.o j ij
   by_cases hz:three x y z j=0
   ·have jy:Θ (bp m.regs (three i.a i.b i.c j) (three x y z j)=decide (three i.a i.b i.c j=0)):=by unfold bp;rw [if_pos hz];rfl
    rw [hz] at gk
    have hreg:=hz
    clear hz
    by_cases hv:three i.a i.b i.c j=0
    ·have HY:Θ (bp m.regs (three i.a i.b i.c j) (three x y z j)=true):=jy.o.trans (decide_eq_true hv)
     rw [hv] at gd
     clear hv hreg
     have hreg:=ij
     go_wp2
     refine az (by kernel_rfl) (by kernel_rfl) fun hne=>?_
     repeat (go_big_quiet_step ((go_at_call 73;exact Calls.fut_eq _ (aX m _ _ _ _ _ _ _ _ _ hlo eY) (congrArg Value.bool hreg))))
     refine wpQuiet_nil ?_
     rintro _ ⟨⟨w2,bX⟩,rfl⟩
     go_wp2
     go_roundw
     case rel=>exact ⟨j+1,by omega,by go_num,fun l hl=>if h:l<j then kZ.o l h else by have:l=j:=(by omega);subst this;exact HY.o,hg.o.trans bX,HR.o.bl bX⟩
     case measure=>simp [intOf];omega
    ·have HN:Θ (bU cs ms m.code.length m.regs m.ret.kind i=false):=iA.o (jy.o.trans (decide_eq_false hv))
     have FK:(three i.a i.b i.c j !=0)=true:=by simpa using hv
     clear hv hreg
     have hreg:=ij
     go_wp2
     refine az (by kernel_rfl) (by kernel_rfl) fun hne=>?_
     repeat (go_big_quiet_step ((go_at_call 73;exact Calls.fut_eq _ (aX m _ _ _ _ _ _ _ _ _ hlo eY) (congrArg Value.bool hreg))))
     refine wpQuiet_nil ?_
     rintro _ ⟨⟨w2,bX⟩,rfl⟩
     go_wp2
     go_ret
     exact ⟨ag HN.o.symm,hg.o.trans bX⟩
   ·have JR:(three x y z j==0)=false:=by simpa using hz
    by_cases hp:0<three x y z j
    ·have qY:decide (0<three x y z j)=true:=decide_eq_true hp
     have jy:Θ (bp m.regs (three i.a i.b i.c j) (three x y z j)=dJ m.regs (three i.a i.b i.c j) (three x y z j)):=by unfold bp;rw [if_neg hz,if_pos hp];rfl
     cases hreg:dJ m.regs (three i.a i.b i.c j) (three x y z j)
     ·have HN:Θ (bU cs ms m.code.length m.regs m.ret.kind i=false):=iA.o (jy.o.trans hreg)
      go_wp2
      refine az (by kernel_rfl) (by kernel_rfl) fun hne=>?_
      repeat (go_big_quiet_step ((go_at_call 73;exact Calls.fut_eq _ (aX m _ _ _ _ _ _ _ _ _ hlo eY) (congrArg Value.bool hreg))))
      refine wpQuiet_nil ?_
      rintro _ ⟨⟨w2,bX⟩,rfl⟩
      go_wp2
      go_ret
      exact ⟨ag HN.o.symm,hg.o.trans bX⟩
     ·have HY:Θ (bp m.regs (three i.a i.b i.c j) (three x y z j)=true):=jy.o.trans hreg
      go_wp2
      refine az (by kernel_rfl) (by kernel_rfl) fun hne=>?_
      repeat (go_big_quiet_step ((go_at_call 73;exact Calls.fut_eq _ (aX m _ _ _ _ _ _ _ _ _ hlo eY) (congrArg Value.bool hreg))))
      refine wpQuiet_nil ?_
      rintro _ ⟨⟨w2,bX⟩,rfl⟩
      go_wp2
      go_roundw
      case rel=>exact ⟨j+1,by omega,by go_num,fun l hl=>if h:l<j then kZ.o l h else by have:l=j:=(by omega);subst this;exact HY.o,hg.o.trans bX,HR.o.bl bX⟩
      case measure=>simp [intOf];omega
    ·have qY:decide (0<three x y z j)=false:=decide_eq_false hp
     have HY:Θ (bp m.regs (three i.a i.b i.c j) (three x y z j)=true):=by unfold bp;rw [if_neg hz,if_neg hp];rfl
     have hreg:=hz
     go_wp2
     refine az (by kernel_rfl) (by kernel_rfl) fun hne=>?_
     repeat (go_big_quiet_step ((go_at_call 73;exact Calls.fut_eq _ (aX m _ _ _ _ _ _ _ _ _ hlo eY) (congrArg Value.bool hreg))))
     refine wpQuiet_nil ?_
     rintro _ ⟨⟨w2,bX⟩,rfl⟩
     go_wp2
     go_roundw
     case rel=>exact ⟨j+1,by omega,by go_num,fun l hl=>if h:l<j then kZ.o l h else by have:l=j:=(by omega);subst this;exact HY.o,hg.o.trans bX,HR.o.bl bX⟩
     case measure=>simp [intOf];omega
  ·obtain rfl:j=3:=by omega
   have ez:Θ (bU cs ms m.code.length m.regs m.ret.kind i=aM cs ms m.code.length m.regs m.ret.kind i):=yl.o kZ.o
   clear rA yl kZ hj ij
   obtain ⟨a0,a1,a2,a3,a4,a5⟩:=HR.o.ri.lit
   obtain ⟨m0,m1,m2,m3,m4,m5,m6,m7⟩:=HR.o.rm.lit
   obtain ⟨f0,f1⟩:=HR.o.rf.lit
   have G:Θ (Bl wr wr):=Bl.refl wr
   by_cases hop:i.op=1
   ·rw [hop] at a0
    have dC:Θ (i.op=1):=hop
    clear hop
    by_cases dx:i.args.length=0
    ·have cV:Θ (i.args.length=0):=dx
     by_cases b1:-2147483648<=i.n
     ·by_cases b2:i.n<=2147483647
      ·skip
       go_wp2
       go_ret
       refine ⟨ag ?_,hg.o.trans G.o⟩
       rw [ez.o,Bool.eq_iff_iff];simp [aM,dC.o,cV.o,b1,b2];(try omega);(try simp_all)
      ·have Xf:decide (i.n<=2147483647)=false:=decide_eq_false b2
       go_wp2
       go_ret
       refine ⟨ag ?_,hg.o.trans G.o⟩
       rw [ez.o,Bool.eq_iff_iff];simp [aM,dC.o,cV.o,b1,b2];(try omega);(try simp_all)
     ·have Xg:decide (-2147483648<=i.n)=false:=decide_eq_false b1
      go_wp2
      go_ret
      refine ⟨ag ?_,hg.o.trans G.o⟩
      rw [ez.o,Bool.eq_iff_iff];simp [aM,dC.o,cV.o,b1];(try omega);(try simp_all)
    ·have jz:0<i.args.length:=by omega
     have cV:Θ (¬i.args.length=0):=dx
     clear dx
     go_wp2
     go_ret
     refine ⟨ag ?_,hg.o.trans G.o⟩
     rw [ez.o,Bool.eq_iff_iff];simp [aM,dC.o,cV.o];(try omega);(try simp_all)
   by_cases hop:i.op=2
   ·rw [hop] at a0
    have dC:Θ (i.op=2):=hop
    clear hop
    by_cases dx:i.args.length=0
    ·have cV:Θ (i.args.length=0):=dx
     go_wp2
     go_ret
     refine ⟨ag ?_,hg.o.trans G.o⟩
     rw [ez.o,Bool.eq_iff_iff];simp [aM,dC.o,cV.o];(try omega);(try simp_all)
    ·have jz:0<i.args.length:=by omega
     have cV:Θ (¬i.args.length=0):=dx
     clear dx
     go_wp2
     go_ret
     refine ⟨ag ?_,hg.o.trans G.o⟩
     rw [ez.o,Bool.eq_iff_iff];simp [aM,dC.o,cV.o];(try omega);(try simp_all)
   by_cases hop:i.op=3
   ·rw [hop] at a0
    have dC:Θ (i.op=3):=hop
    clear hop
    by_cases dx:i.args.length=0
    ·have cV:Θ (i.args.length=0):=dx
     by_cases hn:i.n=0
     ·have iA:Θ (i.n=0):=hn
      rw [hn] at a4
      clear hn
      go_wp2
      go_ret
      refine ⟨ag ?_,hg.o.trans G.o⟩
      rw [ez.o,Bool.eq_iff_iff];simp [aM,dC.o,cV.o,iA.o];(try omega);(try simp_all)
     ·have ig:(i.n !=0)=true:=by simpa using hn
      go_wp2
      go_ret
      refine ⟨ag ?_,hg.o.trans G.o⟩
      rw [ez.o,Bool.eq_iff_iff];simp [aM,dC.o,cV.o,hn];(try omega);(try simp_all)
    ·have jz:0<i.args.length:=by omega
     have cV:Θ (¬i.args.length=0):=dx
     clear dx
     go_wp2
     go_ret
     refine ⟨ag ?_,hg.o.trans G.o⟩
     rw [ez.o,Bool.eq_iff_iff];simp [aM,dC.o,cV.o];(try omega);(try simp_all)
   by_cases hop:i.op=5
   ·rw [hop] at a0
    have dC:Θ (i.op=5):=hop
    clear hop
    by_cases dx:i.args.length=0
    ·have cV:Θ (i.args.length=0):=dx
     by_cases b1:1<=i.n
     ·by_cases b2:i.n<=8
      ·skip
       go_wp2
       go_ret
       refine ⟨ag ?_,hg.o.trans G.o⟩
       rw [ez.o,Bool.eq_iff_iff];simp [aM,dC.o,cV.o,b1,b2];(try omega);(try simp_all)
      ·have Xf:decide (i.n<=8)=false:=decide_eq_false b2
       go_wp2
       go_ret
       refine ⟨ag ?_,hg.o.trans G.o⟩
       rw [ez.o,Bool.eq_iff_iff];simp [aM,dC.o,cV.o,b1,b2];(try omega);(try simp_all)
     ·have Xg:decide (1<=i.n)=false:=decide_eq_false b1
      go_wp2
      go_ret
      refine ⟨ag ?_,hg.o.trans G.o⟩
      rw [ez.o,Bool.eq_iff_iff];simp [aM,dC.o,cV.o,b1];(try omega);(try simp_all)
    ·have jz:0<i.args.length:=by omega
     have cV:Θ (¬i.args.length=0):=dx
     clear dx
     go_wp2
     go_ret
     refine ⟨ag ?_,hg.o.trans G.o⟩
     rw [ez.o,Bool.eq_iff_iff];simp [aM,dC.o,cV.o];(try omega);(try simp_all)
   by_cases hop:i.op=6
   ·rw [hop] at a0
    have dC:Θ (i.op=6):=hop
    clear hop
    by_cases dx:i.args.length=0
    ·have cV:Θ (i.args.length=0):=dx
     by_cases b1:1<=i.n
     ·by_cases b2:i.n<=8
      ·skip
       go_wp2
       go_ret
       refine ⟨ag ?_,hg.o.trans G.o⟩
       rw [ez.o,Bool.eq_iff_iff];simp [aM,dC.o,cV.o,b1,b2];(try omega);(try simp_all)
      ·have Xf:decide (i.n<=8)=false:=decide_eq_false b2
       go_wp2
       go_ret
       refine ⟨ag ?_,hg.o.trans G.o⟩
       rw [ez.o,Bool.eq_iff_iff];simp [aM,dC.o,cV.o,b1,b2];(try omega);(try simp_all)
     ·have Xg:decide (1<=i.n)=false:=decide_eq_false b1
      go_wp2
      go_ret
      refine ⟨ag ?_,hg.o.trans G.o⟩
      rw [ez.o,Bool.eq_iff_iff];simp [aM,dC.o,cV.o,b1];(try omega);(try simp_all)
    ·have jz:0<i.args.length:=by omega
     have cV:Θ (¬i.args.length=0):=dx
     clear dx
     go_wp2
     go_ret
     refine ⟨ag ?_,hg.o.trans G.o⟩
     rw [ez.o,Bool.eq_iff_iff];simp [aM,dC.o,cV.o];(try omega);(try simp_all)
   by_cases hop:i.op=7
   ·rw [hop] at a0
    have dC:Θ (i.op=7):=hop
    clear hop
    by_cases dx:i.args.length=0
    ·have cV:Θ (i.args.length=0):=dx
     by_cases hn:i.n=0
     ·have iA:Θ (i.n=0):=hn
      rw [hn] at a4
      clear hn
      go_wp2
      go_ret
      refine ⟨ag ?_,hg.o.trans G.o⟩
      rw [ez.o,Bool.eq_iff_iff];simp [aM,dC.o,cV.o,iA.o];(try omega);(try simp_all)
     ·have ig:(i.n !=0)=true:=by simpa using hn
      go_wp2
      go_ret
      refine ⟨ag ?_,hg.o.trans G.o⟩
      rw [ez.o,Bool.eq_iff_iff];simp [aM,dC.o,cV.o,hn];(try omega);(try simp_all)
    ·have jz:0<i.args.length:=by omega
     have cV:Θ (¬i.args.length=0):=dx
     clear dx
     go_wp2
     go_ret
     refine ⟨ag ?_,hg.o.trans G.o⟩
     rw [ez.o,Bool.eq_iff_iff];simp [aM,dC.o,cV.o];(try omega);(try simp_all)
   omega
theorem LR (x y z:Int) (i:In) (cs:List Cl) (ms:List Me) (A B:Option Addr) (a b:Nat) (m:Me) (P C K:Option Addr) (p c k:Nat) (Q:Option Addr) (q:Nat) (w:World) (mE:cs.length<=12) (wG:ms.length<=8) (eG:m.code.length<=maxLen) (hlo:1<=m.regs) (eY:m.regs<=90) (hA:bK w A cs) (hB:cz w B ms) (hQ:aU w Q i.args) (hk:aW i.op=some (x,y,z)) (Ey:i.op=8∨i.op=9∨i.op=21∨i.op=22∨i.op=24∨i.op=10∨i.op=12) :
  χ 32 #[lr cs.length ms.length A B a b,sK m P C K p c k,inV i Q q] w fun e w'=>e=.returned (.bool (bU cs ms m.code.length m.regs m.ret.kind i))/\Bl w w':=by
 unfold maxLen at eG
 have rA:Θ (∀j,j<3->bp m.regs (three i.a i.b i.c j) (three x y z j)=false->bU cs ms m.code.length m.regs m.ret.kind i=false):=fun j hj=>ja hk hj
 have yl:Θ ((∀j,j<3->bp m.regs (three i.a i.b i.c j) (three x y z j)=true)->bU cs ms m.code.length m.regs m.ret.kind i=aM cs ms m.code.length m.regs m.ret.kind i):=ky hk
 have HA:Θ (bK w A cs):=hA
 have HB:Θ (cz w B ms):=hB
 have HQ:Θ (aU w Q i.args):=hQ
 have HR:Θ (mz (lY w cs.length ms.length A B a b m P C K p c k i Q q x y z) w.heap.size cs.length ms.length A B a b m P C K p c k i Q q x y z):=iu w cs.length ms.length A B a b m P C K p c k i Q q x y z
 have HK:Θ (aW i.op=some (x,y,z)):=hk
 clear hA hB hQ hk
 go_enter func32,ntmps32
 go_wp2_with (go_at_call 72;refine (gZ _ _ x y z HK.o).mono ?_;rintro e w' ⟨rfl,rfl⟩)
 go_loopw [10] (fun v wr=>∃j:Nat,j<=3/\v=ι j/\Θ (∀l,l<j->bp m.regs (three i.a i.b i.c l) (three x y z l)=true)/\Θ (Bl w wr)/\Θ (mz wr w.heap.size cs.length ms.length A B a b m P C K p c k i Q q x y z)) (fun v _=>3-(intOf v).toNat)
 case atStart=>exact ⟨0,by omega,rfl,fun l hl=>absurd hl (Nat.not_lt_zero _),((((((Bl.refl w).alloc _).alloc _).alloc _).alloc _).alloc _),HR⟩
 case round =>
  clear HR
  obtain ⟨j,hj,rfl,kZ,hg,HR⟩:=hrel
  by_cases ij:j<3
  ·have gk:=aj (HR.o.rk.at j ij)
   have gd:=aj (HR.o.rd.at j ij)
   have y0:=aj HR.o.rm.1
   have y1:=aj HR.o.rm.2.1
   have y2:=aj HR.o.rm.2.2.1
   have y3:=aj HR.o.rm.2.2.2.1
   have y4:=aj HR.o.rm.2.2.2.2.1
   have y5:=aj HR.o.rm.2.2.2.2.2.1
   have y6:=aj HR.o.rm.2.2.2.2.2.2.1
   have y7:=aj HR.o.rm.2.2.2.2.2.2.2
   have iA:Θ (bp m.regs (three i.a i.b i.c j) (three x y z j)=false->bU cs ms m.code.length m.regs m.ret.kind i=false):=rA.o j ij
   by_cases hz:three x y z j=0
   ·have jy:Θ (bp m.regs (three i.a i.b i.c j) (three x y z j)=decide (three i.a i.b i.c j=0)):=by unfold bp;rw [if_pos hz];rfl
    rw [hz] at gk
    have hreg:=hz
    clear hz
    by_cases hv:three i.a i.b i.c j=0
    ·have HY:Θ (bp m.regs (three i.a i.b i.c j) (three x y z j)=true):=jy.o.trans (decide_eq_true hv)
     rw [hv] at gd
     clear hv hreg
     have hreg:=ij
     go_wp2
     refine az (by kernel_rfl) (by kernel_rfl) fun hne=>?_
     repeat (go_big_quiet_step ((go_at_call 73;exact Calls.fut_eq _ (aX m _ _ _ _ _ _ _ _ _ hlo eY) (congrArg Value.bool hreg))))
     refine wpQuiet_nil ?_
     rintro _ ⟨⟨w2,bX⟩,rfl⟩
     go_wp2
     go_roundw
     case rel=>exact ⟨j+1,by omega,by go_num,fun l hl=>if h:l<j then kZ.o l h else by have:l=j:=(by omega);subst this;exact HY.o,hg.o.trans bX,HR.o.bl bX⟩
     case measure=>simp [intOf];omega
    ·have HN:Θ (bU cs ms m.code.length m.regs m.ret.kind i=false):=iA.o (jy.o.trans (decide_eq_false hv))
     have FK:(three i.a i.b i.c j !=0)=true:=by simpa using hv
     clear hv hreg
     have hreg:=ij
     go_wp2
     refine az (by kernel_rfl) (by kernel_rfl) fun hne=>?_
     repeat (go_big_quiet_step ((go_at_call 73;exact Calls.fut_eq _ (aX m _ _ _ _ _ _ _ _ _ hlo eY) (congrArg Value.bool hreg))))
     refine wpQuiet_nil ?_
     rintro _ ⟨⟨w2,bX⟩,rfl⟩
     go_wp2
     go_ret
     exact ⟨ag HN.o.symm,hg.o.trans bX⟩
   ·have JR:(three x y z j==0)=false:=by simpa using hz
    by_cases hp:0<three x y z j
    ·have qY:decide (0<three x y z j)=true:=decide_eq_true hp
     have jy:Θ (bp m.regs (three i.a i.b i.c j) (three x y z j)=dJ m.regs (three i.a i.b i.c j) (three x y z j)):=by unfold bp;rw [if_neg hz,if_pos hp];rfl
     cases hreg:dJ m.regs (three i.a i.b i.c j) (three x y z j)
     ·have HN:Θ (bU cs ms m.code.length m.regs m.ret.kind i=false):=iA.o (jy.o.trans hreg)
      go_wp2
      refine az (by kernel_rfl) (by kernel_rfl) fun hne=>?_
      repeat (go_big_quiet_step ((go_at_call 73;exact Calls.fut_eq _ (aX m _ _ _ _ _ _ _ _ _ hlo eY) (congrArg Value.bool hreg))))
      refine wpQuiet_nil ?_
      rintro _ ⟨⟨w2,bX⟩,rfl⟩
      go_wp2
      go_ret
      exact ⟨ag HN.o.symm,hg.o.trans bX⟩
     ·have HY:Θ (bp m.regs (three i.a i.b i.c j) (three x y z j)=true):=jy.o.trans hreg
      go_wp2
      refine az (by kernel_rfl) (by kernel_rfl) fun hne=>?_
      repeat (go_big_quiet_step ((go_at_call 73;exact Calls.fut_eq _ (aX m _ _ _ _ _ _ _ _ _ hlo eY) (congrArg Value.bool hreg))))
      refine wpQuiet_nil ?_
      rintro _ ⟨⟨w2,bX⟩,rfl⟩
      go_wp2
      go_roundw
      case rel=>exact ⟨j+1,by omega,by go_num,fun l hl=>if h:l<j then kZ.o l h else by have:l=j:=(by omega);subst this;exact HY.o,hg.o.trans bX,HR.o.bl bX⟩
      case measure=>simp [intOf];omega
    ·have qY:decide (0<three x y z j)=false:=decide_eq_false hp
     have HY:Θ (bp m.regs (three i.a i.b i.c j) (three x y z j)=true):=by unfold bp;rw [if_neg hz,if_neg hp];rfl
     have hreg:=hz
     go_wp2
     refine az (by kernel_rfl) (by kernel_rfl) fun hne=>?_
     repeat (go_big_quiet_step ((go_at_call 73;exact Calls.fut_eq _ (aX m _ _ _ _ _ _ _ _ _ hlo eY) (congrArg Value.bool hreg))))
     refine wpQuiet_nil ?_
     rintro _ ⟨⟨w2,bX⟩,rfl⟩
     go_wp2
     go_roundw
     case rel=>exact ⟨j+1,by omega,by go_num,fun l hl=>if h:l<j then kZ.o l h else by have:l=j:=(by omega);subst this;exact HY.o,hg.o.trans bX,HR.o.bl bX⟩
     case measure=>simp [intOf];omega
  ·obtain rfl:j=3:=by omega
   have ez:Θ (bU cs ms m.code.length m.regs m.ret.kind i=aM cs ms m.code.length m.regs m.ret.kind i):=yl.o kZ.o
   clear rA yl kZ hj ij
   obtain ⟨a0,a1,a2,a3,a4,a5⟩:=HR.o.ri.lit
   obtain ⟨m0,m1,m2,m3,m4,m5,m6,m7⟩:=HR.o.rm.lit
   obtain ⟨f0,f1⟩:=HR.o.rf.lit
   have G:Θ (Bl wr wr):=Bl.refl wr
   by_cases hop:i.op=8
   ·rw [hop] at a0
    have dC:Θ (i.op=8):=hop
    clear hop
    by_cases dx:i.args.length=0
    ·have cV:Θ (i.args.length=0):=dx
     by_cases hn:i.n=0
     ·have iA:Θ (i.n=0):=hn
      rw [hn] at a4
      clear hn
      go_wp2
      go_ret
      refine ⟨ag ?_,hg.o.trans G.o⟩
      rw [ez.o,Bool.eq_iff_iff];simp [aM,dC.o,cV.o,iA.o];(try omega);(try simp_all)
     ·have ig:(i.n !=0)=true:=by simpa using hn
      go_wp2
      go_ret
      refine ⟨ag ?_,hg.o.trans G.o⟩
      rw [ez.o,Bool.eq_iff_iff];simp [aM,dC.o,cV.o,hn];(try omega);(try simp_all)
    ·have jz:0<i.args.length:=by omega
     have cV:Θ (¬i.args.length=0):=dx
     clear dx
     go_wp2
     go_ret
     refine ⟨ag ?_,hg.o.trans G.o⟩
     rw [ez.o,Bool.eq_iff_iff];simp [aM,dC.o,cV.o];(try omega);(try simp_all)
   by_cases hop:i.op=9
   ·rw [hop] at a0
    have dC:Θ (i.op=9):=hop
    clear hop
    by_cases dx:i.args.length=0
    ·have cV:Θ (i.args.length=0):=dx
     by_cases hn:i.n=0
     ·have iA:Θ (i.n=0):=hn
      rw [hn] at a4
      clear hn
      go_wp2
      go_ret
      refine ⟨ag ?_,hg.o.trans G.o⟩
      rw [ez.o,Bool.eq_iff_iff];simp [aM,dC.o,cV.o,iA.o];(try omega);(try simp_all)
     ·have ig:(i.n !=0)=true:=by simpa using hn
      go_wp2
      go_ret
      refine ⟨ag ?_,hg.o.trans G.o⟩
      rw [ez.o,Bool.eq_iff_iff];simp [aM,dC.o,cV.o,hn];(try omega);(try simp_all)
    ·have jz:0<i.args.length:=by omega
     have cV:Θ (¬i.args.length=0):=dx
     clear dx
     go_wp2
     go_ret
     refine ⟨ag ?_,hg.o.trans G.o⟩
     rw [ez.o,Bool.eq_iff_iff];simp [aM,dC.o,cV.o];(try omega);(try simp_all)
   by_cases hop:i.op=21
   ·rw [hop] at a0
    have dC:Θ (i.op=21):=hop
    clear hop
    by_cases dx:i.args.length=0
    ·have cV:Θ (i.args.length=0):=dx
     by_cases hn:i.n=0
     ·have iA:Θ (i.n=0):=hn
      rw [hn] at a4
      clear hn
      go_wp2
      go_ret
      refine ⟨ag ?_,hg.o.trans G.o⟩
      rw [ez.o,Bool.eq_iff_iff];simp [aM,dC.o,cV.o,iA.o];(try omega);(try simp_all)
     ·have ig:(i.n !=0)=true:=by simpa using hn
      go_wp2
      go_ret
      refine ⟨ag ?_,hg.o.trans G.o⟩
      rw [ez.o,Bool.eq_iff_iff];simp [aM,dC.o,cV.o,hn];(try omega);(try simp_all)
    ·have jz:0<i.args.length:=by omega
     have cV:Θ (¬i.args.length=0):=dx
     clear dx
     go_wp2
     go_ret
     refine ⟨ag ?_,hg.o.trans G.o⟩
     rw [ez.o,Bool.eq_iff_iff];simp [aM,dC.o,cV.o];(try omega);(try simp_all)
   by_cases hop:i.op=22
   ·rw [hop] at a0
    have dC:Θ (i.op=22):=hop
    clear hop
    by_cases dx:i.args.length=0
    ·have cV:Θ (i.args.length=0):=dx
     by_cases hn:i.n=0
     ·have iA:Θ (i.n=0):=hn
      rw [hn] at a4
      clear hn
      go_wp2
      go_ret
      refine ⟨ag ?_,hg.o.trans G.o⟩
      rw [ez.o,Bool.eq_iff_iff];simp [aM,dC.o,cV.o,iA.o];(try omega);(try simp_all)
     ·have ig:(i.n !=0)=true:=by simpa using hn
      go_wp2
      go_ret
      refine ⟨ag ?_,hg.o.trans G.o⟩
      rw [ez.o,Bool.eq_iff_iff];simp [aM,dC.o,cV.o,hn];(try omega);(try simp_all)
    ·have jz:0<i.args.length:=by omega
     have cV:Θ (¬i.args.length=0):=dx
     clear dx
     go_wp2
     go_ret
     refine ⟨ag ?_,hg.o.trans G.o⟩
     rw [ez.o,Bool.eq_iff_iff];simp [aM,dC.o,cV.o];(try omega);(try simp_all)
   by_cases hop:i.op=24
   ·rw [hop] at a0
    have dC:Θ (i.op=24):=hop
    clear hop
    by_cases dx:i.args.length=0
    ·have cV:Θ (i.args.length=0):=dx
     by_cases hn:i.n=0
     ·have iA:Θ (i.n=0):=hn
      rw [hn] at a4
      clear hn
      go_wp2
      go_ret
      refine ⟨ag ?_,hg.o.trans G.o⟩
      rw [ez.o,Bool.eq_iff_iff];simp [aM,dC.o,cV.o,iA.o];(try omega);(try simp_all)
     ·have ig:(i.n !=0)=true:=by simpa using hn
      go_wp2
      go_ret
      refine ⟨ag ?_,hg.o.trans G.o⟩
      rw [ez.o,Bool.eq_iff_iff];simp [aM,dC.o,cV.o,hn];(try omega);(try simp_all)
    ·have jz:0<i.args.length:=by omega
     have cV:Θ (¬i.args.length=0):=dx
     clear dx
     go_wp2
     go_ret
     refine ⟨ag ?_,hg.o.trans G.o⟩
     rw [ez.o,Bool.eq_iff_iff];simp [aM,dC.o,cV.o];(try omega);(try simp_all)
   by_cases hop:i.op=10
   ·rw [hop] at a0
    have dC:Θ (i.op=10):=hop
    clear hop
    by_cases dx:i.args.length=0
    ·have cV:Θ (i.args.length=0):=dx
     by_cases hn:i.n=0
     ·have iA:Θ (i.n=0):=hn
      rw [hn] at a4
      clear hn
      go_wp2_with (first
       | (go_at_call 20;refine (aI _ _ _ _).mono ?_;rintro e w2 ⟨rfl,od⟩;rw [od];clear od w2)
       | (go_at_call 73;refine (aX m _ _ _ _ _ _ _ _ _ hlo eY).mono ?_;rintro e w2 ⟨rfl,eF⟩;replace G:Θ (Bl wr w2):=G.o.trans eF;obtain ⟨a0,a1,a2,a3,a4,a5⟩:=(HR.o.bl G.o).ri.lit;obtain ⟨m0,m1,m2,m3,m4,m5,m6,m7⟩:=(HR.o.bl G.o).rm.lit))
      all_goals
       go_ret
       refine ⟨ag ?_,hg.o.trans G.o⟩
       rw [ez.o,Bool.eq_iff_iff];simp [aM,dC.o,cV.o,iA.o];(try omega);(try simp_all)
     ·have ig:(i.n !=0)=true:=by simpa using hn
      go_wp2
      go_ret
      refine ⟨ag ?_,hg.o.trans G.o⟩
      rw [ez.o,Bool.eq_iff_iff];simp [aM,dC.o,cV.o,hn];(try omega);(try simp_all)
    ·have jz:0<i.args.length:=by omega
     have cV:Θ (¬i.args.length=0):=dx
     clear dx
     go_wp2
     go_ret
     refine ⟨ag ?_,hg.o.trans G.o⟩
     rw [ez.o,Bool.eq_iff_iff];simp [aM,dC.o,cV.o];(try omega);(try simp_all)
   by_cases hop:i.op=12
   ·rw [hop] at a0
    have dC:Θ (i.op=12):=hop
    clear hop
    by_cases dx:i.args.length=0
    ·have cV:Θ (i.args.length=0):=dx
     by_cases hn:i.n=0
     ·have iA:Θ (i.n=0):=hn
      rw [hn] at a4
      clear hn
      go_wp2_with (first
       | (go_at_call 20;refine (aI _ _ _ _).mono ?_;rintro e w2 ⟨rfl,od⟩;rw [od];clear od w2)
       | (go_at_call 73;refine (aX m _ _ _ _ _ _ _ _ _ hlo eY).mono ?_;rintro e w2 ⟨rfl,eF⟩;replace G:Θ (Bl wr w2):=G.o.trans eF;obtain ⟨a0,a1,a2,a3,a4,a5⟩:=(HR.o.bl G.o).ri.lit;obtain ⟨m0,m1,m2,m3,m4,m5,m6,m7⟩:=(HR.o.bl G.o).rm.lit))
      all_goals
       go_ret
       refine ⟨ag ?_,hg.o.trans G.o⟩
       rw [ez.o,Bool.eq_iff_iff];simp [aM,dC.o,cV.o,iA.o];(try omega);(try simp_all)
     ·have ig:(i.n !=0)=true:=by simpa using hn
      go_wp2
      go_ret
      refine ⟨ag ?_,hg.o.trans G.o⟩
      rw [ez.o,Bool.eq_iff_iff];simp [aM,dC.o,cV.o,hn];(try omega);(try simp_all)
    ·have jz:0<i.args.length:=by omega
     have cV:Θ (¬i.args.length=0):=dx
     clear dx
     go_wp2
     go_ret
     refine ⟨ag ?_,hg.o.trans G.o⟩
     rw [ez.o,Bool.eq_iff_iff];simp [aM,dC.o,cV.o];(try omega);(try simp_all)
   omega
end Go.Proofs.YtgiiapenmjollaaGreat
