import Derived.Test.YtgiiapenmjollaaGreatSran
namespace Go.Proofs.YtgiiapenmjollaaGreat
set_option linter.all false
set_option maxHeartbeats 40000000
set_option maxRecDepth 100000
open Go.RowKit
open Go.Value (int)
open Go.IntKind (i64)
variable {g:Ad} {h:Hp} {l:List Va} {b k p:Nat} {w w0:World}
theorem sJ:∀(l:List Va) (l0:List Va) (fG:Nat) (v:Va),dT l0 fG (l++[v])=eZ (dT l0 fG l) (fG+aQ l) v
 | [],l0,fG,v=>by simp [dT,aQ]
 | x::l,l0,fG,v=>by
  show dT (eZ l0 fG x) (fG+aQ [x]) (l++[v])=eZ (dT (eZ l0 fG x) (fG+aQ [x]) l) (fG+aQ (x::l)) v
  rw [sJ l]
  have:fG+aQ [x]+aQ l=fG+aQ (x::l):=by simp [aQ];omega
  rw [this]
theorem qO (h:k<l.length):l.take (k+1)=l.take k++[nth ag l k]:=by
 rw [List.take_succ_eq_append_getElem h,bU h]
theorem Cm {m:Me} (wU:fw h.file.classes h.file.methods.length m=true) (hl:l.length=m.params.length) (hg:∀v∈l,iO h v) (he:h.enterL l m.params=true) (k:Nat) (hk:k<=l.length) :
  gY (dT (List.replicate m.locs.toNat ag) 0 (l.take k))/\(dT (List.replicate m.locs.toNat ag) 0 (l.take k)).length=m.locs.toNat/\(aQ (l.take k):Int)<=m.locs /\
  (k<l.length->(aQ (l.take k):Int)<m.locs/\((nth ag l k).kind=2->(aQ (l.take k):Int)+1<m.locs)):=by
 obtain ⟨p1,p2,p3,p4,p5,p6,p7,p8,p9,Ih,KJ⟩:=jh wU
 obtain ⟨s1,s2⟩:=hJ h h.file.classes.length l m.params hl he p9
 have hle:=jK l k
 obtain ⟨k1,k2,k3⟩:=oc h (l.take k) (List.replicate m.locs.toNat ag) 0 (DY _) (fun x hx=>by rw [List.eq_of_mem_replicate hx];exact lj h) (fun x hx=>hg x (List.mem_of_mem_take hx)) (fun x hx=>s2 x (List.mem_of_mem_take hx)) (by rw [List.length_replicate];omega)
 refine ⟨k1,by rw [k3,List.length_replicate],by omega,fun hlt=>?_⟩
 have h1:=jK l (k+1)
 rw [qO hlt,jJ,kH] at h1
 split at h1
 ·omega
 ·exact ⟨by omega,fun e=>by contradiction⟩
theorem eM.hs {w':World} (H:Hs w0 g w p h) (o:eM b w w') (k:Tk g.T) (L:cy w b l) (hb:w0.heap.size<=b):Hs w0 g w' p h:=H.cf (o.cf k L hb H.base)
theorem bG.only {lb:Nat} {w':World} {A:Option Addr} (h:bG lb w A l) (o:eM b w w') (N:Nat) (hN:N<=b) (he:∀x y cs f,A=some ⟨x,y,none⟩->w.heap[x]?=some (.cells cs 62 f)->0<l.length->x<N):bG lb w' A l:=by
 rcases h with h|⟨x,y,cs,f,h1,h2,h3,h4⟩
 ·exact Or.inl h
 ·by_cases h0:l.length=0
  ·exact Or.inl h0
  ·have:=he x y cs f h1 h2 (by omega)
   exact Or.inr ⟨x,y,cs,f,h1,(o.block x (af h2) (by omega)).trans h2,h3,h4⟩
theorem Fk (b:Nat) (l:List Va) (a c n:Nat) (v:Va) (w:World) (hL:cy w b l) (hok:gY l) (hn:n=l.length) (ha:a<n) (h2:v.kind=2->a+1<n) :
  Calls Tryz.prog 52 #[.slice (some ⟨b,0,none⟩) n c,int i64 (a:Int),iE v] w fun e w'=>e=.returned (.tuple #[])/\cy w' b (eZ l a v)/\eM b w w':=by
 subst hn
 exact sD b l a c v w hL hok ha h2
theorem Jt {off:Nat} {v:Va} (h0:w.cell? ⟨b,off,none⟩=some (int i64 v.kind)) (h1:w.cell? ⟨b,off+1,none⟩=some (int i64 v.n)):wS w (some ⟨b,off,none⟩) [v] :=
 ⟨by unfold maxLen;simp,Or.inr ⟨b,off,rfl,fun i hi=>by
  have:i=0:=by simp at hi;exact hi
  subst this
  rw [Nat.zero_mul,Nat.add_zero]
  exact ⟨h0,h1⟩⟩⟩
structure L2 (w0:World) (g:Ad) (p:Nat) (ca:Ca) (m:Me) (WA:World) (h0:Hp) (N:Nat) (LP:Hp×Va) (k:Nat) (h1:Hp) (c1:aH) (wr:World):Prop where
 hs:Hs w0 g wr p h1
 cs:Cs w0 wr ca c1
 fq:Fq w0.heap.size g.T ca WA wr
 gh:Gh 0 h1
 calls:1<=h1.calls
 inv:Inv h1 c1
 me:c1.m=m
 file:h1.file=h0.file
 inp:h1.input=h0.input
 fuel:h1.fuel=h0.fuel
 left:(h1.fuel-h1.sh.steps).toNat<=k
 le:k<=N
 is:bF k h1 c1=LP
def oz (p:Nat) (fuel:Int) (w:World):Nat:=match w.cell? ⟨p,11,none⟩ with
 | some v=>(fuel-intOf v).toNat
 | none=>0
theorem tM (H:Hs w0 g w p h) (fuel:Int):oz p fuel w=(fuel-h.sh.steps).toNat:=by
 obtain ⟨vo,vx,hv,X⟩:=H
 unfold oz
 rw [X.cells.c11]
 rfl
theorem Fl {c:aH} (hb:h.stepB=false):bF k h c=(h.step.leave,ag):=by
 cases k with
 | zero=>rfl
 | succ k=>unfold bF;rw [if_pos hb]
theorem cD.leave {vo vx:Value} {hv:List Value} (H:cD w0 g w p h vo vx hv) (k:Tk g.T):cD w0 g (w.setCell ⟨p,4,none⟩ (int i64 (h.calls-1))) p h.leave vo vx hv:=H.set k _ rfl rfl rfl
theorem aP.far {i:Nat} {v:Va} {u:Value} (h:aP w b v) (hb:b≠p):aP (w.setCell ⟨p,i,none⟩ u) b v:=⟨by rw [aA hb];exact h.blk⟩
theorem Jv (w0:World) (g:Ad) (p:Nat) (h:Hp) (m:Me) (P CC K:Option Addr) (pp cc kk:Nat) (A:Option Addr) (ac lb:Nat) (l:List Va) (w:World) (hH:Hs w0 g w p h) (E:Env w0 g h) (ho:h.over=false) (gh:Gh 0 h) (hme:kZ w0 m P CC K) (wU:fw h.file.classes h.file.methods.length m=true) (hok:∀i∈m.code,i.ok) (hl:l.length=m.params.length) (hg:∀v∈l,iO h v) (hA:bG lb w A l) (Qk:l.length<=ac) (hb:h.enterB m l=true) (iX:h.thrown=-1) (N:Nat) (hN:(h.fuel-h.sh.steps).toNat<=N) (IH:∀k,k<N->sI w0 g p k) :
  Calls Tryz.prog 26 #[.pointer (some ⟨p,0,none⟩),iW m P CC K pp cc kk,.slice A l.length ac] w fun e w'=>e=.returned (iE (bF N (h.enterH m l) (bS m l)).2)/\Hs w0 g w' p (bF N (h.enterH m l) (bS m l)).1/\Fr w0.heap.size g.T w w':=by
 have cI:=hH.base
 have hbl:Bl w ((w.alloc (dH m P CC K pp cc kk)).alloc iy):=((Bl.refl w).alloc _).alloc _
 have HF:Hid (Fr w0.heap.size g.T w ((w.alloc (dH m P CC K pp cc kk)).alloc iy)):=Fr.old cI hbl
 have HH:Hid (Hs w0 g ((w.alloc (dH m P CC K pp cc kk)).alloc iy) p h):=hH.old hbl
 have HM:Hid (ep ((w.alloc (dH m P CC K pp cc kk)).alloc iy) w.heap.size m P CC K pp cc kk):=⟨iG (by simp) (cd rfl)⟩
 have HR:Hid (aP ((w.alloc (dH m P CC K pp cc kk)).alloc iy) (w.heap.size+1) ag):=⟨cd (by simp)⟩
 have HA:Hid (bG lb ((w.alloc (dH m P CC K pp cc kk)).alloc iy) A l):=hA.keep fun b cs f e _=>(hbl.block _ (af e)).trans e
 have HK:Hid (Tk g.T):=E.cw.k
 have HC:Hid (Cw w0 g h):=E.cw
 have HP:Hid (dp w0 P m.params):=hme.1
 have HL:Hid (l.length=m.params.length):=hl
 have HG:Hid (∀v∈l,v.kind=3->v.n<h.objs.length):=fun v hv e=>((hg v hv).ref e).2
 have HB:Hid (h.enterB m l=true):=hb
 have hcl:=gh.calls
 have bN:w0.heap.size<=w.heap.size+1:=by omega
 have bV:w.heap.size<=w.heap.size+1:=by omega
 obtain ⟨q1,q2,q3,q4,q5,q6,q7,q8,q9,Wb,Wc⟩:=jh wU
 have hlo:0<=m.locs:=by omega
 have KP:=Fj m.locs hlo (by omega)
 have HE:Hid (Env w0 g h):=E
 have Wd:Hid (Hs w0 g w p h):=hH
 have T4:Hid (Gh 0 h):=gh
 have vG:Hid (kZ w0 m P CC K):=hme
 have RQ:Hid (fw h.file.classes h.file.methods.length m=true):=wU
 have Dx:Hid (∀i∈m.code,i.ok):=hok
 have RT:Hid (∀v∈l,iO h v):=hg
 have G7:Hid (h.thrown=-1):=iX
 have We:Hid (∀k,k<N->sI w0 g p k):=IH
 have OX:Hid ((h.fuel-h.sh.steps).toNat<=N):=hN
 obtain ⟨LP,RU⟩:∃LP,bF N (h.enterH m l) (bS m l)=LP:=⟨_,rfl⟩
 rw [RU]
 have T5:Hid (bF N (h.enterH m l) (bS m l)=LP):=RU
 have RV:Hid (h.enterL l m.params=true):=by show h.enterL l m.params=true;unfold Hp.enterB at hb;rw [Bool.and_eq_true] at hb;exact hb.1
 clear q8 q9 Wb Wc hbl hH E gh hme wU hok hl hg hA hb iX hN IH RU
 go_enter Tryz.func26,Tryz.ntmps26
 go_wp2_with (go_at_call 51;refine (sH w0 g p h m P CC K pp cc kk A ac lb l _ HH.out HC.out ho HP.out HL.out HA.out HG.out hcl).mono ?_;rintro e w1 ⟨he,h1,f1⟩;rw [HB.out] at he;subst he;have F1:Hid (Fr w0.heap.size g.T ((w.alloc (dH m P CC K pp cc kk)).alloc iy) w1):=f1;have b1:=HR.out.keep HK.out f1;have kW:Hid (aP w1 (w.heap.size+1) ag):=b1;clear b1;have vF:Hid (ep w1 w.heap.size m P CC K pp cc kk):=HM.out.fr HK.out f1;have x0:=vF.out.cells.c0;have x1:=vF.out.cells.c1;have x2:=vF.out.cells.c2;have x3:=vF.out.cells.c3;have x4:=vF.out.cells.c4;have x5:=vF.out.cells.c5;have x6:=vF.out.cells.c6;have x7:=vF.out.cells.c7;have H1:Hid (Hs w0 g w1 p (h.enterH m l)):=h1;have tr:=af vF.out.blk;have OY:=af kW.out.blk;clear h1 f1)
 go_region_held3 (fun w'=>w'.cell? ⟨w.heap.size,0,none⟩=some (.slice P m.params.length pp)/\w'.cell? ⟨w.heap.size,1,none⟩=some (int i64 m.ret.kind)/\w'.cell? ⟨w.heap.size,2,none⟩=some (int i64 m.ret.cls)/\w'.cell? ⟨w.heap.size,3,none⟩=some (int i64 m.stack)/\w'.cell? ⟨w.heap.size,4,none⟩=some (int i64 m.locs)/\w'.cell? ⟨w.heap.size,5,none⟩=some (int i64 m.regs)/\w'.cell? ⟨w.heap.size,6,none⟩=some (.slice CC m.code.length cc)/\w'.cell? ⟨w.heap.size,7,none⟩=some (.slice K m.hands.length kk))
  (go_keep)
  (fail)
 go_wp2
 obtain ⟨W3,OZ⟩:∃W3,W3=((w1.alloc (.cells (aL (List.replicate m.locs.toNat ag)).toArray 62)).alloc (.cells #[.slice P m.params.length pp,int i64 m.ret.kind,int i64 m.ret.cls,int i64 m.stack,int i64 m.locs,int i64 m.regs,.slice CC m.code.length cc,.slice K m.hands.length kk,.slice (some ⟨w1.heap.size,0,none⟩) m.locs.toNat m.locs.toNat,.slice none 0 0,int i64 0] 113)).drew:=⟨_,rfl⟩
 have mP:Bl w1 W3:=by rw [OZ];exact (((Bl.refl w1).alloc _).alloc _).drew
 have T6:(List.replicate m.locs.toNat ag).length=m.locs.toNat:=List.length_replicate ..
 have L3:Hid (cy W3 w1.heap.size (List.replicate m.locs.toNat ag)):=⟨by rw [OZ];exact iG (by simp) (cd rfl),by rw [T6];unfold maxLen;omega⟩
 have C3:Hid (bq w0 W3 ⟨w1.heap.size+1,w1.heap.size,m.locs.toNat,P,CC,K,pp,cc,kk⟩ ⟨m,List.replicate m.locs.toNat ag,[],0⟩ none 0):=by
  have:=H1.out.base
  refine ⟨by dsimp only;omega,by dsimp only;omega,?_,L3.out,Or.inl rfl,vG.out,Nat.le_refl _⟩
  rw [OZ]
  have e:ot ⟨w1.heap.size+1,w1.heap.size,m.locs.toNat,P,CC,K,pp,cc,kk⟩ ⟨m,List.replicate m.locs.toNat ag,[],0⟩ none 0=#[.slice P m.params.length pp,int i64 m.ret.kind,int i64 m.ret.cls,int i64 m.stack,int i64 m.locs,int i64 m.regs,.slice CC m.code.length cc,.slice K m.hands.length kk,.slice (some ⟨w1.heap.size,0,none⟩) m.locs.toNat m.locs.toNat,.slice none 0 0,int i64 0]:=by
   simp [ot]
  rw [e]
  exact cd (by simp)
 have Lj:Hid (Bl w1 W3):=mP
 rw [<-OZ]
 clear OZ mP T6 x0 x1 x2 x3 x4 x5 x6 x7
 go_loopw [8,9] (fun fG i wr=>∃k:Nat,k<=l.length/\i=int i64 k/\fG=int i64 ((aQ (l.take k):Nat):Int)/\Hid (eM w1.heap.size W3 wr)/\Hid (cy wr w1.heap.size (dT (List.replicate m.locs.toNat ag) 0 (l.take k)))) (fun _ i _=>l.length-(intOf i).toNat)
 case atStart=>exact ⟨0,Nat.zero_le _,rfl,rfl,eM.refl _ _,L3.out⟩
 case round =>
  obtain ⟨k,hk,rfl,rfl,ho,hL⟩:=hrel
  obtain ⟨a1,a2,a3,a4⟩:=Cm RQ.out HL.out RT.out RV.out k hk
  by_cases Cn:k<l.length
  ·obtain ⟨a5,a6⟩:=a4 Cn
   clear a4
   have Ql:bG lb w1 A l:=HA.out.fr HK.out F1.out
   have T7:bG lb W3 A l:=Ql.keep fun b cs f e _=>(Lj.out.block _ (af e)).trans e
   have Wf:Hid (∀w',eM w1.heap.size W3 w'->bG lb w' A l):=fun w' o=>T7.only o w1.heap.size (Nat.le_refl _) fun x y cs f hx hh gJ=>by
    rcases Ql with h0|⟨x',y',cs',f',DH,Lk,-⟩
    ·omega
    ·rw [hx] at DH
     simp only [Option.some.injEq,Addr.mk.injEq] at DH
     obtain ⟨rfl,-,-⟩:=DH
     exact af Lk
   obtain ⟨b,off,RL,hcl⟩:=(Wf.out wr ho.out).fst (by omega)
   obtain ⟨v0,v1⟩:=hcl k Cn
   subst RL
   have y8:wr.cell? ⟨w1.heap.size+1,8,none⟩=some (.slice (some ⟨w1.heap.size,0,none⟩) m.locs.toNat m.locs.toNat):=by
    have hb:=(ho.out.block (w1.heap.size+1) (af C3.out.blk) (by omega)).trans C3.out.blk
    rw [aa hb]
    simp [ot]
   have hX:=qO Cn
   have Wg:Hid (dT (List.replicate m.locs.toNat ag) 0 (l.take (k+1))=eZ (dT (List.replicate m.locs.toNat ag) 0 (l.take k)) (aQ (l.take k)) (nth ag l k)):=by
    show dT (List.replicate m.locs.toNat ag) 0 (l.take (k+1))=_
    rw [hX,sJ,Nat.zero_add]
   have RY:Hid (aQ (l.take (k+1))=aQ (l.take k)+aQ [nth ag l k]):=by
    show aQ (l.take (k+1))=_
    rw [hX,jJ]
   have Wh:Hid (gY (dT (List.replicate m.locs.toNat ag) 0 (l.take k))):=a1
   have Mz:Hid (m.locs.toNat=(dT (List.replicate m.locs.toNat ag) 0 (l.take k)).length):=a2.symm
   have H2:Hid ((nth ag l k).kind=2->aQ (l.take k)+1<m.locs.toNat):=fun e=>by have:=a6 e;omega
   have RZ:aQ (l.take k)<m.locs.toNat:=by omega
   have xU:aQ [nth ag l k]<=2:=by have:=zZ [nth ag l k];simp at this;omega
   have zB:(0:Int)<=(k:Int):=by omega
   have Mj:(k:Int)<(l.length:Int):=by omega
   have Nz:l.length<=2 ^ 63-1:=by have:=HL.out;omega
   have hne:b≠w1.heap.size:=by
    rcases Ql with h0|⟨x',y',cs',f',DH,Lk,-⟩
    ·omega
    ·simp only [Option.some.injEq,Addr.mk.injEq] at DH
     obtain ⟨rfl,-,-⟩:=DH
     have:=af Lk
     omega
   clear hcl hX a1 a2 a6 Ql T7
   generalize nth ag l k=V at *
   generalize aQ (l.take k)=T at *
   generalize dT (List.replicate m.locs.toNat ag) 0 (l.take k)=AL at *
   go_wp2
   go_region_held3 (fun w'=>w'.cell? ⟨w1.heap.size+1,8,none⟩=some (.slice (some ⟨w1.heap.size,0,none⟩) m.locs.toNat m.locs.toNat)/\w'.cell? ⟨b,off+k*2,none⟩=some (int i64 V.kind)/\w'.cell? ⟨b,off+k*2+1,none⟩=some (int i64 V.n))
    (go_keep)
    (first
     | (go_at_call 52;refine (Fk w1.heap.size AL T m.locs.toNat m.locs.toNat V _ (by exact ⟨hL.out.blk,hL.out.len⟩) Wh.out Mz.out RZ H2.out).mono ?_;rintro e w2 ⟨rfl,l2,o2⟩;have O2:Hid (eM w1.heap.size W3 w2):=(eM.drew ho.out).trans o2;have u8:w2.cell? ⟨w1.heap.size+1,8,none⟩=some (.slice (some ⟨w1.heap.size,0,none⟩) m.locs.toNat m.locs.toNat):=(by have hb:=(O2.out.block (w1.heap.size+1) (af C3.out.blk) (by omega)).trans C3.out.blk;rw [aa hb];simp [ot]);have u0:w2.cell? ⟨b,off+k*2,none⟩=some (int i64 V.kind):=(by rw [<-v0];exact World.cell?_of_block (o2.block b (bC v0) hne));have u1:w2.cell? ⟨b,off+k*2+1,none⟩=some (int i64 V.n):=(by rw [<-v1];exact World.cell?_of_block (o2.block b (bC v1) hne))))
   go_wp2_with (go_at_call 53;refine (tL _ _ 1 [V] _ (Jt u0 u1) (by simp) rfl).mono ?_;rintro e w3 ⟨rfl,lH⟩;rw [lH];clear lH w3)
   go_roundw
   case rel=>exact ⟨k+1,by omega,by go_num,by rw [RY.out];go_num,O2,by show cy _ _ _;rw [Wg.out];exact l2⟩
   case measure=>simp [intOf];omega
  ·obtain rfl:k=l.length:=by omega
   generalize aQ (List.take l.length l)=TT at *
   rw [List.take_length] at hL
   have T8:Hid (bq w0 wr ⟨w1.heap.size+1,w1.heap.size,m.locs.toNat,P,CC,K,pp,cc,kk⟩ (bS m l) none 0):=by
    have:=C3.out.setLoc ho.out hL.out (by rw [List.take_length] at a2;rw [a2];simp)
    exact this
   have T9:Hid (Hs w0 g wr p (h.enterH m l)):=eM.hs (H1.out.old Lj.out) ho.out HK.out L3.out H1.out.base
   have G8:Hid (ep wr w.heap.size m P CC K pp cc kk):=⟨(ho.out.block _ (by have:=Lj.out.size;omega) (by omega)).trans ((Lj.out.block _ tr).trans vF.out.blk)⟩
   have MA:Hid (aP wr (w.heap.size+1) ag):=⟨(ho.out.block _ (by have:=Lj.out.size;omega) (by omega)).trans ((Lj.out.block _ OY).trans kW.out.blk)⟩
   have Wi:w.heap.size+1<w1.heap.size:=OY
   have MB:Hid (Fr w0.heap.size g.T w wr):=by
    have f3:Fr w0.heap.size g.T w W3:=(HF.out.trans F1.out).trans (Fr.old H1.out.base Lj.out)
    refine ⟨⟨ho.out.os.trans f3.bl.os,ho.out.tape.trans f3.bl.tape,ho.out.output.trans f3.bl.output,Nat.le_trans f3.bl.size ho.out.size,fun b hb=>(ho.out.block b (by have:=f3.bl.size;omega) (by omega)).trans (f3.bl.block b hb)⟩,fun b cs t f e n=>?_⟩
    have:=af e
    exact (ho.out.block b (by have:=f3.bl.size;omega) (by omega)).trans (f3.keep b cs t f e n)
   have vp:Hid (L2 w0 g p ⟨w1.heap.size+1,w1.heap.size,m.locs.toNat,P,CC,K,pp,cc,kk⟩ m wr (h.enterH m l) N LP N (h.enterH m l) (bS m l) wr):=by
    have Qm:h.enterH m l={ h with calls:=h.calls+1 }:=by
     have Ll:=HB.out
     unfold Hp.enterB at Ll
     rw [Bool.and_eq_true] at Ll
     have hd:h.deep=false:=by simpa using Ll.2
     unfold Hp.enterH;rw [if_neg (by rw [Ll.1];decide),if_neg (by rw [hd];decide)]
    have Q8:h.calls<20:=by
     have Ll:=HB.out
     unfold Hp.enterB at Ll
     rw [Bool.and_eq_true] at Ll
     have hd:h.deep=false:=by simpa using Ll.2
     unfold Hp.deep at hd;simpa using hd
    have gc:=nz RQ.out Dx.out HL.out RT.out RV.out
    have g1:Gh 0 (h.enterH m l):=by
     have gh:=T4.out
     rw [Qm]
     exact ⟨fun o ho x hx=>⟨(gh.held o ho x hx).ref,(gh.held o ho x hx).num⟩,gh.thr,gh.used,gh.steps,gh.fuel,gh.out,gh.len,gh.inp,by dsimp only;omega⟩
    refine ⟨T9.out,⟨_,_,T8.out⟩,Fq.refl _ _ _ _,g1,by rw [Qm];dsimp only;omega,fun _=>?_,rfl,rfl,rfl,rfl,by rw [Qm];exact OX.out,Nat.le_refl _,T5.out⟩
    rw [Qm]
    exact ⟨G7.out,⟨fun v hv=>⟨(gc.stk v hv).ref,(gc.stk v hv).num⟩,fun v hv=>⟨(gc.locs v hv).ref,(gc.locs v hv).num⟩,gc.ok,gc.room,gc.len,gc.me,gc.mok⟩,Int.le_refl _,by show (0:Int)<=_;omega⟩
   have Wj:Hid (Env w0 g (h.enterH m l)):=by
    refine HE.out.of ?_ ?_<;>(unfold Hp.enterH;split;exact (by first|exact (gw h 6).file|exact (gw h 6).input);split;exact (by first|exact (gw h 5).file|exact (gw h 5).input);rfl)
   have Yk:p<w.heap.size:=by obtain ⟨vo,vx,hv,X⟩:=Wd.out;exact af X.blk
   obtain ⟨WA,Wk⟩:∃WA,WA=wr:=⟨wr,rfl⟩
   subst Wk
   clear HF HH HM HR HA HP HL HG T4 RQ Dx RT G7 OX T5 RV HC KP F1 kW vF H1 C3 L3 Lj T8 T9 a1 a2 a3 a4 hL ho
   generalize h.enterH m l=h0 at *
   generalize bS m l=c0 at *
   go_wp2
   go_loopw [13] (fun _ wr=>∃(k:Nat) (h1:Hp) (c1:aH),Hid (L2 w0 g p ⟨w1.heap.size+1,w1.heap.size,m.locs.toNat,P,CC,K,pp,cc,kk⟩ m WA h0 N LP k h1 c1 wr)) (fun _ wr=>oz p h0.fuel wr)
   case atStart=>exact ⟨N,h0,c0,vp⟩
   case round =>
    obtain ⟨k,h1,c1,ma⟩:=hrel
    have n3:w.heap.size+1≠w1.heap.size+1:=by omega
    have n4:w.heap.size+1≠w1.heap.size:=by omega
    have n5:w.heap.size≠w1.heap.size+1:=by omega
    have n6:w.heap.size≠w1.heap.size:=by omega
    have Ai:w.heap.size+1≠p:=by omega
    have Wl:p≠w.heap.size+1:=by omega
    have Jw:w.heap.size<=w1.heap.size+1:=by omega
    have K9:w.heap.size<=w1.heap.size:=by omega
    have hst:0<=h1.sh.steps/\h1.sh.steps<=60000:=by have:=ma.out.gh.steps;have:=ma.out.gh.fuel;have:=ma.out.gh.out;omega
    cases Hn:h1.stepB
    ·have tI:Hid (LP=(h1.step.leave,ag)):=ma.out.is.symm.trans (Fl Hn)
     have D6:0<=h1.step.calls/\h1.step.calls<=20:=by rw [(jI h1).calls];exact ma.out.gh.calls
     clear hst
     have hst:0<=h1.sh.steps/\h1.sh.steps<=60000:=by have:=ma.out.gh.steps;have:=ma.out.gh.fuel;have:=ma.out.gh.out;omega
     go_wp2_with (go_at_call 54;refine (wL w0 g HK.out p h1 _ ma.out.hs hst).mono ?_;rintro e w2 ⟨he,h2,f2⟩;rw [Hn] at he;subst he;have MC:Hid (Fq w0.heap.size g.T ⟨w1.heap.size+1,w1.heap.size,m.locs.toNat,P,CC,K,pp,cc,kk⟩ WA w2):=ma.out.fq.trans f2.fq;obtain ⟨vo,vx,hv,HX⟩:=h2;have c4:=HX.cells.c4;have f4:=HX.free 4;have rG:Hid (cD w0 g w2 p h1.step vo vx hv):=HX;clear HX;have bx:=MA.out.fq HK.out MC.out n3 n4;have r0:=bx.c0;have r1:=bx.c1;have r2:=bx.fr 0;have r3:=bx.fr 1;have jQ:Hid (aP w2 (w.heap.size+1) ag):=bx;clear bx)
     (try simp only [Exit.inBlock,Exit.then])
     refine bodyPost_ret (results_cell_row rfl _ _ (w.heap.size+1) _ _ _ _ rfl ((jQ.out.far Ai).set ag).blk Tryz.underlying62 rfl bp) rfl ?_
     rw [tI.out]
     exact ⟨rfl,⟨vo,vx,hv,(rG.out.leave HK.out).cf ((jQ.out.far Ai).cf HK.out bN _ _)⟩,((((Fq.fr MB.out MC.out Jw K9).trans (rG.out.frSet 4 _)).new bV bN _).new bV bN _)⟩
    ·have Co:=Hn
     unfold Hp.stepB at Co
     simp at Co
     obtain ⟨k',rfl⟩:∃k',k=k'+1:=⟨k-1,by have:=ma.out.left;omega⟩
     have hle:=jI h1
     have MD:h1.step={ h1 with sh:={ h1.sh with steps:=h1.sh.steps+1 } }:=by unfold Hp.step;rw [if_neg (by rw [Co.1];decide),if_neg (by omega)]
     obtain ⟨Ou,LS,O0⟩:=ma.out.inv Co.1
     have Fm:Hid (h1.step.over=false):=by show h1.step.over=false;rw [MD];exact Co.1
     have Ua:Hid (h1.step.thrown=-1):=by show h1.step.thrown=-1;rw [MD];exact Ou
     have G2:Hid (Gh 1 h1.step):=ma.out.gh.step Hn
     have O1:Hid (Gc h1.step c1):=LS.le hle
     have mM:Hid (0<=c1.pc/\c1.pc<=c1.m.code.length):=O0
     have ml:Hid (c1.m=m):=ma.out.me
     have Ru:Hid ((h1.step.fuel-h1.step.sh.steps).toNat<=k'):=by
      show (h1.step.fuel-h1.step.sh.steps).toNat<=k'
      have:=ma.out.left
      rw [MD];dsimp only;omega
     have R0:Hid (k'<N):=by have:=ma.out.le;show k'<N;omega
     have Fo:Hid (Env w0 g h1.step):=Wj.out.of (hle.file.trans ma.out.file) (hle.input.trans ma.out.inp)
     have NN:Hid (h1.step.file=h0.file/\h1.step.input=h0.input/\h1.step.fuel=h0.fuel):=⟨hle.file.trans ma.out.file,hle.input.trans ma.out.inp,hle.fuel.trans ma.out.fuel⟩
     have Ub:Hid (1<=h1.step.calls):=by show 1<=h1.step.calls;rw [hle.calls];exact ma.out.calls
     have R4:Hid (LP=gr (bF k') h1.step c1):=by
      show LP=_
      rw [<-ma.out.is]
      show (if h1.stepB=false then _ else _)=_
      rw [if_neg (by rw [Hn];decide)]
     have Uc:Hid (oz p h0.fuel wr=(h0.fuel-(h1.step.sh.steps-1)).toNat/\h1.step.sh.steps<=h0.fuel/\1<=h1.step.sh.steps):=by
      refine ⟨(tM ma.out.hs _).trans ?_,?_,?_⟩
      ·rw [MD];dsimp only;congr 1;omega
      ·have:=ma.out.fuel;rw [MD];dsimp only;omega
      ·rw [MD];dsimp only;omega
     have SA:Hid (Calls Tryz.prog 54 #[.pointer (some ⟨p,0,none⟩)] wr fun e w'=>e=.returned (.bool true)/\Hs w0 g w' p h1.step/\Fr w0.heap.size g.T wr w'):=(wL w0 g HK.out p h1 _ ma.out.hs hst).mono fun e w' hh=>⟨by rw [hh.1,Hn],hh.2⟩
     have R5:Hid (Cs w0 wr ⟨w1.heap.size+1,w1.heap.size,m.locs.toNat,P,CC,K,pp,cc,kk⟩ c1):=ma.out.cs
     have EG:Hid (Fq w0.heap.size g.T ⟨w1.heap.size+1,w1.heap.size,m.locs.toNat,P,CC,K,pp,cc,kk⟩ WA wr):=ma.out.fq
     clear Hn Co MD hle Ou LS O0 hst ma
     generalize h1.step=h2 at *
     by_cases oV:c1.pc<m.code.length
     ·have yQ:=mM.out
      obtain ⟨n,hn⟩:∃n:Nat,c1.pc=n:=⟨c1.pc.toNat,by omega⟩
      have HN:Hid (c1.pc=n):=hn
      have kx:n<m.code.length:=by omega
      have eY:m.code.length<=2 ^ 63-1:=by have:=vG.out.2.1.1;unfold maxLen at this;omega
      have kv:(0:Int)<=(n:Int):=by omega
      have kg:(n:Int)<(m.code.length:Int):=by omega
      obtain ⟨xb,xo,Qa,qq,Ud,Wm⟩:∃xb xo Qa qq,CC=some ⟨xb,xo,none⟩/\Hid (∀w',Bl w0 w'->w'.cell? ⟨xb,xo+n*6,none⟩=some (int i64 (nth fW m.code n).op)/\w'.cell? ⟨xb,xo+n*6+1,none⟩=some (int i64 (nth fW m.code n).a)/\w'.cell? ⟨xb,xo+n*6+2,none⟩=some (int i64 (nth fW m.code n).b)/\w'.cell? ⟨xb,xo+n*6+3,none⟩=some (int i64 (nth fW m.code n).c)/\w'.cell? ⟨xb,xo+n*6+4,none⟩=some (int i64 (nth fW m.code n).n)/\w'.cell? ⟨xb,xo+n*6+5,none⟩=some (.slice Qa (nth fW m.code n).args.length qq)):=by
       rcases vG.out.2.1.2 with QQ|⟨xb,xo,hX,hc⟩
       ·omega
       obtain ⟨e0,e1,e2,e3,e4,-,Qa,qq,e5,-⟩:=hc n kx
       exact ⟨xb,xo,Qa,qq,hX,fun w' hb=>⟨hb.cell e0,hb.cell e1,hb.cell e2,hb.cell e3,hb.cell e4,hb.cell e5⟩⟩
      have Wn:Hid (CC=some ⟨xb,xo,none⟩):=Ud
      have hd:decide ((n:Int)<(m.code.length:Int))=true:=decide_eq_true kg
      have qK:(!h2.over)=true:=by rw [Fm.out];rfl
      have Jy:Hid (vV h2.file.classes h2.file.methods.length c1.m.code.length c1.locs.length (nth fW m.code n)/\(nth fW m.code n).ok):=by
       have:=lZ O1.out ⟨by omega,by rw [ml.out];omega⟩
       rw [hn,Int.toNat_natCast,ml.out] at this
       rw [ml.out];exact this
      have Fp:Hid (LP=if (nth fW m.code n).op=20 then j9 h2 c1 else dM (bF k') (Ck k' h2 c1 (nth fW m.code n))):=by
       show LP=_
       have e1:h2.mustB (decide (c1.pc<c1.m.code.length))=true:=by rw [kJ h2 Fm.out,ml.out];exact decide_eq_true oV
       rw [R4.out]
       unfold gr
       rw [if_neg (by rw [e1];decide),hn,Int.toNat_natCast,ml.out]
       rfl
      clear yQ hn oV Ud R4
      generalize nth fW m.code n=I at *
      go_wp2_with (go_at_call 54;refine SA.out.mono ?_;rintro e w2 ⟨rfl,tf,f2⟩;have MC:Hid (Fq w0.heap.size g.T ⟨w1.heap.size+1,w1.heap.size,m.locs.toNat,P,CC,K,pp,cc,kk⟩ WA w2):=EG.out.trans f2.fq;have F2:Hid (Fr w0.heap.size g.T wr w2):=f2;have Dm:Hid (Hs w0 g w2 p h2):=tf;obtain ⟨AA,Fs,ME⟩:=R5.out.fr HK.out f2;have d10:w2.cell? ⟨w1.heap.size+1,10,none⟩=some (int i64 (n:Int)):=(by rw [<-HN.out];exact ME.cells.c10);have m6:=(G8.out.fq HK.out MC.out n5 n6).cells.c6;rw [Wn.out] at m6;have R6:Hid (bq w0 w2 ⟨w1.heap.size+1,w1.heap.size,m.locs.toNat,P,CC,K,pp,cc,kk⟩ c1 AA Fs):=ME;obtain ⟨i0,i1,i2,i3,i4,i5⟩:=Wm.out w2 tf.bl;have qN:=af ME.blk;have DN:=af (G8.out.fq HK.out MC.out n5 n6).blk;have G5:=bC i0;clear ME f2 tf)
      go_region_held3 (fun w'=>w'.cell? ⟨w1.heap.size+1,10,none⟩=some (int i64 (n:Int))/\w'.cell? ⟨w.heap.size,6,none⟩=some (.slice (some ⟨xb,xo,none⟩) m.code.length cc))
       (go_keep)
       (first
        | (go_at_call 55;refine (dj w0 g p h2 _ (by first|exact Dm.out.cf (Cf.drew (Cf.refl _ _ _))|exact Dm.out)).mono ?_;rintro e w3 ⟨he,lH⟩;rw [qK] at he;subst he;rw [lH];clear lH w3))
      go_wp2
      go_region_held3 (fun w'=>w'.cell? ⟨w1.heap.size+1,10,none⟩=some (int i64 (n:Int))/\w'.cell? ⟨w.heap.size,6,none⟩=some (.slice (some ⟨xb,xo,none⟩) m.code.length cc)/\w'.cell? ⟨xb,xo+n*6,none⟩=some (int i64 I.op)/\w'.cell? ⟨xb,xo+n*6+1,none⟩=some (int i64 I.a)/\w'.cell? ⟨xb,xo+n*6+2,none⟩=some (int i64 I.b)/\w'.cell? ⟨xb,xo+n*6+3,none⟩=some (int i64 I.c)/\w'.cell? ⟨xb,xo+n*6+4,none⟩=some (int i64 I.n)/\w'.cell? ⟨xb,xo+n*6+5,none⟩=some (.slice Qa I.args.length qq))
       (go_keep)
       (fail)
      have Qn:Bl w2 (w2.alloc (.cells (cO I.op I.a I.b I.c I.n Qa I.args.length qq) 55)).drew.drew:=((Bl.refl w2).alloc _).drew.drew
      have NP:Hid (Hs w0 g (w2.alloc (.cells (cO I.op I.a I.b I.c I.n Qa I.args.length qq) 55)).drew.drew p h2):=Dm.out.old Qn
      have NQ:Hid (bq w0 (w2.alloc (.cells (cO I.op I.a I.b I.c I.n Qa I.args.length qq) 55)).drew.drew ⟨w1.heap.size+1,w1.heap.size,m.locs.toNat,P,CC,K,pp,cc,kk⟩ c1 AA Fs):=R6.out.old Qn
      have F5:Hid (Fr w0.heap.size g.T wr (w2.alloc (.cells (cO I.op I.a I.b I.c I.n Qa I.args.length qq) 55)).drew.drew):=F2.out.trans (Fr.old Dm.out.base Qn)
      have Lm:Hid (Fq w0.heap.size g.T ⟨w1.heap.size+1,w1.heap.size,m.locs.toNat,P,CC,K,pp,cc,kk⟩ WA (w2.alloc (.cells (cO I.op I.a I.b I.c I.n Qa I.args.length qq) 55)).drew.drew):=EG.out.trans F5.out.fq
      have Ue:Hid (cJ (w2.alloc (.cells (cO I.op I.a I.b I.c I.n Qa I.args.length qq) 55)).drew.drew w2.heap.size I.op I.a I.b I.c I.n):=⟨_,(cd rfl:(w2.alloc (.cells (cO I.op I.a I.b I.c I.n Qa I.args.length qq) 55)).heap[w2.heap.size]?=_)⟩
      have m1:=(G8.out.fq HK.out Lm.out n5 n6).cells.c1
      have Uf:Hid (ep (w2.alloc (.cells (cO I.op I.a I.b I.c I.n Qa I.args.length qq) 55)).drew.drew w.heap.size m P CC K pp cc kk):=G8.out.fq HK.out Lm.out n5 n6
      clear Qn i0 i1 i2 i3 i4 i5 d10 m6
      by_cases hop:I.op=20
      ·have Wo:p<w2.heap.size:=(by obtain ⟨vz,vA,Ix,X'⟩:=Dm.out;exact af X'.blk)
       have O3:w2.heap.size<((w2.alloc (.cells (cO I.op I.a I.b I.c I.n Qa I.args.length qq) 55)).drew.drew).heap.size:=by simp
       obtain ⟨V5,Ln⟩:∃V5,V5=(w2.alloc (.cells #[int i64 I.op,int i64 I.a,int i64 I.b,int i64 I.c,int i64 I.n,.slice Qa I.args.length qq] 55)).drew.drew:=⟨_,rfl⟩
       rw [<-Ln]
       have MF:Hid (Hs w0 g V5 p h2):=by rw [Ln];exact NP
       have MG:Hid (bq w0 V5 ⟨w1.heap.size+1,w1.heap.size,m.locs.toNat,P,CC,K,pp,cc,kk⟩ c1 AA Fs):=by rw [Ln];exact NQ
       have Ft:Hid (Fq w0.heap.size g.T ⟨w1.heap.size+1,w1.heap.size,m.locs.toNat,P,CC,K,pp,cc,kk⟩ WA V5):=by rw [Ln];exact Lm
       have Jz:Hid (ep V5 w.heap.size m P CC K pp cc kk):=by rw [Ln];exact Uf
       have R7:Hid (cJ V5 w2.heap.size I.op I.a I.b I.c I.n):=by rw [Ln];exact Ue
       have Ug:w2.heap.size<V5.heap.size:=by rw [Ln];exact O3
       clear Ln NP NQ Lm Uf Ue F5 O3 m1
       have Rs:=MF.out.base
       have m1:=Jz.out.cells.c1
       have m2:=Jz.out.cells.c2
       have j0:=R7.out.c0
       have kS:w.heap.size+1<V5.heap.size:=by omega
       have VI:p<V5.heap.size:=by omega
       have Di:w.heap.size<V5.heap.size:=by omega
       by_cases hrk:m.ret.kind=0
       ·have tI:Hid (LP=(h2.leave,ag)):=by
         show LP=_
         rw [Fp.out,if_pos hop]
         unfold j9
         rw [if_pos (by rw [ml.out];exact hrk)]
        have hz:(I.op==20)=true:=by simpa using hop
        have Uh:(m.ret.kind !=0)=false:=by simpa using hrk
        have D6:0<=h2.calls/\h2.calls<=20:=G2.out.calls
        clear hop hrk
        have oA:=MF.out
        obtain ⟨vo,vx,hv,HX⟩:=oA
        have c4:=HX.cells.c4
        have f4:=HX.free 4
        have rG:Hid (cD w0 g V5 p h2 vo vx hv):=HX
        clear HX
        have bx:=MA.out.fq HK.out Ft.out n3 n4
        have r0:=bx.c0
        have r1:=bx.c1
        have r2:=bx.fr 0
        have r3:=bx.fr 1
        have jQ:Hid (aP V5 (w.heap.size+1) ag):=bx
        clear bx
        go_wp2
        (try simp only [Exit.inBlock,Exit.then])
        have Ui:=((jQ.out.far Ai).set ag:aP (((V5.setCell ⟨p,4,none⟩ (int i64 (h2.calls-1))).setCell ⟨w.heap.size+1,0,none⟩ (int i64 ag.kind)).setCell ⟨w.heap.size+1,1,none⟩ (int i64 ag.n)) (w.heap.size+1) ag).blk
        refine bodyPost_ret (results_cell_row rfl _ _ (w.heap.size+1) _ _ _ _ rfl (iG (o':=iy) (af Ui) Ui) Tryz.underlying62 rfl bp) rfl ?_
        rw [tI.out]
        have Uj:Hs w0 g (((V5.setCell ⟨p,4,none⟩ (int i64 (h2.calls-1))).setCell ⟨w.heap.size+1,0,none⟩ (int i64 ag.kind)).setCell ⟨w.heap.size+1,1,none⟩ (int i64 ag.n)) p h2.leave:=⟨vo,vx,hv,(rG.out.leave HK.out).cf ((jQ.out.far Ai).cf HK.out bN _ _)⟩
        have Wp:Fr w0.heap.size g.T w (((V5.setCell ⟨p,4,none⟩ (int i64 (h2.calls-1))).setCell ⟨w.heap.size+1,0,none⟩ (int i64 ag.kind)).setCell ⟨w.heap.size+1,1,none⟩ (int i64 ag.n)):=((((Fq.fr MB.out Ft.out Jw K9).trans (rG.out.frSet 4 _)).new bV bN _).new bV bN _)
        exact ⟨rfl,Uj.old ((Bl.refl _).alloc _),Wp.trans (Fr.old Uj.base ((Bl.refl _).alloc _))⟩
       ·have Qo:Bl V5 (V5.alloc iy):=(Bl.refl _).alloc _
        have wW:Hid (Hs w0 g (V5.alloc iy) p h2):=MF.out.old Qo
        have Fv:Hid (bq w0 (V5.alloc iy) ⟨w1.heap.size+1,w1.heap.size,m.locs.toNat,P,CC,K,pp,cc,kk⟩ c1 AA Fs):=MG.out.old Qo
        have Cp:Hid (Fq w0.heap.size g.T ⟨w1.heap.size+1,w1.heap.size,m.locs.toNat,P,CC,K,pp,cc,kk⟩ WA (V5.alloc iy)):=Ft.out.trans (Fr.fq (Fr.old Rs Qo))
        have Uk:Hid (ep (V5.alloc iy) w.heap.size m P CC K pp cc kk):=⟨iG (af Jz.out.blk) Jz.out.blk⟩
        have Ul:Hid (aP (V5.alloc iy) V5.heap.size ag):=⟨cd rfl⟩
        have s1:p≠V5.heap.size:=by omega
        have s2:V5.heap.size≠p:=by omega
        have s3:w.heap.size+1≠V5.heap.size:=by omega
        have s4:V5.heap.size≠w.heap.size+1:=by omega
        have s5:V5.heap.size≠w1.heap.size+1:=by have:=af MG.out.blk;dsimp only at this;omega
        have s6:V5.heap.size≠w1.heap.size:=by have:=af MG.out.loc.blk;dsimp only at this;omega
        have s7:w0.heap.size<=V5.heap.size:=Rs
        clear Qo
        by_cases hl:1<=c1.stk.length
        ·have Fw:=(DW O1.out 1 0 (by omega) hl)
         obtain ⟨V,Qp⟩:∃V,(nth ag (c1.top 1) 0)=V:=⟨_,rfl⟩
         have Wq:Hid ((nth ag (c1.top 1) 0)=V):=Qp
         rw [Qp] at Fw
         have La:Hid (V.kind=3->V.n<h2.objs.length):=fun e=>(Fw.ref e).2
         obtain ⟨R,hR⟩:∃R,h2.of V ⟨m.ret.kind,m.ret.cls⟩=R:=⟨_,rfl⟩
         have Wr:Hid (h2.of V ⟨m.ret.kind,m.ret.cls⟩=R):=hR
         have tI:Hid (LP=((h2.must R).leave,V)):=by
          show LP=_
          rw [Fp.out,if_pos hop]
          unfold j9
          rw [if_neg (by rw [ml.out];exact hrk)]
          dsimp only
          rw [cG hl,Qp,Fm.out,ml.out]
          show ((h2.must (true&&h2.of V ⟨m.ret.kind,m.ret.cls⟩)).leave,V)=_
          rw [hR];rfl
         have D6:0<=(h2.must R).calls/\(h2.must R).calls<=20:=by rw [(a8 h2 R).calls];exact G2.out.calls
         have hz:(I.op==20)=true:=by simpa using hop
         have Uh:(m.ret.kind !=0)=true:=by simpa using hrk
         clear hop hrk Fw Qp hR
         go_wp2_with (first
          | (go_at_call 56;refine (bP w0 g HK.out p h2 ⟨w1.heap.size+1,w1.heap.size,m.locs.toNat,P,CC,K,pp,cc,kk⟩ c1 1 _ AA Fs wW.out Fv.out Fm.out hl (by have:=O1.out.short;omega)).mono ?_;rintro e w7 ⟨A1,cW,bd,rfl,de,h7,c7,f7,-⟩;obtain ⟨b,off,rfl,hcell⟩:=de.fst (by simp [aC]);have t0:=(hcell 0 (by simp [aC])).1;have t1:=(hcell 0 (by simp [aC])).2;rw [Nat.zero_mul,Nat.add_zero] at t0 t1;clear hcell de;rw [Wq.out] at t0 t1;have R8:Hid (Fq w0.heap.size g.T ⟨w1.heap.size+1,w1.heap.size,m.locs.toNat,P,CC,K,pp,cc,kk⟩ WA (V5.alloc iy)):=Cp;have M7:=(Uk.out.fq HK.out f7 n5 n6).cells;have Ws:=M7.c1;have Wt:=M7.c2;clear M7;have B7:=Ul.out.fq HK.out f7 s5 s6;have u0:=B7.c0;have u1:=B7.c1;have u2:=B7.fr 0;have u3:=B7.fr 1;have O4:Hid (aP w7 V5.heap.size ag):=B7;clear B7;have iH:w7.cell? ⟨p,12,none⟩=some (.bool false):=(by obtain ⟨vz,vA,Ix,X'⟩:=h7;rw [X'.cells.c12,Fm.out]);have R9:Hid (Hs w0 g ((w7.setCell ⟨V5.heap.size,0,none⟩ (int i64 V.kind)).setCell ⟨V5.heap.size,1,none⟩ (int i64 V.n)) p h2):=h7.cf (O4.out.cf HK.out s7 _ _);have Sa:Hid (aP ((w7.setCell ⟨V5.heap.size,0,none⟩ (int i64 V.kind)).setCell ⟨V5.heap.size,1,none⟩ (int i64 V.n)) V5.heap.size V):=O4.out.set V;have F8:Hid (Fq w0.heap.size g.T ⟨w1.heap.size+1,w1.heap.size,m.locs.toNat,P,CC,K,pp,cc,kk⟩ WA ((w7.setCell ⟨V5.heap.size,0,none⟩ (int i64 V.kind)).setCell ⟨V5.heap.size,1,none⟩ (int i64 V.n))):=Fq.box2 (R8.out.trans f7) Ft.out.bl.size s7 _ _;clear h7 c7)
          | (go_at_call 57;refine (jn w0 g p h2 V ⟨m.ret.kind,m.ret.cls⟩ _ R9.out Fo.out.cw.cls Fo.out.cw.tree La.out).mono ?_;rintro e w9 ⟨he,h9,f9,b9⟩;rw [Wr.out] at he;subst he;have B9:Hid (aP w9 V5.heap.size V):=Sa.out.keep HK.out f9;have F9:Hid (Fq w0.heap.size g.T ⟨w1.heap.size+1,w1.heap.size,m.locs.toNat,P,CC,K,pp,cc,kk⟩ WA w9):=F8.out.trans f9.fq;have Wv:Hid (Hs w0 g w9 p h2):=h9;clear h9 f9 b9)
          | (go_at_call 55;refine (bk w0 g HK.out p h2 R _ Wv.out).mono ?_;rintro e Cq ⟨rfl,NR,f10⟩;have MH:=B9.out.keep HK.out f10;have k0:=MH.c0;have k1:=MH.c1;clear MH;have O5:Hid (Fq w0.heap.size g.T ⟨w1.heap.size+1,w1.heap.size,m.locs.toNat,P,CC,K,pp,cc,kk⟩ WA Cq):=F9.out.trans f10.fq;obtain ⟨vo,vx,hv,HX⟩:=NR;have c4:=HX.cells.c4;have f4:=HX.free 4;have rG:Hid (cD w0 g Cq p (h2.must R) vo vx hv):=HX;clear HX;have bx:=MA.out.fq HK.out O5.out n3 n4;have r0:=bx.c0;have r1:=bx.c1;have r2:=bx.fr 0;have r3:=bx.fr 1;have jQ:Hid (aP Cq (w.heap.size+1) ag):=bx;clear bx))
         (try simp only [Exit.inBlock,Exit.then])
         refine bodyPost_ret (results_cell_row rfl _ _ (w.heap.size+1) _ _ _ _ rfl ((jQ.out.far Ai).set V).blk Tryz.underlying62 rfl bp) rfl ?_
         rw [tI.out]
         exact ⟨rfl,⟨vo,vx,hv,(rG.out.leave HK.out).cf ((jQ.out.far Ai).cf HK.out bN _ _)⟩,((((Fq.fr MB.out O5.out Jw K9).trans (rG.out.frSet 4 _)).new bV bN _).new bV bN _)⟩
        ·have hl:c1.stk.length<1:=by omega
         have l9:Hid ((h2.fin 6).over=true):=cC Fm.out
         have Um:Hid ((h2.fin 6).must false=h2.fin 6):=pI h2 6 6 Fm.out
         have Ww:Hid (nth ag (List.replicate 1 ag) 0=ag):=rfl
         have tI:Hid (LP=((h2.fin 6).leave,ag)):=by
          show LP=_
          rw [Fp.out,if_pos hop]
          unfold j9
          rw [if_neg (by rw [ml.out];exact hrk)]
          dsimp only
          rw [cR (by omega),pZ (by omega),l9.out]
          show (((h2.fin 6).must (false&&_)).leave,nth ag (List.replicate 1 ag) 0)=_
          rw [Bool.false_and,Um.out];rfl
         have D6:0<=(h2.fin 6).calls/\(h2.fin 6).calls<=20:=by rw [(gw h2 6).calls];exact G2.out.calls
         have hz:(I.op==20)=true:=by simpa using hop
         have Uh:(m.ret.kind !=0)=true:=by simpa using hrk
         clear hop hrk
         go_wp2_with (first
          | (go_at_call 56;refine (dK w0 g HK.out p h2 ⟨w1.heap.size+1,w1.heap.size,m.locs.toNat,P,CC,K,pp,cc,kk⟩ c1 1 _ AA Fs wW.out Fv.out Fm.out hl (by omega)).mono ?_;rintro e w7 ⟨A1,cW,bd,rfl,de,h7,c7,f7,-⟩;obtain ⟨b,off,rfl,hcell⟩:=de.fst (by simp);have t0:=(hcell 0 (by simp)).1;have t1:=(hcell 0 (by simp)).2;rw [Nat.zero_mul,Nat.add_zero] at t0 t1;clear hcell de;rw [Ww.out] at t0 t1;have R8:Hid (Fq w0.heap.size g.T ⟨w1.heap.size+1,w1.heap.size,m.locs.toNat,P,CC,K,pp,cc,kk⟩ WA (V5.alloc iy)):=Cp;have M7:=(Uk.out.fq HK.out f7 n5 n6).cells;have Ws:=M7.c1;have Wt:=M7.c2;clear M7;have B7:=Ul.out.fq HK.out f7 s5 s6;have u0:=B7.c0;have u1:=B7.c1;have u2:=B7.fr 0;have u3:=B7.fr 1;have O4:Hid (aP w7 V5.heap.size ag):=B7;clear B7;have iH:w7.cell? ⟨p,12,none⟩=some (.bool true):=(by obtain ⟨vz,vA,Ix,X'⟩:=h7;rw [X'.cells.c12,l9.out]);have R9:Hid (Hs w0 g ((w7.setCell ⟨V5.heap.size,0,none⟩ (int i64 ag.kind)).setCell ⟨V5.heap.size,1,none⟩ (int i64 ag.n)) p (h2.fin 6)):=h7.cf (O4.out.cf HK.out s7 _ _);have Sa:Hid (aP ((w7.setCell ⟨V5.heap.size,0,none⟩ (int i64 ag.kind)).setCell ⟨V5.heap.size,1,none⟩ (int i64 ag.n)) V5.heap.size ag):=O4.out.set ag;have F8:Hid (Fq w0.heap.size g.T ⟨w1.heap.size+1,w1.heap.size,m.locs.toNat,P,CC,K,pp,cc,kk⟩ WA ((w7.setCell ⟨V5.heap.size,0,none⟩ (int i64 ag.kind)).setCell ⟨V5.heap.size,1,none⟩ (int i64 ag.n))):=Fq.box2 (R8.out.trans f7) Ft.out.bl.size s7 _ _;clear h7 c7)
          | (go_at_call 55;refine (bk w0 g HK.out p (h2.fin 6) false _ R9.out).mono ?_;rintro e Cq ⟨rfl,NR,f10⟩;rw [Um.out] at NR;have MH:=Sa.out.keep HK.out f10;have k0:=MH.c0;have k1:=MH.c1;clear MH;have O5:Hid (Fq w0.heap.size g.T ⟨w1.heap.size+1,w1.heap.size,m.locs.toNat,P,CC,K,pp,cc,kk⟩ WA Cq):=F8.out.trans f10.fq;obtain ⟨vo,vx,hv,HX⟩:=NR;have c4:=HX.cells.c4;have f4:=HX.free 4;have rG:Hid (cD w0 g Cq p (h2.fin 6) vo vx hv):=HX;clear HX;have bx:=MA.out.fq HK.out O5.out n3 n4;have r0:=bx.c0;have r1:=bx.c1;have r2:=bx.fr 0;have r3:=bx.fr 1;have jQ:Hid (aP Cq (w.heap.size+1) ag):=bx;clear bx))
         (try simp only [Exit.inBlock,Exit.then])
         refine bodyPost_ret (results_cell_row rfl _ _ (w.heap.size+1) _ _ _ _ rfl ((jQ.out.far Ai).set ag).blk Tryz.underlying62 rfl bp) rfl ?_
         rw [tI.out]
         exact ⟨rfl,⟨vo,vx,hv,(rG.out.leave HK.out).cf ((jQ.out.far Ai).cf HK.out bN _ _)⟩,((((Fq.fr MB.out O5.out Jw K9).trans (rG.out.frSet 4 _)).new bV bN _).new bV bN _)⟩
      ·have DA:Hid (∀w',Hs w0 g w' p h2->Cs w0 w' ⟨w1.heap.size+1,w1.heap.size,m.locs.toNat,P,CC,K,pp,cc,kk⟩ c1->Calls Tryz.prog 58 #[.pointer (some ⟨p,0,none⟩),.pointer (some ⟨w1.heap.size+1,0,none⟩),.agg (cO I.op I.a I.b I.c I.n Qa I.args.length qq)] w' fun e w'' =>
         e=.returned (int i64 (Ck k' h2 c1 I).nx)/\Hs w0 g w'' p (Ck k' h2 c1 I).h/\Cs w0 w'' ⟨w1.heap.size+1,w1.heap.size,m.locs.toNat,P,CC,K,pp,cc,kk⟩ (Ck k' h2 c1 I).c/\Fq w0.heap.size g.T ⟨w1.heap.size+1,w1.heap.size,m.locs.toNat,P,CC,K,pp,cc,kk⟩ w' w''):=fun w' a1 a2 =>
        Mx w0 g p h2 ⟨w1.heap.size+1,w1.heap.size,m.locs.toNat,P,CC,K,pp,cc,kk⟩ c1 I Qa I.args.length qq w' a1 a2 Fo.out Fm.out ⟨by rw [HN.out];omega,by rw [HN.out,ml.out];omega⟩ hop k' (We.out k' R0.out) G2.out Ua.out O1.out Jy.out.1 Ru.out
       have KD:Hid (Kept h2 c1 (Ck k' h2 c1 I)):=Js Fo.out.may G2.out O1.out Fm.out Ua.out Jy.out.1 Jy.out.2 ⟨by rw [HN.out];omega,by rw [HN.out,ml.out];omega⟩
       have Sb:Hid (LP=dM (bF k') (Ck k' h2 c1 I)):=by show LP=_;rw [Fp.out,if_neg hop]
       have hz:(I.op==20)=false:=by simpa using hop
       clear hop Fp Jy
       generalize Ck k' h2 c1 I=D at *
       cases br:D.h.over
       ·by_cases ht:0<=D.h.thrown
        ·have Un:Hid (∀w',Hs w0 g w' p D.h->Calls Tryz.prog 59 #[.pointer (some ⟨p,0,none⟩),iW m P CC K pp cc kk,int i64 (n:Int)] w' fun e w''=>e=.returned (int i64 (D.h.caughtL (n:Int) m.hands))/\Hs w0 g w'' p D.h/\Fr w0.heap.size g.T w' w''):=fun w' hx=>yI w0 g p D.h m P CC K pp cc kk (n:Int) w' hx (Fo.out.le KD.out.le).cw vG.out.2.2.1 ⟨ht,KD.out.gh.thr.2⟩
         have MI:Hid (D.c.pc=n):=KD.out.pc.trans HN.out
         have Uo:Hid (D.c.m=m):=KD.out.m.trans ml.out
         have Sc:decide (0<=D.h.thrown)=true:=decide_eq_true ht
         have Qq:Hid (Gc D.h D.c):=KD.out.gc br
         have OQ:Hid (LP=if D.h.caughtL (n:Int) m.hands<0 then (D.h.leave,ag) else bF k' (({ D.h with thrown:=-1 }:Hp).putH { D.c with stk:=[] } ⟨3,D.h.thrown⟩) { (({ D.c with stk:=[] }:aH).put ⟨3,D.h.thrown⟩) with pc:=D.h.caughtL (n:Int) m.hands }):=by
          show LP=_
          rw [Sb.out];unfold dM;rw [if_neg (by rw [br];decide),if_pos ht,MI.out,Uo.out]
         have Up:Hid (D.h.caughtL (n:Int) m.hands=-1∨(0<=D.h.caughtL (n:Int) m.hands/\D.h.caughtL (n:Int) m.hands<D.c.m.code.length)):=by
          have:=lY (h:=D.h) (pc:=(n:Int)) (n:=D.c.m.code.length) (k:=D.h.file.classes.length) D.c.m.hands (jh Qq.out.me).2.2.2.2.2.2.2.2.2.1
          rw [Uo.out] at this ⊢;exact this
         generalize D.h.caughtL (n:Int) m.hands=AT at *
         by_cases hat:AT<0
         ·have tI:Hid (LP=(D.h.leave,ag)):=by show LP=_;rw [OQ.out,if_pos hat]
          have Sd:decide (AT<0)=true:=decide_eq_true hat
          have D6:0<=D.h.calls/\D.h.calls<=20:=KD.out.gh.calls
          go_wp2_with (go_at_call 58;refine (DA.out _ NP.out ⟨AA,Fs,NQ.out⟩).mono ?_;rintro e w6 ⟨rfl,oA,Fx,Fy⟩;have Cp:Hid (Fq w0.heap.size g.T ⟨w1.heap.size+1,w1.heap.size,m.locs.toNat,P,CC,K,pp,cc,kk⟩ WA w6):=Lm.out.trans Fy;have wW:Hid (Hs w0 g w6 p D.h):=oA;have Cr:Hid (Cs w0 w6 ⟨w1.heap.size+1,w1.heap.size,m.locs.toNat,P,CC,K,pp,cc,kk⟩ D.c):=Fx;have iH:w6.cell? ⟨p,12,none⟩=some (.bool false):=(by obtain ⟨vo,vx,hv,X⟩:=oA;rw [X.cells.c12,br]);have Se:w6.cell? ⟨p,13,none⟩=some (int i64 D.h.thrown):=(by obtain ⟨vo,vx,hv,X⟩:=oA;exact X.cells.c13);clear oA Fx Fy;obtain ⟨A6,yR,C6⟩:=Cr.out;have LR:w6.cell? ⟨w1.heap.size+1,10,none⟩=some (int i64 (n:Int)):=(by rw [<-MI.out];exact C6.cells.c10);have Fv:Hid (bq w0 w6 ⟨w1.heap.size+1,w1.heap.size,m.locs.toNat,P,CC,K,pp,cc,kk⟩ D.c A6 yR):=C6;clear C6;have x:=(G8.out.fq HK.out Cp.out n5 n6).cells;have x0:=x.c0;have x1:=x.c1;have x2:=x.c2;have x3:=x.c3;have x4:=x.c4;have x5:=x.c5;have x6:=x.c6;have x7:=x.c7;clear x)
          go_region_held3 (fun w'=>w'.cell? ⟨w.heap.size,0,none⟩=some (.slice P m.params.length pp)/\w'.cell? ⟨w.heap.size,1,none⟩=some (int i64 m.ret.kind)/\w'.cell? ⟨w.heap.size,2,none⟩=some (int i64 m.ret.cls)/\w'.cell? ⟨w.heap.size,3,none⟩=some (int i64 m.stack)/\w'.cell? ⟨w.heap.size,4,none⟩=some (int i64 m.locs)/\w'.cell? ⟨w.heap.size,5,none⟩=some (int i64 m.regs)/\w'.cell? ⟨w.heap.size,6,none⟩=some (.slice CC m.code.length cc)/\w'.cell? ⟨w.heap.size,7,none⟩=some (.slice K m.hands.length kk)/\w'.cell? ⟨w1.heap.size+1,10,none⟩=some (int i64 (n:Int)))
           (go_keep)
           (first
            | (go_at_call 59;refine (Un.out _ (by first|exact wW.out.cf (Cf.drew (Cf.refl _ _ _))|exact wW.out)).mono ?_;rintro e w7 ⟨rfl,MJ,f7⟩;have F7:Hid (Fr w0.heap.size g.T w6 w7):=Fr.trans (Fr.drew (Fr.refl _ _ _)) f7;have NS:Hid (Fq w0.heap.size g.T ⟨w1.heap.size+1,w1.heap.size,m.locs.toNat,P,CC,K,pp,cc,kk⟩ WA w7):=Cp.out.trans F7.out.fq;have Uq:Hid (Hs w0 g w7 p D.h):=MJ;have C7:=Fv.out.fr HK.out F7.out;have g10:w7.cell? ⟨w1.heap.size+1,10,none⟩=some (int i64 (n:Int)):=(by rw [<-MI.out];exact C7.cells.c10);have Lp:Hid (bq w0 w7 ⟨w1.heap.size+1,w1.heap.size,m.locs.toNat,P,CC,K,pp,cc,kk⟩ D.c A6 yR):=C7;clear C7 f7;have y:=(G8.out.fq HK.out NS.out n5 n6).cells;have y0:=y.c0;have y1:=y.c1;have y2:=y.c2;have y3:=y.c3;have y4:=y.c4;have y5:=y.c5;have y6:=y.c6;have y7:=y.c7;clear y;obtain ⟨vo,vx,hv,HX⟩:=MJ;have c4:=HX.cells.c4;have f4:=HX.free 4;have rG:Hid (cD w0 g w7 p D.h vo vx hv):=HX;clear HX;have bx:=MA.out.fq HK.out NS.out n3 n4;have r0:=bx.c0;have r1:=bx.c1;have r2:=bx.fr 0;have r3:=bx.fr 1;have jQ:Hid (aP w7 (w.heap.size+1) ag):=bx;clear bx))
          go_wp2
          (try simp only [Exit.inBlock,Exit.then])
          refine bodyPost_ret (results_cell_row rfl _ _ (w.heap.size+1) _ _ _ _ rfl ((jQ.out.far Ai).set ag).blk Tryz.underlying62 rfl bp) rfl ?_
          rw [tI.out]
          exact ⟨rfl,⟨vo,vx,hv,(rG.out.leave HK.out).cf ((jQ.out.far Ai).cf HK.out bN _ _)⟩,((((Fq.fr MB.out NS.out Jw K9).trans (rG.out.frSet 4 _)).new bV bN _).new bV bN _)⟩
         ·have tI:Hid (bF k' (({ D.h with thrown:=-1 }:Hp).putH ({ D.c with stk:=[] }:aH) (⟨3,D.h.thrown⟩:Va)) { (({ D.c with stk:=[] }:aH).put (⟨3,D.h.thrown⟩:Va)) with pc:=AT }=LP):=by show _=LP;rw [OQ.out,if_neg hat]
          have Sd:decide (AT<0)=false:=decide_eq_false hat
          go_wp2_with (go_at_call 58;refine (DA.out _ NP.out ⟨AA,Fs,NQ.out⟩).mono ?_;rintro e w6 ⟨rfl,oA,Fx,Fy⟩;have Cp:Hid (Fq w0.heap.size g.T ⟨w1.heap.size+1,w1.heap.size,m.locs.toNat,P,CC,K,pp,cc,kk⟩ WA w6):=Lm.out.trans Fy;have wW:Hid (Hs w0 g w6 p D.h):=oA;have Cr:Hid (Cs w0 w6 ⟨w1.heap.size+1,w1.heap.size,m.locs.toNat,P,CC,K,pp,cc,kk⟩ D.c):=Fx;have iH:w6.cell? ⟨p,12,none⟩=some (.bool false):=(by obtain ⟨vo,vx,hv,X⟩:=oA;rw [X.cells.c12,br]);have Se:w6.cell? ⟨p,13,none⟩=some (int i64 D.h.thrown):=(by obtain ⟨vo,vx,hv,X⟩:=oA;exact X.cells.c13);clear oA Fx Fy;obtain ⟨A6,yR,C6⟩:=Cr.out;have LR:w6.cell? ⟨w1.heap.size+1,10,none⟩=some (int i64 (n:Int)):=(by rw [<-MI.out];exact C6.cells.c10);have Fv:Hid (bq w0 w6 ⟨w1.heap.size+1,w1.heap.size,m.locs.toNat,P,CC,K,pp,cc,kk⟩ D.c A6 yR):=C6;clear C6;have x:=(G8.out.fq HK.out Cp.out n5 n6).cells;have x0:=x.c0;have x1:=x.c1;have x2:=x.c2;have x3:=x.c3;have x4:=x.c4;have x5:=x.c5;have x6:=x.c6;have x7:=x.c7;clear x)
          go_region_held3 (fun w'=>w'.cell? ⟨w.heap.size,0,none⟩=some (.slice P m.params.length pp)/\w'.cell? ⟨w.heap.size,1,none⟩=some (int i64 m.ret.kind)/\w'.cell? ⟨w.heap.size,2,none⟩=some (int i64 m.ret.cls)/\w'.cell? ⟨w.heap.size,3,none⟩=some (int i64 m.stack)/\w'.cell? ⟨w.heap.size,4,none⟩=some (int i64 m.locs)/\w'.cell? ⟨w.heap.size,5,none⟩=some (int i64 m.regs)/\w'.cell? ⟨w.heap.size,6,none⟩=some (.slice CC m.code.length cc)/\w'.cell? ⟨w.heap.size,7,none⟩=some (.slice K m.hands.length kk)/\w'.cell? ⟨w1.heap.size+1,10,none⟩=some (int i64 (n:Int)))
           (go_keep)
           (first
            | (go_at_call 59;refine (Un.out _ (by first|exact wW.out.cf (Cf.drew (Cf.refl _ _ _))|exact wW.out)).mono ?_;rintro e w7 ⟨rfl,MJ,f7⟩;have F7:Hid (Fr w0.heap.size g.T w6 w7):=Fr.trans (Fr.drew (Fr.refl _ _ _)) f7;have NS:Hid (Fq w0.heap.size g.T ⟨w1.heap.size+1,w1.heap.size,m.locs.toNat,P,CC,K,pp,cc,kk⟩ WA w7):=Cp.out.trans F7.out.fq;have Uq:Hid (Hs w0 g w7 p D.h):=MJ;have C7:=Fv.out.fr HK.out F7.out;have g10:w7.cell? ⟨w1.heap.size+1,10,none⟩=some (int i64 (n:Int)):=(by rw [<-MI.out];exact C7.cells.c10);have Lp:Hid (bq w0 w7 ⟨w1.heap.size+1,w1.heap.size,m.locs.toNat,P,CC,K,pp,cc,kk⟩ D.c A6 yR):=C7;clear C7 f7;have y:=(G8.out.fq HK.out NS.out n5 n6).cells;have y0:=y.c0;have y1:=y.c1;have y2:=y.c2;have y3:=y.c3;have y4:=y.c4;have y5:=y.c5;have y6:=y.c6;have y7:=y.c7;clear y;obtain ⟨Yl,Ym,Yn,X7⟩:=MJ;have RI:=X7.cells.c13;have Wx:=X7.free 13;have zp:=af X7.blk;clear X7;have q9:=Lp.out.cells.c9;have Wy:=Lp.out.free 9;have Sf:=Lp.out.free 10;have zq:=af Lp.out.blk;dsimp only at q9 Wy Sf zq))
          have Sg:Hid (Hs w0 g (((w7.setCell ⟨w1.heap.size+1,9,none⟩ (.slice none 0 0)).setCell ⟨p,13,none⟩ (int i64 (-1))).alloc (.cells #[int i64 3,int i64 D.h.thrown] 62)) p ({ D.h with thrown:=-1 }:Hp)/\bq w0 (((w7.setCell ⟨w1.heap.size+1,9,none⟩ (.slice none 0 0)).setCell ⟨p,13,none⟩ (int i64 (-1))).alloc (.cells #[int i64 3,int i64 D.h.thrown] 62)) ⟨w1.heap.size+1,w1.heap.size,m.locs.toNat,P,CC,K,pp,cc,kk⟩ ({ D.c with stk:=[] }:aH) none 0/\Fq w0.heap.size g.T ⟨w1.heap.size+1,w1.heap.size,m.locs.toNat,P,CC,K,pp,cc,kk⟩ WA (((w7.setCell ⟨w1.heap.size+1,9,none⟩ (.slice none 0 0)).setCell ⟨p,13,none⟩ (int i64 (-1))).alloc (.cells #[int i64 3,int i64 D.h.thrown] 62))):=by
           have c8:=Lp.out.setStk (A':=none) (cap':=0) (l:=[]) (Or.inl rfl) (Nat.le_refl _)
           have h8:=Uq.out.cf (Lp.out.cf HK.out 9 (.slice none 0 0))
           have q8:=NS.out.trans (Lp.out.fq g.T 9 (.slice none 0 0))
           obtain ⟨vo,vx,hv,X⟩:=h8
           have h9:Hs w0 g ((w7.setCell ⟨w1.heap.size+1,9,none⟩ (.slice none 0 0)).setCell ⟨p,13,none⟩ (int i64 (-1))) p ({ D.h with thrown:=-1 }:Hp):=⟨vo,vx,hv,X.set HK.out ({ D.h with thrown:=-1 }:Hp) rfl rfl rfl⟩
           have c9:=c8.fr HK.out (X.frSet 13 (int i64 (-1)))
           have Wz:=q8.trans (X.frSet 13 (int i64 (-1))).fq
           have b9:Bl ((w7.setCell ⟨w1.heap.size+1,9,none⟩ (.slice none 0 0)).setCell ⟨p,13,none⟩ (int i64 (-1))) (((w7.setCell ⟨w1.heap.size+1,9,none⟩ (.slice none 0 0)).setCell ⟨p,13,none⟩ (int i64 (-1))).alloc (.cells #[int i64 3,int i64 D.h.thrown] 62)):=(Bl.refl _).alloc _
           exact ⟨h9.old b9,c9.old b9,Wz.trans (Fr.fq (Fr.old h9.base b9))⟩
          go_wp2_with (go_at_call 60;refine (km w0 g HK.out p ({ D.h with thrown:=-1 }:Hp) ⟨w1.heap.size+1,w1.heap.size,m.locs.toNat,P,CC,K,pp,cc,kk⟩ ({ D.c with stk:=[] }:aH) (⟨3,D.h.thrown⟩:Va) _ Sg.out.1 ⟨none,0,Sg.out.2.1⟩ (by simp)).mono ?_;rintro e Cq ⟨rfl,O6,Si,O7⟩;obtain ⟨WB,O8,Qr⟩:=Si;have Yo:Cq.cell? ⟨w1.heap.size+1,10,none⟩=some (int i64 D.c.pc):=Qr.cells.c10;have WC:Cq.frozen? ⟨w1.heap.size+1,10,none⟩=false:=Qr.free 10;have JA:Hid (bq w0 Cq ⟨w1.heap.size+1,w1.heap.size,m.locs.toNat,P,CC,K,pp,cc,kk⟩ (({ D.c with stk:=[] }:aH).put (⟨3,D.h.thrown⟩:Va)) WB O8):=Qr;have O9:Hid (Hs w0 g Cq p (({ D.h with thrown:=-1 }:Hp).putH ({ D.c with stk:=[] }:aH) (⟨3,D.h.thrown⟩:Va))):=O6;have Sj:Hid (Fq w0.heap.size g.T ⟨w1.heap.size+1,w1.heap.size,m.locs.toNat,P,CC,K,pp,cc,kk⟩ WA Cq):=Sg.out.2.2.trans O7;clear Qr O6 O7)
          have Ur:Le D.h ({ D.h with thrown:=-1 }:Hp):=⟨rfl,rfl,rfl,Nat.le_refl _,Int.le_refl _,rfl⟩
          have yS:Hid (Le h2 (({ D.h with thrown:=-1 }:Hp).putH ({ D.c with stk:=[] }:aH) (⟨3,D.h.thrown⟩:Va))):=(KD.out.le.trans Ur).trans (dr _ _ _)
          have gt:Gh 0 ({ D.h with thrown:=-1 }:Hp):=KD.out.gh.same rfl rfl rfl rfl rfl rfl rfl ⟨by dsimp only;omega,by dsimp only;omega⟩
          have gv:iO ({ D.h with thrown:=-1 }:Hp) (⟨3,D.h.thrown⟩:Va):=⟨fun _=>⟨by dsimp only;omega,KD.out.gh.thr.2⟩,by have:=KD.out.gh.thr;have:=KD.out.gh.len;dsimp only;unfold cP;omega⟩
          have Q4:Gc ({ D.h with thrown:=-1 }:Hp) ({ D.c with stk:=[] }:aH):=by
           have x:=Qq.out.le Ur
           refine ⟨fun v hv=>by simp at hv,x.locs,x.ok,?_,x.len,x.me,x.mok⟩
           have:=(jh x.me).1
           show ((aQ []:Nat):Int)<=_
           simp [aQ];exact this
          have LU:({ D.h with thrown:=-1 }:Hp).stops=false:=by unfold Hp.stops;dsimp only;rw [br];rfl
          have OC:Hid (Inv (({ D.h with thrown:=-1 }:Hp).putH ({ D.c with stk:=[] }:aH) (⟨3,D.h.thrown⟩:Va)) { (({ D.c with stk:=[] }:aH).put (⟨3,D.h.thrown⟩:Va)) with pc:=AT }):=fun NA=>⟨ln _ _ _,(ji Q4 gv LU NA).pc _,by have:=Up.out;dsimp only;omega,by have:=Up.out;show AT<=D.c.m.code.length;omega⟩
          have Pb:Hid (Gh 0 (({ D.h with thrown:=-1 }:Hp).putH ({ D.c with stk:=[] }:aH) (⟨3,D.h.thrown⟩:Va))):=gt.putH _ _
          go_roundw
          case rel=>exact ⟨k',(({ D.h with thrown:=-1 }:Hp).putH ({ D.c with stk:=[] }:aH) (⟨3,D.h.thrown⟩:Va)),{ (({ D.c with stk:=[] }:aH).put (⟨3,D.h.thrown⟩:Va)) with pc:=AT },⟨O9.out.cf (JA.out.cf HK.out 10 _),⟨_,_,JA.out.setPc _⟩,Sj.out.trans (JA.out.fq _ 10 _),Pb.out,by rw [yS.out.calls];exact Ub.out,OC.out,KD.out.m.trans ml.out,yS.out.file.trans NN.out.1,yS.out.input.trans NN.out.2.1,yS.out.fuel.trans NN.out.2.2,by have:=yS.out.steps;have:=yS.out.fuel;have:=Ru.out;omega,Nat.le_of_lt R0.out,tI.out⟩⟩
          case measure =>
           have DM:=tM (O9.out.cf (JA.out.cf HK.out 10 (int i64 AT))) h0.fuel
           have key:∀S:Int,h2.sh.steps<=S->(h0.fuel-S).toNat<oz p h0.fuel wr:=fun S hS=>by have DN:=Uc.out;rw [DN.1];omega
           rw [DM]
           exact key _ yS.out.steps
        ·have LV:D.h.thrown=-1:=by have:=KD.out.gh.thr;omega
         have WD:Hid (D.h.thrown=-1):=LV
         have tI:Hid (bF k' D.h { D.c with pc:=D.nx }=LP):=by
          show _=LP
          rw [Sb.out];unfold dM;rw [if_neg (by rw [br];decide),if_neg ht]
         have Sc:decide (0<=D.h.thrown)=false:=decide_eq_false ht
         have Qq:Hid (Gc D.h D.c):=KD.out.gc br
         have yJ:Hid (0<=D.nx/\D.nx<=D.c.m.code.length):=by show _/\_;rw [KD.out.m];exact KD.out.nx
         clear ht LV
         go_wp2_with (go_at_call 58;refine (DA.out _ NP.out ⟨AA,Fs,NQ.out⟩).mono ?_;rintro e w6 ⟨rfl,oA,Fx,Fy⟩;have Cp:Hid (Fq w0.heap.size g.T ⟨w1.heap.size+1,w1.heap.size,m.locs.toNat,P,CC,K,pp,cc,kk⟩ WA w6):=Lm.out.trans Fy;have wW:Hid (Hs w0 g w6 p D.h):=oA;have Cr:Hid (Cs w0 w6 ⟨w1.heap.size+1,w1.heap.size,m.locs.toNat,P,CC,K,pp,cc,kk⟩ D.c):=Fx;have iH:w6.cell? ⟨p,12,none⟩=some (.bool false):=(by obtain ⟨vo,vx,hv,X⟩:=oA;rw [X.cells.c12,br]);have Se:w6.cell? ⟨p,13,none⟩=some (int i64 D.h.thrown):=(by obtain ⟨vo,vx,hv,X⟩:=oA;exact X.cells.c13);clear oA Fx Fy;obtain ⟨A6,yR,C6⟩:=Cr.out;have LR:w6.cell? ⟨w1.heap.size+1,10,none⟩=some (int i64 D.c.pc):=C6.cells.c10;have f10:w6.frozen? ⟨w1.heap.size+1,10,none⟩=false:=C6.free 10;have Fv:Hid (bq w0 w6 ⟨w1.heap.size+1,w1.heap.size,m.locs.toNat,P,CC,K,pp,cc,kk⟩ D.c A6 yR):=C6;clear C6)
         go_roundw
         case rel=>exact ⟨k',D.h,{ D.c with pc:=D.nx },⟨wW.out.cf (Fv.out.cf HK.out 10 _),⟨_,_,Fv.out.setPc _⟩,Cp.out.trans (Fv.out.fq _ 10 _),KD.out.gh,by rw [KD.out.le.calls];exact Ub.out,fun _=>⟨WD.out,Qq.out.pc _,yJ.out⟩,KD.out.m.trans ml.out,KD.out.le.file.trans NN.out.1,KD.out.le.input.trans NN.out.2.1,KD.out.le.fuel.trans NN.out.2.2,by have:=KD.out.le.steps;have:=KD.out.le.fuel;have:=Ru.out;omega,Nat.le_of_lt R0.out,tI.out⟩⟩
         case measure =>
          have DM:=tM (wW.out.cf (Fv.out.cf HK.out 10 (int i64 D.nx))) h0.fuel
          have key:∀S:Int,h2.sh.steps<=S->(h0.fuel-S).toNat<oz p h0.fuel wr:=fun S hS=>by have DN:=Uc.out;rw [DN.1];omega
          rw [DM]
          exact key _ KD.out.le.steps
       ·have tI:Hid (LP=(D.h.leave,ag)):=by
         show LP=_
         rw [Sb.out];unfold dM;rw [if_pos br]
        have D6:0<=D.h.calls/\D.h.calls<=20:=KD.out.gh.calls
        go_wp2_with (go_at_call 58;refine (DA.out _ NP.out ⟨AA,Fs,NQ.out⟩).mono ?_;rintro e w6 ⟨rfl,oA,Fx,Fy⟩;have Cp:Hid (Fq w0.heap.size g.T ⟨w1.heap.size+1,w1.heap.size,m.locs.toNat,P,CC,K,pp,cc,kk⟩ WA w6):=Lm.out.trans Fy;have wW:Hid (Hs w0 g w6 p D.h):=oA;have Cr:Hid (Cs w0 w6 ⟨w1.heap.size+1,w1.heap.size,m.locs.toNat,P,CC,K,pp,cc,kk⟩ D.c):=Fx;have iH:w6.cell? ⟨p,12,none⟩=some (.bool true):=(by obtain ⟨vo,vx,hv,X⟩:=oA;rw [X.cells.c12,br]);have Se:w6.cell? ⟨p,13,none⟩=some (int i64 D.h.thrown):=(by obtain ⟨vo,vx,hv,X⟩:=oA;exact X.cells.c13);clear oA Fx Fy;have MJ:=wW.out;obtain ⟨vo,vx,hv,HX⟩:=MJ;have c4:=HX.cells.c4;have f4:=HX.free 4;have rG:Hid (cD w0 g w6 p D.h vo vx hv):=HX;clear HX;have bx:=MA.out.fq HK.out Cp.out n3 n4;have r0:=bx.c0;have r1:=bx.c1;have r2:=bx.fr 0;have r3:=bx.fr 1;have jQ:Hid (aP w6 (w.heap.size+1) ag):=bx;clear bx)
        (try simp only [Exit.inBlock,Exit.then])
        refine bodyPost_ret (results_cell_row rfl _ _ (w.heap.size+1) _ _ _ _ rfl ((jQ.out.far Ai).set ag).blk Tryz.underlying62 rfl bp) rfl ?_
        rw [tI.out]
        exact ⟨rfl,⟨vo,vx,hv,(rG.out.leave HK.out).cf ((jQ.out.far Ai).cf HK.out bN _ _)⟩,((((Fq.fr MB.out Cp.out Jw K9).trans (rG.out.frSet 4 _)).new bV bN _).new bV bN _)⟩
     ·have tI:Hid (LP=((h2.fin 6).leave,ag)):=by
       show LP=_
       have e1:h2.mustB (decide (c1.pc<c1.m.code.length))=false:=by rw [kJ h2 Fm.out,ml.out];exact decide_eq_false oV
       have e2:h2.must (decide (c1.pc<c1.m.code.length))=h2.fin 6:=by rw [ml.out,decide_eq_false oV];rfl
       rw [R4.out]
       unfold gr
       rw [if_pos e1,e2]
      have D6:0<=(h2.fin 6).calls/\(h2.fin 6).calls<=20:=by rw [(gw h2 6).calls];exact G2.out.calls
      have hd:decide (c1.pc<m.code.length)=false:=decide_eq_false oV
      have wT:Hid (h2.mustB false=false):=rfl
      have sG:Hid (h2.must false=h2.fin 6):=rfl
      go_wp2_with (go_at_call 54;refine SA.out.mono ?_;rintro e w2 ⟨rfl,tf,f2⟩;have MC:Hid (Fq w0.heap.size g.T ⟨w1.heap.size+1,w1.heap.size,m.locs.toNat,P,CC,K,pp,cc,kk⟩ WA w2):=EG.out.trans f2.fq;have Dm:Hid (Hs w0 g w2 p h2):=tf;obtain ⟨AA,Fs,ME⟩:=R5.out.fr HK.out f2;have d10:w2.cell? ⟨w1.heap.size+1,10,none⟩=some (int i64 c1.pc):=ME.cells.c10;have m6:=(G8.out.fq HK.out MC.out n5 n6).cells.c6;clear ME)
      go_region_held3 (fun w'=>w'.cell? ⟨w1.heap.size+1,10,none⟩=some (int i64 c1.pc)/\w'.cell? ⟨w.heap.size,6,none⟩=some (.slice CC m.code.length cc))
       (go_keep)
       (first
        | (go_at_call 55;refine (bk w0 g HK.out p h2 false _ (by first|exact Dm.out.cf (Cf.drew (Cf.refl _ _ _))|exact Dm.out)).mono ?_;rintro e w3 ⟨he,QT,f3⟩;rw [wT.out] at he;subst he;rw [sG.out] at QT;have F3:Hid (Fr w0.heap.size g.T wr w3):=Fr.trans (Fr.trans f2 (Fr.drew (Fr.refl _ _ _))) f3;have Sk:Hid (Fq w0.heap.size g.T ⟨w1.heap.size+1,w1.heap.size,m.locs.toNat,P,CC,K,pp,cc,kk⟩ WA w3):=EG.out.trans F3.out.fq;obtain ⟨Yp,Yq,Us⟩:=R5.out.fr HK.out F3.out;have WE:w3.cell? ⟨w1.heap.size+1,10,none⟩=some (int i64 c1.pc):=Us.cells.c10;have Yr:=(G8.out.fq HK.out Sk.out n5 n6).cells.c6;clear Us;obtain ⟨vo,vx,hv,HX⟩:=QT;have c4:=HX.cells.c4;have f4:=HX.free 4;have rG:Hid (cD w0 g w3 p (h2.fin 6) vo vx hv):=HX;clear HX;have bx:=MA.out.fq HK.out Sk.out n3 n4;have r0:=bx.c0;have r1:=bx.c1;have r2:=bx.fr 0;have r3:=bx.fr 1;have jQ:Hid (aP w3 (w.heap.size+1) ag):=bx;clear bx))
      go_wp2
      (try simp only [Exit.inBlock,Exit.then])
      refine bodyPost_ret (results_cell_row rfl _ _ (w.heap.size+1) _ _ _ _ rfl ((jQ.out.far Ai).set ag).blk Tryz.underlying62 rfl bp) rfl ?_
      rw [tI.out]
      exact ⟨rfl,⟨vo,vx,hv,(rG.out.leave HK.out).cf ((jQ.out.far Ai).cf HK.out bN _ _)⟩,((((Fq.fr MB.out Sk.out Jw K9).trans (rG.out.frSet 4 _)).new bV bN _).new bV bN _)⟩
theorem JB (w0:World) (g:Ad) (p:Nat):∀N,sI w0 g p N:=by
 intro N
 induction N using Nat.strongRecOn with
 | ind N IH =>
  intro h m P CC K pp cc kk A ac lb l w hH E ho iX gh hme wU hok hl hg hA Qk hN
  unfold fX
  cases hb:h.enterB m l
  ·rw [if_neg (by decide)]
   exact My w0 g p h m P CC K pp cc kk A ac lb l w hH E ho gh hme hl hg hA hb
  ·rw [if_pos rfl]
   exact Jv w0 g p h m P CC K pp cc kk A ac lb l w hH E ho gh hme wU hok hl hg hA Qk hb iX N hN IH
def rT (t:Ty) (a:Int):Va:=⟨t.kind,if t.kind=1 then wrap32 a else a⟩
def dz:List Ty->List Int->List Va
 | t::l,a::k=>rT t a::dz l k
 | _,_=>[]
theorem iU:∀(l:List Ty) (k:List Int),l.length=k.length->(dz l k).length=l.length
 | [],[],_=>rfl
 | [],_::_,h=>by simp at h
 | _::_,[],h=>by simp at h
 | t::l,a::k,h=>by simp [dz,iU l k (by simpa using h)]
theorem sK:∀(l:List Ty) (k:List Int) (i:Nat),i<l.length->l.length=k.length->nth ag (dz l k) i=rT (nth cN l i) (nth (0:Int) k i)
 | [],_,i,h,_=>by simp at h
 | _::_,[],_,_,h=>by simp at h
 | t::l,a::k,0,_,_=>rfl
 | t::l,a::k,i+1,h,hl=>by
  show nth ag (dz l k) i=_
  rw [sK l k i (by simpa using h) (by simpa using hl)]
  rfl
def gR (l:List Ty):Bool:=l.any fun t=>decide (t.kind=3)
def gS (f:Fi) (entry:Int) (args input:List Int) (fuel:Int):Int :=
 if ¬(0<=entry/\entry<=(f.methods.length:Int)-1)∨¬(0<=fuel/\fuel<=60000) then 4
 else if 1000<input.length then 1
 else if args.length≠(nth bO f.methods entry.toNat).params.length then 3
 else if gR (nth bO f.methods entry.toNat).params=true then 3 else 0
abbrev pw (f:Fi) (A B:Option Addr) (a b:Nat):Obj:=.cells #[.slice A f.classes.length a,.slice B f.methods.length b] 25
section
variable (f:Fi) (A B I R:Option Addr) (a b i r:Nat) (entry fuel:Int) (args input:List Int) (w:World)
theorem wX (hm:f.methods.length<=maxLen) (he:¬(0<=entry/\entry<=(f.methods.length:Int)-1)∨¬(0<=fuel/\fuel<=60000)) :
  Calls Tryz.prog 25 #[fU f.classes.length f.methods.length A B a b,int i64 entry,.slice R args.length r,.slice I input.length i,int i64 fuel] w fun e w'=>e=.returned (.tuple #[.pointer none,.slice none 0 0,int i64 4])/\Bl w w':=by
 unfold maxLen at hm
 by_cases h1:0<=entry/\entry<=(f.methods.length:Int)-1
 ·have d1:decide (0<=entry/\entry<=(f.methods.length:Int)-1)=true:=decide_eq_true h1
  have d2:decide (0<=fuel/\fuel<=60000)=false:=decide_eq_false (by omega)
  have H1:Hid (decide (0<=entry/\entry<=(f.methods.length:Int)-1)=true):=d1
  have H2:Hid (decide (0<=fuel/\fuel<=60000)=false):=d2
  clear d1 d2 h1 he
  go_enter Tryz.func25,Tryz.ntmps25
  go_wp2_with (first
   | (go_at_call_of 20 (Value.int IntKind.i64 60000);refine (aE _ _ _ _).mono ?_;rintro e w1 ⟨he,hw1⟩;rw [H2.out] at he;subst he;rw [hw1];clear hw1 w1)
   | (go_at_call 20;refine (aE _ _ _ _).mono ?_;rintro e w1 ⟨he,hw1⟩;rw [H1.out] at he;subst he;rw [hw1];clear hw1 w1))
  exact bodyPost_ret (v:=.tuple #[.pointer none,.slice none 0 0,int i64 4]) (by simp [results,Tryz.results25,go_sem]) rfl ⟨rfl,(Bl.refl w).alloc _⟩
 ·have H1:Hid (decide (0<=entry/\entry<=(f.methods.length:Int)-1)=false):=decide_eq_false h1
  clear h1 he
  go_enter Tryz.func25,Tryz.ntmps25
  go_wp2_with (go_at_call 20;refine (aE _ _ _ _).mono ?_;rintro e w1 ⟨he,hw1⟩;rw [H1.out] at he;subst he;rw [hw1];clear hw1 w1)
  exact bodyPost_ret (v:=.tuple #[.pointer none,.slice none 0 0,int i64 4]) (by simp [results,Tryz.results25,go_sem]) rfl ⟨rfl,(Bl.refl w).alloc _⟩
theorem yT (hm:f.methods.length<=maxLen) (hi:input.length<=maxLen) (h1:0<=entry/\entry<=(f.methods.length:Int)-1) (h2:0<=fuel/\fuel<=60000) (h3:1000<input.length) :
  Calls Tryz.prog 25 #[fU f.classes.length f.methods.length A B a b,int i64 entry,.slice R args.length r,.slice I input.length i,int i64 fuel] w fun e w'=>e=.returned (.tuple #[.pointer none,.slice none 0 0,int i64 1])/\Bl w w':=by
 unfold maxLen at hm hi
 have H1:Hid (decide (0<=entry/\entry<=(f.methods.length:Int)-1)=true):=decide_eq_true h1
 have H2:Hid (decide (0<=fuel/\fuel<=60000)=true):=decide_eq_true h2
 have d3:decide (1000<input.length)=true:=decide_eq_true h3
 clear h1 h2 
 go_enter Tryz.func25,Tryz.ntmps25
 go_wp2_with (first
  | (go_at_call_of 20 (Value.int IntKind.i64 60000);refine (aE _ _ _ _).mono ?_;rintro e w1 ⟨he,hw1⟩;rw [H2.out] at he;subst he;rw [hw1];clear hw1 w1)
  | (go_at_call 20;refine (aE _ _ _ _).mono ?_;rintro e w1 ⟨he,hw1⟩;rw [H1.out] at he;subst he;rw [hw1];clear hw1 w1))
 exact bodyPost_ret (v:=.tuple #[.pointer none,.slice none 0 0,int i64 1]) (by simp [results,Tryz.results25,go_sem]) rfl ⟨rfl,(Bl.refl w).alloc _⟩
theorem Ct (hM:eE w B f.methods) (hi:input.length<=maxLen) (hr:args.length<=maxLen) (h1:0<=entry/\entry<=(f.methods.length:Int)-1) (h2:0<=fuel/\fuel<=60000) (h3:¬1000<input.length) (h4:args.length≠(nth bO f.methods entry.toNat).params.length) :
  Calls Tryz.prog 25 #[fU f.classes.length f.methods.length A B a b,int i64 entry,.slice R args.length r,.slice I input.length i,int i64 fuel] w fun e w'=>e=.returned (.tuple #[.pointer none,.slice none 0 0,int i64 3])/\Bl w w':=by
 unfold maxLen at hi
 obtain ⟨n,rfl⟩:∃n:Nat,entry=n:=⟨entry.toNat,by omega⟩
 have kx:n<f.methods.length:=by omega
 have jX:=hM.1
 unfold maxLen at jX
 rw [Int.toNat_natCast] at *
 obtain ⟨mb,mo,P,CC,K,pp,cc,kk,hB,⟨z0,z1,z2,z3,z4,z5,z6,z7⟩,hme⟩:=ja hM kx
 subst hB
 have kr:mb<w.heap.size:=bC z0
 have bl0:Bl w (w.alloc (pw f A (some ⟨mb,mo,none⟩) a b)):=(Bl.refl w).alloc _
 have y0:=bl0.cell z0
 have y1:=bl0.cell z1
 have y2:=bl0.cell z2
 have y3:=bl0.cell z3
 have y4:=bl0.cell z4
 have y5:=bl0.cell z5
 have y6:=bl0.cell z6
 have y7:=bl0.cell z7
 clear z0 z1 z2 z3 z4 z5 z6 z7 bl0
 have Sl:mb<w.heap.size+1:=by omega
 have H1:Hid (decide (0<=(n:Int)/\(n:Int)<=(f.methods.length:Int)-1)=true):=decide_eq_true h1
 have H2:Hid (decide (0<=fuel/\fuel<=60000)=true):=decide_eq_true h2
 have d3:decide ((1000:Int)<(input.length:Int))=false:=decide_eq_false (by omega)
 have kv:(0:Int)<=(n:Int):=by omega
 have kg:(n:Int)<(f.methods.length:Int):=by omega
 have Ia:=hme.1.1
 unfold maxLen at Ia
 unfold maxLen at hr
 generalize nth bO f.methods n=M at *
 have d4:((args.length:Int) !=(M.params.length:Int))=true:=by simp;omega
 clear h1 h2 h3 h4 hme hM
 go_enter Tryz.func25,Tryz.ntmps25
 go_wp2_with (first
  | (go_at_call_of 20 (Value.int IntKind.i64 60000);refine (aE _ _ _ _).mono ?_;rintro e w1 ⟨he,hw1⟩;rw [H2.out] at he;subst he;rw [hw1];clear hw1 w1)
  | (go_at_call 20;refine (aE _ _ _ _).mono ?_;rintro e w1 ⟨he,hw1⟩;rw [H1.out] at he;subst he;rw [hw1];clear hw1 w1))
 exact bodyPost_ret (v:=.tuple #[.pointer none,.slice none 0 0,int i64 3]) (by simp [results,Tryz.results25,go_sem]) rfl ⟨rfl,((Bl.refl w).alloc _).alloc _⟩
end
section
variable (l:List Ty) (k:List Int) (q:Nat)
theorem Cv (hq:q<l.length) (hl:l.length=k.length):dz (l.take (q+1)) (k.take (q+1))=dz (l.take q) (k.take q)++[rT (nth cN l q) (nth (0:Int) k q)]:=by
 induction l generalizing k q with
 | nil=>simp at hq
 | cons t l ih =>
  cases k with
  | nil=>simp at hl
  | cons a k =>
   cases q with
   | zero=>simp [dz,nth]
   | succ q =>
    have:=ih k q (by simpa using hq) (by simpa using hl)
    have e1:nth cN (t::l) (q+1)=nth cN l q:=by simp [nth]
    have e2:nth (0:Int) (a::k) (q+1)=nth (0:Int) k q:=by simp [nth]
    rw [e1,e2]
    simp only [List.take_succ_cons,dz,this,List.cons_append]
theorem tN (hq:q<=l.length) (hl:l.length=k.length):(dz (l.take q) (k.take q)).length=q:=by
 rw [iU _ _ (by simp;omega)];simp;omega
end
def fH (f:Fi) (input:List Int) (fuel:Int):Hp:=⟨f,[],input,0,fuel,⟨0,0,0,[],0,0⟩,false,-1⟩
def qP (W0:World) (f:Fi) (A B I:Option Addr) (a b i:Nat) (fuel:Int) (input:List Int) (l:List Va) (w:World) (e:Ending) (w':World):Prop :=
 ∃p L lc,e=.returned (.tuple #[.pointer (some ⟨p,0,none⟩),.slice L l.length lc,int i64 0])/\cD W0 ⟨A,a,B,b,I,i,74⟩ w' p (fH f input fuel) (.slice none 0 0) (.slice none 0 0) []/\bG w.heap.size w' L l/\l.length<=lc/\Bl w w'
def kp (W0:World) (f:Fi) (A B I:Option Addr) (a b i:Nat) (fuel:Int) (input:List Int) (ps:List Ty) (args:List Int) (w:World) (e:Ending) (w':World):Prop :=
 if gR ps=true then e=.returned (.tuple #[.pointer none,.slice none 0 0,int i64 3])/\Bl w w' else qP W0 f A B I a b i fuel input (dz ps args) w e w'
theorem Fz {base:Nat} {e:TypeId} {size n:Nat} {v:Value} {xs:List Value} (h:w.ownsRow base e size v n xs) (hk:v.ownBlock=some k):base<=k:=(h.lt k hk).1
theorem wY (W0:World) (f:Fi) (A B I R:Option Addr) (a b i r:Nat) (entry fuel:Int) (args input:List Int) (w:World) (hW:Bl W0 w) (hM:eE w B f.methods) (hi:input.length<=maxLen) (hR:cL w R args) (h1:0<=entry/\entry<=(f.methods.length:Int)-1) (h2:0<=fuel/\fuel<=60000) (h3:¬1000<input.length) (h4:args.length=(nth bO f.methods entry.toNat).params.length) (h5:(nth bO f.methods entry.toNat).params.length<=4) :
  Calls Tryz.prog 25 #[fU f.classes.length f.methods.length A B a b,int i64 entry,.slice R args.length r,.slice I input.length i,int i64 fuel] w fun e w' =>
   kp W0 f A B I a b i fuel input (nth bO f.methods entry.toNat).params args w e w':=by
 unfold maxLen at hi
 obtain ⟨n,rfl⟩:∃n:Nat,entry=n:=⟨entry.toNat,by omega⟩
 have kx:n<f.methods.length:=by omega
 have jX:=hM.1
 unfold maxLen at jX
 rw [Int.toNat_natCast] at *
 obtain ⟨mb,mo,P,CC,K,pp,cc,kk,hB,⟨z0,z1,z2,z3,z4,z5,z6,z7⟩,hme⟩:=ja hM kx
 subst hB
 have kr:mb<w.heap.size:=bC z0
 have bl0:Bl w (w.alloc (pw f A (some ⟨mb,mo,none⟩) a b)):=(Bl.refl w).alloc _
 have y0:=bl0.cell z0
 have y1:=bl0.cell z1
 have y2:=bl0.cell z2
 have y3:=bl0.cell z3
 have y4:=bl0.cell z4
 have y5:=bl0.cell z5
 have y6:=bl0.cell z6
 have y7:=bl0.cell z7
 clear z0 z1 z2 z3 z4 z5 z6 z7 bl0
 have Sl:mb<w.heap.size+1:=by omega
 have H1:Hid (decide (0<=(n:Int)/\(n:Int)<=(f.methods.length:Int)-1)=true):=decide_eq_true h1
 have H2:Hid (decide (0<=fuel/\fuel<=60000)=true):=decide_eq_true h2
 have d3:decide ((1000:Int)<(input.length:Int))=false:=decide_eq_false (by omega)
 have kv:(0:Int)<=(n:Int):=by omega
 have kg:(n:Int)<(f.methods.length:Int):=by omega
 have Ia:=hme.1.1
 unfold maxLen at Ia
 obtain ⟨i0,th,sj,tj,tl⟩:=info_parts nP
 generalize nth bO f.methods n=M at *
 have d4:((args.length:Int) !=(M.params.length:Int))=false:=by simp;omega
 have RJ:Hid (∀wr,Bl w wr->dp wr P M.params):=fun wr hb=>hme.1.bl hb
 have WG:Hid (∀wr,Bl w wr->cL wr R args):=fun wr hb=>hR.bl hb
 have H4:Hid (args.length=M.params.length):=h4
 clear h1 h2 h3 hme hM hR h4
 have C0:Hid (((w.alloc (pw f A (some ⟨mb,mo,none⟩) a b)).alloc (dH M P CC K pp cc kk)).cell? ⟨w.heap.size+1,0,none⟩=some (.slice P M.params.length pp)):=aa (cd (by simp))
 have C1:Hid (((w.alloc (pw f A (some ⟨mb,mo,none⟩) a b)).alloc (dH M P CC K pp cc kk)).cell? ⟨w.heap.size,0,none⟩=some (.slice A f.classes.length a)):=(aa (iG (by simp) (cd rfl))).trans rfl
 have C2:Hid (((w.alloc (pw f A (some ⟨mb,mo,none⟩) a b)).alloc (dH M P CC K pp cc kk)).cell? ⟨w.heap.size,1,none⟩=some (.slice (some ⟨mb,mo,none⟩) f.methods.length b)):=(aa (iG (by simp) (cd rfl))).trans rfl
 go_enter Tryz.func25,Tryz.ntmps25
 go_wp2_with (first
  | (go_at_call_of 20 (Value.int IntKind.i64 60000);refine (aE _ _ _ _).mono ?_;rintro e w1 ⟨he,hw1⟩;rw [H2.out] at he;subst he;rw [hw1];clear hw1 w1)
  | (go_at_call 20;refine (aE _ _ _ _).mono ?_;rintro e w1 ⟨he,hw1⟩;rw [H1.out] at he;subst he;rw [hw1];clear hw1 w1))
 go_loopw [14,15] (fun u i wr=>∃q:Nat,q<=M.params.length/\i=int i64 q/\Hid (Bl ((w.alloc (pw f A (some ⟨mb,mo,none⟩) a b)).alloc (dH M P CC K pp cc kk)) wr)/\wr.cell? ⟨w.heap.size+1,0,none⟩=some (.slice P M.params.length pp)/\wr.cell? ⟨w.heap.size,0,none⟩=some (.slice A f.classes.length a)/\wr.cell? ⟨w.heap.size,1,none⟩=some (.slice (some ⟨mb,mo,none⟩) f.methods.length b)/\w.heap.size+1<wr.heap.size/\Hid (wr.ownsRow (w.heap.size+2) 62 2 u q (aL (dz (M.params.take q) (args.take q))))/\Hid (∀j,j<q->(nth cN M.params j).kind≠3)) (fun _ i _=>args.length-(intOf i).toNat)
 case atStart=>exact ⟨0,Nat.zero_le _,rfl,Bl.refl _,aa (cd (by simp)),(aa (iG (by simp) (cd rfl))).trans rfl,(aa (iG (by simp) (cd rfl))).trans rfl,by simp,⟨rfl,Or.inl ⟨rfl,rfl⟩⟩,fun j hj=>absurd hj (by omega)⟩
 case round =>
  obtain ⟨q,hq,rfl,hgx,c0,g0,g1,hsz,hO,hk⟩:=hrel
  have hg:Hid (Bl w wr):=Bl.trans (((Bl.refl w).alloc _).alloc _) hgx.out
  by_cases eR:q<M.params.length
  ·have Cj:q<args.length:=by rw [H4.out];exact eR
   rcases (RJ.out wr hg.out).2 with h0|⟨xb,xo,Jq,hcell⟩
   ·omega
   obtain ⟨t0,-⟩:=hcell q eR
   rcases (WG.out wr hg.out).2 with h0|⟨rb,ro,WH,hrc⟩
   ·omega
   have r0:=(hrc q Cj).1
   rw [Jq] at c0
   have T2:Hid (P=some ⟨xb,xo,none⟩):=Jq
   subst WH
   have Ut:=Cv M.params args q eR H4.out.symm
   have Pd:Hid (dz (M.params.take (q+1)) (args.take (q+1))=dz (M.params.take q) (args.take q)++[rT (nth cN M.params q) (nth (0:Int) args q)]):=Ut
   have Sm:Hid ((nth cN M.params q).kind≠3->∀j,j<q+1->(nth cN M.params j).kind≠3):=fun h3 j hj=>by
    by_cases e:j=q
    ·rw [e];exact h3
    ·exact hk.out j (by omega)
   have Sn:Hid ((nth cN M.params q).kind=3->gR M.params=true):=fun h3=>by
    show gR M.params=true
    unfold gR
    rw [List.any_eq_true]
    exact ⟨_,bJ eR,decide_eq_true h3⟩
   have Ys:=bC t0
   have Yt:=bC r0
   have Yv:args.length<=2 ^ 63-1:=by have:=H4.out;omega
   have cV:(0:Int)<=(q:Int):=by omega
   have mN:(q:Int)<(M.params.length:Int):=by omega
   have qN:(q:Int)<(args.length:Int):=by omega
   clear hcell hrc Jq Ut hk
   generalize nth cN M.params q=t at *
   generalize nth (0:Int) args q=av at *
   by_cases h3:t.kind=3
   ·have hz:(t.kind==3)=true:=by simpa using h3
    have WI:Hid (gR M.params=true):=Sn.out h3
    clear h3
    go_wp2
    refine bodyPost_ret (v:=.tuple #[.pointer none,.slice none 0 0,int i64 3]) (by simp [results,Tryz.results25,go_sem]) rfl ?_
    unfold kp
    rw [if_pos WI.out]
    exact ⟨rfl,hg.out⟩
   ·have hz:(t.kind==3)=false:=by simpa using h3
    have Lc:Hid (∀j,j<q+1->(nth cN M.params j).kind≠3):=Sm.out h3
    clear h3
    by_cases MK:t.kind=1
    ·have Sp:Hid (rT t av=⟨1,wrap32 av⟩):=by show rT t av=_;unfold rT;rw [if_pos MK,MK]
     rw [MK] at t0 hz
     clear MK
     go_wp2
     go_region_held3 (fun w'=>w'.cell? ⟨w.heap.size+1,0,none⟩=some (.slice (some ⟨xb,xo,none⟩) M.params.length pp)/\w'.cell? ⟨xb,xo+q*2,none⟩=some (int i64 1)/\w'.cell? ⟨rb,ro+q,none⟩=some (int i64 av))
      (go_keep)
      (fail)
     go_wp2_with (first
      | (go_at_call 50;refine (lh _ _).mono ?_;rintro e w3 ⟨rfl,lH⟩;rw [lH];clear lH w3)
      | (at_builtin;refine wpList_append_lies _ rfl (.tmp 76) (.tmp 78) 58 rfl (w.heap.size+2) 62 i0 _ 2 16 Tryz.underlying58 th sj tj tl rfl (by omega) u14 q (aL (dz (M.params.take q) (args.take q))) (by rfl) (by exact ((hO.out.alloc _).alloc _).drew) ⟨wr.heap.size+1,0,none⟩ 1 1 [int i64 1,int i64 (wrap32 av)] (by rfl) (by rfl) (World.news_of_block (cs:=#[int i64 1,int i64 (wrap32 av)]) (t:=62) (fr:=(0,0)) (cd (w:=wr.alloc (.cells #[int i64 1,int i64 (wrap32 av)] 62)) (by simp))) (by simp [Value.oneCell']) (by omega) (by unfold maxLen;omega) (by omega) (by simp;omega) (wr.heap.size+1+1) (by simp) ?_;intro gg cap w7 lF bL hat hlt;have FC:Bl ((w.alloc (pw f A (some ⟨mb,mo,none⟩) a b)).alloc (dH M P CC K pp cc kk)) w7:=nQ (((hgx.out.alloc _).alloc _).drew) bL (fun k' Hq=>by have:=Fz hO.out Hq;simp;omega);have B7:Hid (Bl ((w.alloc (pw f A (some ⟨mb,mo,none⟩) a b)).alloc (dH M P CC K pp cc kk)) w7):=FC;have e0:=FC.cell C0.out;have e1:=FC.cell C1.out;have e2:=FC.cell C2.out;have e3:w.heap.size+2<=w7.heap.size:=(by have:=FC.size;simp at this;omega)))
     go_roundw
     case rel=>exact ⟨q+1,by omega,by go_num,B7,e0,e1,e2,by omega,by
      show World.ownsRow _ _ _ _ _ _ _
      rw [Pd.out,Sp.out,fe]
      exact lF,Lc⟩
     case measure=>simp [intOf];omega
    ·have WJ:(t.kind==1)=false:=by simpa using MK
     have Sp:Hid (rT t av=⟨t.kind,av⟩):=by show rT t av=_;unfold rT;rw [if_neg MK]
     clear MK
     go_wp2
     go_region_held3 (fun w'=>w'.cell? ⟨w.heap.size+1,0,none⟩=some (.slice (some ⟨xb,xo,none⟩) M.params.length pp)/\w'.cell? ⟨xb,xo+q*2,none⟩=some (int i64 t.kind)/\w'.cell? ⟨rb,ro+q,none⟩=some (int i64 av))
      (go_keep)
      (fail)
     go_wp2_with (first
      | (at_builtin;refine wpList_append_lies _ rfl (.tmp 76) (.tmp 78) 58 rfl (w.heap.size+2) 62 i0 _ 2 16 Tryz.underlying58 th sj tj tl rfl (by omega) u14 q (aL (dz (M.params.take q) (args.take q))) (by rfl) (by exact ((hO.out.alloc _).alloc _).drew) ⟨wr.heap.size+1,0,none⟩ 1 1 [int i64 t.kind,int i64 av] (by rfl) (by rfl) (World.news_of_block (cs:=#[int i64 t.kind,int i64 av]) (t:=62) (fr:=(0,0)) (cd (w:=wr.alloc (.cells #[int i64 t.kind,int i64 av] 62)) (by simp))) (by simp [Value.oneCell']) (by omega) (by unfold maxLen;omega) (by omega) (by simp;omega) (wr.heap.size+1+1) (by simp) ?_;intro gg cap w7 lF bL hat hlt;have FC:Bl ((w.alloc (pw f A (some ⟨mb,mo,none⟩) a b)).alloc (dH M P CC K pp cc kk)) w7:=nQ (((hgx.out.alloc _).alloc _).drew) bL (fun k' Hq=>by have:=Fz hO.out Hq;simp;omega);have B7:Hid (Bl ((w.alloc (pw f A (some ⟨mb,mo,none⟩) a b)).alloc (dH M P CC K pp cc kk)) w7):=FC;have e0:=FC.cell C0.out;have e1:=FC.cell C1.out;have e2:=FC.cell C2.out;have e3:w.heap.size+2<=w7.heap.size:=(by have:=FC.size;simp at this;omega)))
     go_roundw
     case rel=>exact ⟨q+1,by omega,by go_num,B7,e0,e1,e2,by omega,by
      show World.ownsRow _ _ _ _ _ _ _
      rw [Pd.out,Sp.out,fe]
      exact lF,Lc⟩
     case measure=>simp [intOf];omega
  ·obtain rfl:q=M.params.length:=by omega
   have WK:Hid (gR M.params=false):=by
    show gR M.params=false
    unfold gR
    rw [List.any_eq_false]
    intro x hx
    obtain ⟨j,hj,rfl⟩:=List.getElem_of_mem hx
    have:=hk.out j hj
    rw [bU hj] at this
    simpa using this
   have hlen:=tN M.params args M.params.length (Nat.le_refl _) H4.out.symm
   rw [List.take_length,<-H4.out,List.take_length,H4.out] at hlen
   have Qs:=hO.out
   rw [List.take_length,<-H4.out,List.take_length,H4.out] at Qs
   obtain ⟨L,lc,rfl,Lq,ma⟩:∃L lc,u14=.slice L M.params.length lc/\(∀wz,Bl wr wz->bG w.heap.size wz L (dz M.params args))/\M.params.length<=lc:=by
    rcases Qs.2 with ⟨e1,e2⟩|⟨gb,cp,cur,e1,e2,e3,e4,-⟩
    ·exact ⟨none,0,by rw [e1,e2],fun wz hb=>Or.inl (by omega),by omega⟩
    ·subst e1
     exact ⟨_,cp,rfl,fun wz hb=>((Aa Qs (lb:=w.heap.size) (by omega) hlen.symm).1).keep fun b cs f e _=>(hb.block _ (af e)).trans e,e4⟩
   have gx:Hid (∀wz,Bl wr wz->bG w.heap.size wz L (dz M.params args)):=Lq
   have om:Hid ((dz M.params args).length=M.params.length):=hlen
   have wq:Hid (M.params.length<=lc):=ma
   have WL:args.length<=M.params.length:=by have:=H4.out;omega
   clear Qs hlen Lq ma hk
   go_wp2
   refine bodyPost_ret (v:=.tuple #[.pointer (some ⟨wr.heap.size,0,none⟩),.slice L M.params.length lc,int i64 0]) (by simp [results,Tryz.results25,go_sem]) rfl ?_
   unfold kp
   rw [if_neg (by rw [WK.out];decide)]
   have Uv:Bl W0 wr:=hW.trans hg.out
   refine ⟨wr.heap.size,L,lc,by rw [om.out],⟨Uv.size,cd rfl,Uv.alloc _,⟨rfl,Or.inl ⟨rfl,rfl⟩⟩,⟨rfl,⟨rfl,Or.inl ⟨rfl,rfl⟩⟩,fun i hi=>absurd hi (by simp [fH]),fun i j hi=>absurd hi (by simp [fH])⟩⟩,gx.out _ ((Bl.refl _).alloc _),by rw [om.out];exact wq.out,hg.out.alloc _⟩
def Hp.doneH (h:Hp) (v:Va):Hp :=
 if h.over=true then h
 else if 0<=h.thrown then { h with sh:={ h.sh with fin:=2,cls:=(h.obj h.thrown).cls } }
 else if v.kind=1∨v.kind=2 then { h with sh:={ h.sh with fin:=1,value:=v.n } } else { h with sh:={ h.sh with fin:=1 } }
abbrev Qt (s:Sh) (vx:Value):Value:=.agg #[int i64 s.fin,int i64 s.value,int i64 s.cls,vx,int i64 s.used,int i64 s.steps]
abbrev vH:Obj:=.cells #[int i64 0,int i64 0,int i64 0,.slice none 0 0,int i64 0,int i64 0] 28
theorem kL:(Tryz.prog.info? 28).map (·.size)=some 6:=by kernel_rfl
structure mE (w:World) (b:Nat) (cs:Array Value):Prop where
 blk:w.heap[b]?=some (.cells cs 28 (0,0))
theorem mE.six {a0 a1 a2 a3 a4 a5:Value} (h:mE w b #[a0,a1,a2,a3,a4,a5]) (s:Sh) (vx:Value) :
  mE ((((((w.setCell ⟨b,0,none⟩ (int i64 s.fin)).setCell ⟨b,1,none⟩ (int i64 s.value)).setCell ⟨b,2,none⟩ (int i64 s.cls)).setCell ⟨b,3,none⟩ vx).setCell ⟨b,4,none⟩ (int i64 s.used)).setCell ⟨b,5,none⟩ (int i64 s.steps)) b #[int i64 s.fin,int i64 s.value,int i64 s.cls,vx,int i64 s.used,int i64 s.steps] :=
 ⟨by rw [ax (ax (ax (ax (ax (ax h.blk _) _) _) _) _)];rfl⟩
theorem mE.cf {B:Nat} {T:TypeId} {cs:Array Value} (h:mE w b cs) (k:¬jP T 28) (hB:B<=b) (a0 a1 a2 a3 a4 a5:Value) :
  Cf B T w ((((((w.setCell ⟨b,0,none⟩ a0).setCell ⟨b,1,none⟩ a1).setCell ⟨b,2,none⟩ a2).setCell ⟨b,3,none⟩ a3).setCell ⟨b,4,none⟩ a4).setCell ⟨b,5,none⟩ a5) :=
 ((((((Cf.refl B T w).set h.blk k hB a0).set (ax h.blk _) k hB a1).set (ax (ax h.blk _) _) k hB a2).set (ax (ax (ax h.blk _) _) _) k hB a3).set (ax (ax (ax (ax h.blk _) _) _) _) k hB a4).set (ax (ax (ax (ax (ax h.blk _) _) _) _) _) k hB a5
theorem FE (w0:World) (g:Ad) (k:Tk g.T) (Yw:g.T≠28) (p:Nat) (h:Hp) (v:Va) (w:World) (vo vx:Value) (hv:List Value) (H:cD w0 g w p h vo vx hv) (ht:h.thrown<h.objs.length) :
  Calls Tryz.prog 27 #[.pointer (some ⟨p,0,none⟩),iE v] w fun e w'=>e=.returned (Qt (h.doneH v).sh vx)/\cD w0 g w' p (h.doneH v) vo vx hv/\Fr w0.heap.size g.T w w':=by
 have cI:=H.base
 have yQ:=af H.blk
 have WM:p<w.heap.size+1:=by omega
 have HX:Hid (cD w0 g w p h vo vx hv):=H
 have HK:Hid (Tk g.T):=k
 have c:=H.cells
 have c6:=c.c6
 have c7:=c.c7
 have c8:=c.c8
 have c9:=c.c9
 have c10:=c.c10
 have c11:=c.c11
 have c12:=c.c12
 have c13:=c.c13
 have c2:=c.c2
 have f:=H.free
 clear H c
 obtain ⟨xa,xn,xc,rfl⟩:∃xa xn xc,vx=.slice xa xn xc:=by
  rcases HX.out.out.2 with ⟨e,-⟩|⟨gb,cp,cur,e,-⟩
  ·exact ⟨_,_,_,e⟩
  ·exact ⟨_,_,_,e⟩
 cases br:h.over
 ·rw [br] at c12
  by_cases h0:0<=h.thrown
  ·have hr:h.doneH v={ h with sh:={ h.sh with fin:=2,cls:=(h.obj h.thrown).cls } }:=by unfold Hp.doneH;rw [if_neg (by rw [br];decide),if_pos h0]
   rw [hr]
   clear hr
   have hd:decide (0<=h.thrown)=true:=decide_eq_true h0
   obtain ⟨n,hn⟩:∃n:Nat,h.thrown=n:=⟨h.thrown.toNat,by omega⟩
   have kx:n<h.objs.length:=by omega
   obtain ⟨gb,cap,mY,-,yE,hcc⟩:=kj HX.out.obs (by omega)
   have o1:=(hcc n kx).1
   unfold maxLen at yE
   have HO:Hid ((h.obj h.thrown).cls=(nth cB h.objs n).cls):=by show (h.obj h.thrown).cls=_;unfold Hp.obj;rw [hn,Int.toNat_natCast]
   have Qv:gb≠p:=by
    intro e
    rcases HX.out.obs.row.2 with ⟨h1,h2⟩|⟨Yx,Yy,WN,h1,h2,h3,-⟩
    ·omega
    ·rw [mY] at h1
     simp only [Value.slice.injEq,Option.some.injEq,Addr.mk.injEq] at h1
     obtain ⟨⟨rfl,-,-⟩,-,-⟩:=h1
     rw [e,HX.out.blk] at h3
     simp at h3
     exact HK.out.o h3.2
   have WO:p≠gb:=Ne.symm Qv
   have Vk:=bC o1
   have WQ:gb<w.heap.size+1:=by omega
   have kv:(0:Int)<=(n:Int):=by omega
   have kg:(n:Int)<(h.objs.length:Int):=by omega
   rw [mY] at c2
   have Sq:=c13
   rw [hn] at Sq
   rw [hn] at hd
   have HN:Hid (h.thrown=n):=hn
   clear hcc hn c13 h0
   rw [HO.out]
   generalize (nth cB h.objs n).cls=X at *
   have H1:=HX.out.set HK.out (i:=6) (v:=int i64 2) { h with sh:={ h.sh with fin:=2 } } rfl rfl rfl
   have Ah:Hid (cD w0 g (w.setCell ⟨p,6,none⟩ (int i64 2)) p { h with sh:={ h.sh with fin:=2 } } vo (.slice xa xn xc) hv):=H1
   have bA:Bl (w.setCell ⟨p,6,none⟩ (int i64 2)) (((w.setCell ⟨p,6,none⟩ (int i64 2)).alloc (cT v)).alloc vH):=((Bl.refl _).alloc _).alloc _
   have a2:=bA.cell (H1.cells.c2)
   rw [mY] at a2
   have WR:=bA.cell (H1.cells.c13)
   rw [show ({ h with sh:={ h.sh with fin:=2 } }:Hp).thrown=(n:Int) from HN.out] at WR
   have ao:(((w.setCell ⟨p,6,none⟩ (int i64 2)).alloc (cT v)).alloc vH).cell? ⟨gb,n*2,none⟩=some (int i64 X):=bA.cell ((World.cell?_of_block (aA Qv _)).trans o1)
   have H2:=H1.set HK.out (i:=8) (v:=int i64 X) { h with sh:={ h.sh with fin:=2,cls:=X } } rfl rfl rfl
   have Uw:Hid (cD w0 g ((w.setCell ⟨p,6,none⟩ (int i64 2)).setCell ⟨p,8,none⟩ (int i64 X)) p { h with sh:={ h.sh with fin:=2,cls:=X } } vo (.slice xa xn xc) hv):=H2
   have bB:Bl ((w.setCell ⟨p,6,none⟩ (int i64 2)).setCell ⟨p,8,none⟩ (int i64 X)) ((((w.setCell ⟨p,6,none⟩ (int i64 2)).setCell ⟨p,8,none⟩ (int i64 X)).alloc (cT v)).alloc vH):=((Bl.refl _).alloc _).alloc _
   have b2:=bB.cell (H2.cells.c2)
   rw [mY] at b2
   have WS:=bB.cell (H2.cells.c13)
   rw [show ({ h with sh:={ h.sh with fin:=2,cls:=X } }:Hp).thrown=(n:Int) from HN.out] at WS
   have bo:((((w.setCell ⟨p,6,none⟩ (int i64 2)).setCell ⟨p,8,none⟩ (int i64 X)).alloc (cT v)).alloc vH).cell? ⟨gb,n*2,none⟩=some (int i64 X):=bB.cell ((World.cell?_of_block (aA Qv _)).trans ((World.cell?_of_block (aA Qv _)).trans o1))
   have Sr:Hid (h.over=false):=br
   clear H1 H2 bA bB br mY
   go_enter Tryz.func27,Tryz.ntmps27
   go_wp2
   go_region_held3 (fun w'=>w'.cell? ⟨p,2,none⟩=some (.slice (some ⟨gb,0,none⟩) h.objs.length cap)/\w'.cell? ⟨p,13,none⟩=some (int i64 (n:Int))/\w'.cell? ⟨gb,n*2,none⟩=some (int i64 X))
    (go_keep)
    (fail)
   go_wp2
   (try simp only [Exit.inBlock,Exit.then])
   have hfin:=fun (cs:Array Value)=>(cd (by simp):((((w.setCell ⟨p,6,none⟩ (int i64 2)).setCell ⟨p,8,none⟩ (int i64 X)).alloc (cT v)).alloc (.cells cs 28)).heap[w.heap.size+1]?=some (.cells cs 28 (0,0)))
   refine bodyPost_ret (results_cell_row rfl _ _ (w.heap.size+1) _ _ _ _ rfl (hfin _) Tryz.underlying28 rfl kL) rfl ?_
   have FA:=(HX.out.frSet 6 (int i64 2)).trans (Ah.out.frSet 8 (int i64 X))
   exact ⟨rfl,Uw.out.old (((Bl.refl _).alloc _).alloc _).drew,FA.trans (Fr.old Uw.out.base (((Bl.refl _).alloc _).alloc _).drew)⟩
  ·have hd:decide (0<=h.thrown)=false:=decide_eq_false h0
   by_cases hk:v.kind=1∨v.kind=2
   ·have hr:h.doneH v={ h with sh:={ h.sh with fin:=1,value:=v.n } }:=by unfold Hp.doneH;rw [if_neg (by rw [br];decide),if_neg h0,if_pos hk]
    rw [hr]
    have Sr:Hid (h.over=false):=br
    clear hr br
    obtain ⟨vk,vn⟩:=v
    dsimp only at *
    rcases hk with rfl|rfl
    ·go_enter Tryz.func27,Tryz.ntmps27
     go_wp2
     (try simp only [Exit.inBlock,Exit.then])
     refine bodyPost_ret (results_cell_row rfl _ _ (w.heap.size+1) _ _ _ _ rfl (cd (by simp)) Tryz.underlying28 rfl kL) rfl ?_
     have H1:=HX.out.set HK.out (i:=6) (v:=int i64 1) { h with sh:={ h.sh with fin:=1 } } rfl rfl rfl
     have H2:=H1.set HK.out (i:=7) (v:=int i64 vn) { h with sh:={ h.sh with fin:=1,value:=vn } } rfl rfl rfl
     have FA:=(HX.out.frSet 6 (int i64 1)).trans (H1.frSet 7 (int i64 vn))
     exact ⟨rfl,H2.old (((Bl.refl _).alloc _).alloc _),FA.trans (Fr.old H2.base (((Bl.refl _).alloc _).alloc _))⟩
    ·go_enter Tryz.func27,Tryz.ntmps27
     go_wp2
     (try simp only [Exit.inBlock,Exit.then])
     refine bodyPost_ret (results_cell_row rfl _ _ (w.heap.size+1) _ _ _ _ rfl (cd (by simp)) Tryz.underlying28 rfl kL) rfl ?_
     have H1:=HX.out.set HK.out (i:=6) (v:=int i64 1) { h with sh:={ h.sh with fin:=1 } } rfl rfl rfl
     have H2:=H1.set HK.out (i:=7) (v:=int i64 vn) { h with sh:={ h.sh with fin:=1,value:=vn } } rfl rfl rfl
     have FA:=(HX.out.frSet 6 (int i64 1)).trans (H1.frSet 7 (int i64 vn))
     exact ⟨rfl,H2.old (((Bl.refl _).alloc _).alloc _),FA.trans (Fr.old H2.base (((Bl.refl _).alloc _).alloc _))⟩
   ·have hr:h.doneH v={ h with sh:={ h.sh with fin:=1 } }:=by unfold Hp.doneH;rw [if_neg (by rw [br];decide),if_neg h0,if_neg hk]
    rw [hr]
    have Sr:Hid (h.over=false):=br
    clear hr br
    have k1:(v.kind==1)=false:=by simp;omega
    have k2:(v.kind==2)=false:=by simp;omega
    clear hk
    go_enter Tryz.func27,Tryz.ntmps27
    go_wp2
    (try simp only [Exit.inBlock,Exit.then])
    refine bodyPost_ret (results_cell_row rfl _ _ (w.heap.size+1) _ _ _ _ rfl (cd (by simp)) Tryz.underlying28 rfl kL) rfl ?_
    have H1:=HX.out.set HK.out (i:=6) (v:=int i64 1) { h with sh:={ h.sh with fin:=1 } } rfl rfl rfl
    exact ⟨rfl,H1.old (((Bl.refl _).alloc _).alloc _),(HX.out.frSet 6 _).trans (Fr.old H1.base (((Bl.refl _).alloc _).alloc _))⟩
 ·rw [br] at c12
  have hr:h.doneH v=h:=by unfold Hp.doneH;rw [if_pos br]
  rw [hr]
  have Sr:Hid (h.over=true):=br
  clear hr br
  go_enter Tryz.func27,Tryz.ntmps27
  go_wp2
  (try simp only [Exit.inBlock,Exit.then])
  refine bodyPost_ret (results_cell_row rfl _ _ (w.heap.size+1) _ _ _ _ rfl (cd (by simp)) Tryz.underlying28 rfl kL) rfl ?_
  exact ⟨rfl,HX.out.old (((Bl.refl _).alloc _).alloc _),Fr.old cI (((Bl.refl _).alloc _).alloc _)⟩
end Go.Proofs.YtgiiapenmjollaaGreat
