import Derived.Test.YtimjmdfokicbkaaGreatSram
namespace Go.Proofs.YtimjmdfokicbkaaGreat
set_option linter.unusedVariables false
set_option linter.unusedSimpArgs false
set_option maxHeartbeats 40000000
set_option maxRecDepth 100000
open Go.RowKit
open Go.Value (int)
open Go.IntKind (i64)
variable {g:Ad} {h:Hp} {l:List Va} {b p:Nat} {w w0:World}
theorem sG:∀(l:List Va) (l0:List Va) (fk:Nat) (v:Va),dS l0 fk (l++[v])=eu (dS l0 fk l) (fk+aP l) v
 | [],l0,fk,v=>by simp [dS,aP]
 | x::l,l0,fk,v=>by
  show dS (eu l0 fk x) (fk+aP [x]) (l++[v])=eu (dS (eu l0 fk x) (fk+aP [x]) l) (fk+aP (x::l)) v
  rw [sG l]
  have:fk+aP [x]+aP l=fk+aP (x::l):=by simp [aP];omega
  rw [this]
theorem qL {k:Nat} (h:k<l.length):l.take (k+1)=l.take k++[nth ag l k]:=by
 rw [List.take_succ_eq_append_getElem h,bP h]
theorem Cn {m:Me} (wT:eX h.file.classes h.file.methods.length m=true) (hl:l.length=m.params.length) (hg:∀v∈l,iJ h v) (he:h.enterL l m.params=true) (k:Nat) (hk:k≤l.length) :
  gZ (dS (List.replicate m.locs.toNat ag) 0 (l.take k))/\(dS (List.replicate m.locs.toNat ag) 0 (l.take k)).length=m.locs.toNat/\(aP (l.take k):Int)≤m.locs /\
  (k<l.length->(aP (l.take k):Int)<m.locs/\((nth ag l k).kind=2->(aP (l.take k):Int)+1<m.locs)):=by
 obtain ⟨p1,p2,p3,p4,p5,p6,p7,p8,p9,Io,KQ⟩:=jh wT
 obtain ⟨s1,s2⟩:=g5 h h.file.classes.length l m.params hl he p9
 have hle:=jJ l k
 obtain ⟨k1,k2,k3⟩:=oa h (l.take k) (List.replicate m.locs.toNat ag) 0 (D2 _) (fun x hx=>by rw [List.eq_of_mem_replicate hx];exact lg h) (fun x hx=>hg x (List.mem_of_mem_take hx)) (fun x hx=>s2 x (List.mem_of_mem_take hx)) (by rw [List.length_replicate];omega)
 refine ⟨k1,by rw [k3,List.length_replicate],by omega,fun hlt=>?_⟩
 have h1:=jJ l (k+1)
 rw [qL hlt,jI,kF] at h1
 split at h1
 ·omega
 ·exact ⟨by omega,fun e=>by contradiction⟩
theorem eM.hs {w':World} (H:Hs w0 g w p h) (o:eM b w w') (k:Tk g.T) (L:cv w b l) (hb:w0.heap.size≤b):Hs w0 g w' p h:=H.cf (o.cf k L hb H.base)
theorem bG.only {lb:Nat} {w':World} {A:Option Addr} (h:bG lb w A l) (o:eM b w w') (N:Nat) (hN:N≤b) (he:∀x y cs f,A=some ⟨x,y,none⟩->w.heap[x]?=some (.cells cs 62 f)->0<l.length->x<N):bG lb w' A l:=by
 rcases h with h|⟨x,y,cs,f,h1,h2,h3,h4⟩
 ·exact Or.inl h
 ·by_cases h0:l.length=0
  ·exact Or.inl h0
  ·have:=he x y cs f h1 h2 (by omega)
   exact Or.inr ⟨x,y,cs,f,h1,(o.block x (af h2) (by omega)).trans h2,h3,h4⟩
theorem Fs (b:Nat) (l:List Va) (a c n:Nat) (v:Va) (w:World) (hL:cv w b l) (hok:gZ l) (hn:n=l.length) (ha:a<n) (h2:v.kind=2->a+1<n) :
  Calls Tryz.prog 53 #[.slice (some ⟨b,0,none⟩) n c,int i64 (a:Int),iA v] w fun e w'=>e=.returned (.tuple #[])/\cv w' b (eu l a v)/\eM b w w':=by
 subst hn
 exact sA b l a c v w hL hok ha h2
theorem JB {off:Nat} {v:Va} (h0:w.cell? ⟨b,off,none⟩=some (int i64 v.kind)) (h1:w.cell? ⟨b,off+1,none⟩=some (int i64 v.n)):wR w (some ⟨b,off,none⟩) [v] :=
 ⟨by unfold maxLen;simp,Or.inr ⟨b,off,rfl,fun i hi=>by
  have:i=0:=by simp at hi;exact hi
  subst this
  rw [Nat.zero_mul,Nat.add_zero]
  exact ⟨h0,h1⟩⟩⟩
structure L2 (w0:World) (g:Ad) (p:Nat) (ca:Ca) (m:Me) (WA:World) (h0:Hp) (N:Nat) (LP:Hp×Va) (k:Nat) (h1:Hp) (c1:aH) (wr:World):Prop where
 hs:Hs w0 g wr p h1
 cs:Cs w0 wr ca c1
 fq:Fq w0.heap.size g.T ca WA wr
 gh:Gh 0 h1
 calls:1≤h1.calls
 inv:Inv h1 c1
 me:c1.m=m
 file:h1.file=h0.file
 inp:h1.input=h0.input
 fuel:h1.fuel=h0.fuel
 left:(h1.fuel-h1.sh.steps).toNat≤k
 le:k≤N
 is:bF k h1 c1=LP
def ot (p:Nat) (fuel:Int) (w:World):Nat:=match w.cell? ⟨p,11,none⟩ with
 | some v=>(fuel-intOf v).toNat
 | none=>0
theorem tK (H:Hs w0 g w p h) (fuel:Int):ot p fuel w=(fuel-h.sh.steps).toNat:=by
 obtain ⟨vo,vx,hv,X⟩:=H
 unfold ot
 rw [X.cells.c11]
 rfl
theorem Ft {k:Nat} {c:aH} (hb:h.stepB=false):bF k h c=(h.step.leave,ag):=by
 cases k with
 | zero=>rfl
 | succ k=>unfold bF;rw [if_pos hb]
theorem cC.leave {vo vx:Value} {hv:List Value} (H:cC w0 g w p h vo vx hv) (k:Tk g.T):cC w0 g (w.setCell ⟨p,4,none⟩ (int i64 (h.calls-1))) p h.leave vo vx hv:=H.set k _ rfl rfl rfl
theorem aQ.far {i:Nat} {v:Va} {u:Value} (h:aQ w b v) (hb:b≠p):aQ (w.setCell ⟨p,i,none⟩ u) b v:=⟨by rw [aA hb];exact h.blk⟩
theorem Ls (w:World) (o o':Obj):Bl (w.alloc o).drew.drew ((w.alloc o).alloc o').drew.drew:=by
 have h:Bl (w.alloc o) ((w.alloc o).alloc o').drew.drew:=((Bl.refl _).alloc _).drew.drew
 exact ⟨h.os,h.tape,h.output,h.size,h.block⟩
theorem JC (w0:World) (g:Ad) (p:Nat) (h:Hp) (m:Me) (P CC K:Option Addr) (pp cc kk:Nat) (A:Option Addr) (ac lb:Nat) (l:List Va) (w:World) (hH:Hs w0 g w p h) (E:Env w0 g h) (ho:h.over=false) (gh:Gh 0 h) (hme:kX w0 m P CC K) (wT:eX h.file.classes h.file.methods.length m=true) (hok:∀i∈m.code,i.ok) (hl:l.length=m.params.length) (hg:∀v∈l,iJ h v) (hA:bG lb w A l) (QL:l.length≤ac) (hb:h.enterB m l=true) (iV:h.thrown=-1) (N:Nat) (hN:(h.fuel-h.sh.steps).toNat≤N) (IH:∀k,k<N->sF w0 g p k) :
  Calls Tryz.prog 26 #[.pointer (some ⟨p,0,none⟩),iU m P CC K pp cc kk,.slice A l.length ac] w fun e w'=>e=.returned (iA (bF N (h.enterH m l) (bT m l)).2)/\Hs w0 g w' p (bF N (h.enterH m l) (bT m l)).1/\Fr w0.heap.size g.T w w':=by
 have cH:=hH.base
 have hbl:Bl w ((w.alloc (dH m P CC K pp cc kk)).alloc iq):=((Bl.refl w).alloc _).alloc _
 have HF:Hid (Fr w0.heap.size g.T w ((w.alloc (dH m P CC K pp cc kk)).alloc iq)):=Fr.old cH hbl
 have HH:Hid (Hs w0 g ((w.alloc (dH m P CC K pp cc kk)).alloc iq) p h):=hH.old hbl
 have HM:Hid (ep ((w.alloc (dH m P CC K pp cc kk)).alloc iq) w.heap.size m P CC K pp cc kk):=⟨iB (by simp) (b8 rfl)⟩
 have HR:Hid (aQ ((w.alloc (dH m P CC K pp cc kk)).alloc iq) (w.heap.size+1) ag):=⟨b8 (by simp)⟩
 have HA:Hid (bG lb ((w.alloc (dH m P CC K pp cc kk)).alloc iq) A l):=hA.keep fun b cs f e _=>(hbl.block _ (af e)).trans e
 have HK:Hid (Tk g.T):=E.cw.k
 have HC:Hid (Cw w0 g h):=E.cw
 have HP:Hid (dm w0 P m.params):=hme.1
 have HL:Hid (l.length=m.params.length):=hl
 have HG:Hid (∀v∈l,v.kind=3->v.n<h.objs.length):=fun v hv e=>((hg v hv).ref e).2
 have HB:Hid (h.enterB m l=true):=hb
 have hcl:=gh.calls
 have bN:w0.heap.size≤w.heap.size+1:=by omega
 have bU:w.heap.size≤w.heap.size+1:=by omega
 obtain ⟨q1,q2,q3,q4,q5,q6,q7,q8,q9,WR,WS⟩:=jh wT
 have hlo:0≤m.locs:=by omega
 have KY:=Fp m.locs hlo (by omega)
 have HE:Hid (Env w0 g h):=E
 have WT:Hid (Hs w0 g w p h):=hH
 have UD:Hid (Gh 0 h):=gh
 have vE:Hid (kX w0 m P CC K):=hme
 have Sr:Hid (eX h.file.classes h.file.methods.length m=true):=wT
 have DB:Hid (∀i∈m.code,i.ok):=hok
 have Ss:Hid (∀v∈l,iJ h v):=hg
 have Hc:Hid (h.thrown=-1):=iV
 have WU:Hid (∀k,k<N->sF w0 g p k):=IH
 have Pk:Hid ((h.fuel-h.sh.steps).toNat≤N):=hN
 obtain ⟨LP,St⟩:∃LP,bF N (h.enterH m l) (bT m l)=LP:=⟨_,rfl⟩
 rw [St]
 have UE:Hid (bF N (h.enterH m l) (bT m l)=LP):=St
 have Sv:Hid (h.enterL l m.params=true):=by show h.enterL l m.params=true;unfold Hp.enterB at hb;rw [Bool.and_eq_true] at hb;exact hb.1
 clear q8 q9 WR WS hbl hH E gh hme wT hok hl hg hA hb iV hN IH St
 go_enter Tryz.func26,Tryz.ntmps26
 go_wp2_with (go_at_call 52;refine (sE w0 g p h m P CC K pp cc kk A ac lb l _ HH.out HC.out ho HP.out HL.out HA.out HG.out hcl).mono ?_;rintro e w1 ⟨he,h1,f1⟩;rw [HB.out] at he;subst he;have F1:Hid (Fr w0.heap.size g.T ((w.alloc (dH m P CC K pp cc kk)).alloc iq) w1):=f1;have b1:=HR.out.keep HK.out f1;have j6:Hid (aQ w1 (w.heap.size+1) ag):=b1;clear b1;have vD:Hid (ep w1 w.heap.size m P CC K pp cc kk):=HM.out.fr HK.out f1;have x0:=vD.out.cells.c0;have x1:=vD.out.cells.c1;have x2:=vD.out.cells.c2;have x3:=vD.out.cells.c3;have x4:=vD.out.cells.c4;have x5:=vD.out.cells.c5;have x6:=vD.out.cells.c6;have x7:=vD.out.cells.c7;have H1:Hid (Hs w0 g w1 p (h.enterH m l)):=h1;have tl:=af vD.out.blk;have Pm:=af j6.out.blk;clear h1 f1)
 go_region_held3 (fun w'=>w'.cell? ⟨w.heap.size,0,none⟩=some (.slice P m.params.length pp)/\w'.cell? ⟨w.heap.size,1,none⟩=some (int i64 m.ret.kind)/\w'.cell? ⟨w.heap.size,2,none⟩=some (int i64 m.ret.cls)/\w'.cell? ⟨w.heap.size,3,none⟩=some (int i64 m.stack)/\w'.cell? ⟨w.heap.size,4,none⟩=some (int i64 m.locs)/\w'.cell? ⟨w.heap.size,5,none⟩=some (int i64 m.regs)/\w'.cell? ⟨w.heap.size,6,none⟩=some (.slice CC m.code.length cc)/\w'.cell? ⟨w.heap.size,7,none⟩=some (.slice K m.hands.length kk))
  (go_keep)
  (fail)
 go_wp2
 obtain ⟨W3,Pn⟩:∃W3,W3=((w1.alloc (.cells (aL (List.replicate m.locs.toNat ag)).toArray 62)).alloc (.cells #[.slice P m.params.length pp,int i64 m.ret.kind,int i64 m.ret.cls,int i64 m.stack,int i64 m.locs,int i64 m.regs,.slice CC m.code.length cc,.slice K m.hands.length kk,.slice (some ⟨w1.heap.size,0,none⟩) m.locs.toNat m.locs.toNat,.slice none 0 0,int i64 0] 111)).drew:=⟨_,rfl⟩
 have mN:Bl w1 W3:=by rw [Pn];exact (((Bl.refl w1).alloc _).alloc _).drew
 have UF:(List.replicate m.locs.toNat ag).length=m.locs.toNat:=List.length_replicate ..
 have L3:Hid (cv W3 w1.heap.size (List.replicate m.locs.toNat ag)):=⟨by rw [Pn];exact iB (by simp) (b8 rfl),by rw [UF];unfold maxLen;omega⟩
 have C3:Hid (bp w0 W3 ⟨w1.heap.size+1,w1.heap.size,m.locs.toNat,P,CC,K,pp,cc,kk⟩ ⟨m,List.replicate m.locs.toNat ag,[],0⟩ none 0):=by
  have:=H1.out.base
  refine ⟨by dsimp only;omega,by dsimp only;omega,?_,L3.out,Or.inl rfl,vE.out,Nat.le_refl _⟩
  rw [Pn]
  have e:om ⟨w1.heap.size+1,w1.heap.size,m.locs.toNat,P,CC,K,pp,cc,kk⟩ ⟨m,List.replicate m.locs.toNat ag,[],0⟩ none 0=#[.slice P m.params.length pp,int i64 m.ret.kind,int i64 m.ret.cls,int i64 m.stack,int i64 m.locs,int i64 m.regs,.slice CC m.code.length cc,.slice K m.hands.length kk,.slice (some ⟨w1.heap.size,0,none⟩) m.locs.toNat m.locs.toNat,.slice none 0 0,int i64 0]:=by
   simp [om]
  rw [e]
  exact b8 (by simp)
 have Lt:Hid (Bl w1 W3):=mN
 rw [<-Pn]
 clear Pn mN UF x0 x1 x2 x3 x4 x5 x6 x7
 go_loopw [8,9] (fun fk i wr=>∃k:Nat,k≤l.length/\i=int i64 k/\fk=int i64 ((aP (l.take k):Nat):Int)/\Hid (eM w1.heap.size W3 wr)/\Hid (cv wr w1.heap.size (dS (List.replicate m.locs.toNat ag) 0 (l.take k)))) (fun _ i _=>l.length-(intOf i).toNat)
 case atStart=>exact ⟨0,Nat.zero_le _,rfl,rfl,eM.refl _ _,L3.out⟩
 case round =>
  obtain ⟨k,hk,rfl,rfl,ho,hL⟩:=hrel
  obtain ⟨a1,a2,a3,a4⟩:=Cn Sr.out HL.out Ss.out Sv.out k hk
  by_cases Co:k<l.length
  ·obtain ⟨a5,a6⟩:=a4 Co
   clear a4
   have QM:bG lb w1 A l:=HA.out.fr HK.out F1.out
   have UG:bG lb W3 A l:=QM.keep fun b cs f e _=>(Lt.out.block _ (af e)).trans e
   have WV:Hid (∀w',eM w1.heap.size W3 w'->bG lb w' A l):=fun w' o=>UG.only o w1.heap.size (Nat.le_refl _) fun x y cs f hx hh gJ=>by
    rcases QM with h0|⟨x',y',cs',f',DK,Lv,-⟩
    ·omega
    ·rw [hx] at DK
     simp only [Option.some.injEq,Addr.mk.injEq] at DK
     obtain ⟨rfl,-,-⟩:=DK
     exact af Lv
   obtain ⟨b,off,Sl,hcl⟩:=(WV.out wr ho.out).fst (by omega)
   obtain ⟨v0,v1⟩:=hcl k Co
   subst Sl
   have y8:wr.cell? ⟨w1.heap.size+1,8,none⟩=some (.slice (some ⟨w1.heap.size,0,none⟩) m.locs.toNat m.locs.toNat):=by
    have hb:=(ho.out.block (w1.heap.size+1) (af C3.out.blk) (by omega)).trans C3.out.blk
    rw [aa hb]
    simp [om]
   have hX:=qL Co
   have WW:Hid (dS (List.replicate m.locs.toNat ag) 0 (l.take (k+1))=eu (dS (List.replicate m.locs.toNat ag) 0 (l.take k)) (aP (l.take k)) (nth ag l k)):=by
    show dS (List.replicate m.locs.toNat ag) 0 (l.take (k+1))=_
    rw [hX,sG,Nat.zero_add]
   have Sw:Hid (aP (l.take (k+1))=aP (l.take k)+aP [nth ag l k]):=by
    show aP (l.take (k+1))=_
    rw [hX,jI]
   have WX:Hid (gZ (dS (List.replicate m.locs.toNat ag) 0 (l.take k))):=a1
   have MK:Hid (m.locs.toNat=(dS (List.replicate m.locs.toNat ag) 0 (l.take k)).length):=a2.symm
   have H2:Hid ((nth ag l k).kind=2->aP (l.take k)+1<m.locs.toNat):=fun e=>by have:=a6 e;omega
   have Sx:aP (l.take k)<m.locs.toNat:=by omega
   have xS:aP [nth ag l k]≤2:=by have:=zu [nth ag l k];simp at this;omega
   have zB:(0:Int)≤(k:Int):=by omega
   have My:(k:Int)<(l.length:Int):=by omega
   have NL:l.length≤2 ^ 63-1:=by have:=HL.out;omega
   have hne:b≠w1.heap.size:=by
    rcases QM with h0|⟨x',y',cs',f',DK,Lv,-⟩
    ·omega
    ·simp only [Option.some.injEq,Addr.mk.injEq] at DK
     obtain ⟨rfl,-,-⟩:=DK
     have:=af Lv
     omega
   clear hcl hX a1 a2 a6 QM UG
   generalize nth ag l k=V at *
   generalize aP (l.take k)=T at *
   generalize dS (List.replicate m.locs.toNat ag) 0 (l.take k)=AL at *
   go_wp2
   go_region_held3 (fun w'=>w'.cell? ⟨w1.heap.size+1,8,none⟩=some (.slice (some ⟨w1.heap.size,0,none⟩) m.locs.toNat m.locs.toNat)/\w'.cell? ⟨b,off+k*2,none⟩=some (int i64 V.kind)/\w'.cell? ⟨b,off+k*2+1,none⟩=some (int i64 V.n))
    (go_keep)
    (first
     | (go_at_call 53;refine (Fs w1.heap.size AL T m.locs.toNat m.locs.toNat V _ (by exact ⟨hL.out.blk,hL.out.len⟩) WX.out MK.out Sx H2.out).mono ?_;rintro e w2 ⟨rfl,l2,o2⟩;have O2:Hid (eM w1.heap.size W3 w2):=(eM.drew ho.out).trans o2;have u8:w2.cell? ⟨w1.heap.size+1,8,none⟩=some (.slice (some ⟨w1.heap.size,0,none⟩) m.locs.toNat m.locs.toNat):=(by have hb:=(O2.out.block (w1.heap.size+1) (af C3.out.blk) (by omega)).trans C3.out.blk;rw [aa hb];simp [om]);have u0:w2.cell? ⟨b,off+k*2,none⟩=some (int i64 V.kind):=(by rw [<-v0];exact World.cell?_of_block (o2.block b (bt v0) hne));have u1:w2.cell? ⟨b,off+k*2+1,none⟩=some (int i64 V.n):=(by rw [<-v1];exact World.cell?_of_block (o2.block b (bt v1) hne))))
   go_wp2_with (go_at_call 54;refine (tJ _ _ 1 [V] _ (JB u0 u1) (by simp) rfl).mono ?_;rintro e w3 ⟨rfl,lF⟩;rw [lF];clear lF w3)
   go_roundw
   case rel=>exact ⟨k+1,by omega,by go_num,by rw [Sw.out];go_num,O2,by show cv _ _ _;rw [WW.out];exact l2⟩
   case measure=>simp [intOf];omega
  ·obtain rfl:k=l.length:=by omega
   generalize aP (List.take l.length l)=TT at *
   rw [List.take_length] at hL
   have UH:Hid (bp w0 wr ⟨w1.heap.size+1,w1.heap.size,m.locs.toNat,P,CC,K,pp,cc,kk⟩ (bT m l) none 0):=by
    have:=C3.out.setLoc ho.out hL.out (by rw [List.take_length] at a2;rw [a2];simp)
    exact this
   have UJ:Hid (Hs w0 g wr p (h.enterH m l)):=eM.hs (H1.out.old Lt.out) ho.out HK.out L3.out H1.out.base
   have He:Hid (ep wr w.heap.size m P CC K pp cc kk):=⟨(ho.out.block _ (by have:=Lt.out.size;omega) (by omega)).trans ((Lt.out.block _ tl).trans vD.out.blk)⟩
   have ML:Hid (aQ wr (w.heap.size+1) ag):=⟨(ho.out.block _ (by have:=Lt.out.size;omega) (by omega)).trans ((Lt.out.block _ Pm).trans j6.out.blk)⟩
   have Rq:w.heap.size+1<w1.heap.size:=Pm
   have MM:Hid (Fr w0.heap.size g.T w wr):=by
    have f3:Fr w0.heap.size g.T w W3:=(HF.out.trans F1.out).trans (Fr.old H1.out.base Lt.out)
    refine ⟨⟨ho.out.os.trans f3.bl.os,ho.out.tape.trans f3.bl.tape,ho.out.output.trans f3.bl.output,Nat.le_trans f3.bl.size ho.out.size,fun b hb=>(ho.out.block b (by have:=f3.bl.size;omega) (by omega)).trans (f3.bl.block b hb)⟩,fun b cs t f e n=>?_⟩
    have:=af e
    exact (ho.out.block b (by have:=f3.bl.size;omega) (by omega)).trans (f3.keep b cs t f e n)
   have vl:Hid (L2 w0 g p ⟨w1.heap.size+1,w1.heap.size,m.locs.toNat,P,CC,K,pp,cc,kk⟩ m wr (h.enterH m l) N LP N (h.enterH m l) (bT m l) wr):=by
    have QN:h.enterH m l={ h with calls:=h.calls+1 }:=by
     have Lw:=HB.out
     unfold Hp.enterB at Lw
     rw [Bool.and_eq_true] at Lw
     have hd:h.deep=false:=by simpa using Lw.2
     unfold Hp.enterH;rw [if_neg (by rw [Lw.1];decide),if_neg (by rw [hd];decide)]
    have RD:h.calls<20:=by
     have Lw:=HB.out
     unfold Hp.enterB at Lw
     rw [Bool.and_eq_true] at Lw
     have hd:h.deep=false:=by simpa using Lw.2
     unfold Hp.deep at hd;simpa using hd
    have gc:=ny Sr.out DB.out HL.out Ss.out Sv.out
    have g1:Gh 0 (h.enterH m l):=by
     have gh:=UD.out
     rw [QN]
     exact ⟨fun o ho x hx=>⟨(gh.held o ho x hx).ref,(gh.held o ho x hx).num⟩,gh.thr,gh.used,gh.steps,gh.fuel,gh.out,gh.len,gh.inp,by dsimp only;omega⟩
    refine ⟨UJ.out,⟨_,_,UH.out⟩,Fq.refl _ _ _ _,g1,by rw [QN];dsimp only;omega,fun _=>?_,rfl,rfl,rfl,rfl,by rw [QN];exact Pk.out,Nat.le_refl _,UE.out⟩
    rw [QN]
    exact ⟨Hc.out,⟨fun v hv=>⟨(gc.stk v hv).ref,(gc.stk v hv).num⟩,fun v hv=>⟨(gc.locs v hv).ref,(gc.locs v hv).num⟩,gc.ok,gc.room,gc.len,gc.me,gc.mok⟩,Int.le_refl _,by show (0:Int)≤_;omega⟩
   have WY:Hid (Env w0 g (h.enterH m l)):=by
    refine HE.out.of ?_ ?_<;>(unfold Hp.enterH;split;exact (by first|exact (gy h 6).file|exact (gy h 6).input);split;exact (by first|exact (gy h 5).file|exact (gy h 5).input);rfl)
   have Rj:p<w.heap.size:=by obtain ⟨vo,vx,hv,X⟩:=WT.out;exact af X.blk
   obtain ⟨WA,WZ⟩:∃WA,WA=wr:=⟨wr,rfl⟩
   subst WZ
   clear HF HH HM HR HA HP HL HG UD Sr DB Ss Hc Pk UE Sv HC KY F1 j6 vD H1 C3 L3 Lt UH UJ a1 a2 a3 a4 hL ho
   generalize h.enterH m l=h0 at *
   generalize bT m l=c0 at *
   go_wp2
   go_loopw [13] (fun _ wr=>∃(k:Nat) (h1:Hp) (c1:aH),Hid (L2 w0 g p ⟨w1.heap.size+1,w1.heap.size,m.locs.toNat,P,CC,K,pp,cc,kk⟩ m WA h0 N LP k h1 c1 wr)) (fun _ wr=>ot p h0.fuel wr)
   case atStart=>exact ⟨N,h0,c0,vl⟩
   case round =>
    obtain ⟨k,h1,c1,l8⟩:=hrel
    have n3:w.heap.size+1≠w1.heap.size+1:=by omega
    have n4:w.heap.size+1≠w1.heap.size:=by omega
    have n5:w.heap.size≠w1.heap.size+1:=by omega
    have n6:w.heap.size≠w1.heap.size:=by omega
    have Aj:w.heap.size+1≠p:=by omega
    have Wu:p≠w.heap.size+1:=by omega
    have JD:w.heap.size≤w1.heap.size+1:=by omega
    have Lj:w.heap.size≤w1.heap.size:=by omega
    have hst:0≤h1.sh.steps/\h1.sh.steps≤60000:=by have:=l8.out.gh.steps;have:=l8.out.gh.fuel;have:=l8.out.gh.out;omega
    cases Ht:h1.stepB
    ·have tG:Hid (LP=(h1.step.leave,ag)):=l8.out.is.symm.trans (Ft Ht)
     have Ea:0≤h1.step.calls/\h1.step.calls≤20:=by rw [(jH h1).calls];exact l8.out.gh.calls
     clear hst
     have hst:0≤h1.sh.steps/\h1.sh.steps≤60000:=by have:=l8.out.gh.steps;have:=l8.out.gh.fuel;have:=l8.out.gh.out;omega
     go_wp2_with (go_at_call 55;refine (wK w0 g HK.out p h1 _ l8.out.hs hst).mono ?_;rintro e w2 ⟨he,h2,f2⟩;rw [Ht] at he;subst he;have MN:Hid (Fq w0.heap.size g.T ⟨w1.heap.size+1,w1.heap.size,m.locs.toNat,P,CC,K,pp,cc,kk⟩ WA w2):=l8.out.fq.trans f2.fq;obtain ⟨vo,vx,hv,HX⟩:=h2;have c4:=HX.cells.c4;have f4:=HX.free 4;have rD:Hid (cC w0 g w2 p h1.step vo vx hv):=HX;clear HX;have bx:=ML.out.fq HK.out MN.out n3 n4;have r0:=bx.c0;have r1:=bx.c1;have r2:=bx.fr 0;have r3:=bx.fr 1;have jO:Hid (aQ w2 (w.heap.size+1) ag):=bx;clear bx)
     (try simp only [Exit.inBlock,Exit.then])
     refine bodyPost_ret (results_cell_row rfl _ _ (w.heap.size+1) _ _ _ _ rfl ((jO.out.far Aj).set ag).blk Tryz.underlying62 rfl bk) rfl ?_
     rw [tG.out]
     exact ⟨rfl,⟨vo,vx,hv,(rD.out.leave HK.out).cf ((jO.out.far Aj).cf HK.out bN _ _)⟩,((((Fq.fr MM.out MN.out JD Lj).trans (rD.out.frSet 4 _)).new bU bN _).new bU bN _)⟩
    ·have Cp:=Ht
     unfold Hp.stepB at Cp
     simp at Cp
     obtain ⟨k',rfl⟩:∃k',k=k'+1:=⟨k-1,by have:=l8.out.left;omega⟩
     have hle:=jH h1
     have MO:h1.step={ h1 with sh:={ h1.sh with steps:=h1.sh.steps+1 } }:=by unfold Hp.step;rw [if_neg (by rw [Cp.1];decide),if_neg (by omega)]
     obtain ⟨Po,L8,Pp⟩:=l8.out.inv Cp.1
     have Fv:Hid (h1.step.over=false):=by show h1.step.over=false;rw [MO];exact Cp.1
     have UK:Hid (h1.step.thrown=-1):=by show h1.step.thrown=-1;rw [MO];exact Po
     have G2:Hid (Gh 1 h1.step):=l8.out.gh.step Ht
     have Pq:Hid (Gc h1.step c1):=L8.le hle
     have mK:Hid (0≤c1.pc/\c1.pc≤c1.m.code.length):=Pp
     have mi:Hid (c1.m=m):=l8.out.me
     have Sy:Hid ((h1.step.fuel-h1.step.sh.steps).toNat≤k'):=by
      show (h1.step.fuel-h1.step.sh.steps).toNat≤k'
      have:=l8.out.left
      rw [MO];dsimp only;omega
     have Sz:Hid (k'<N):=by have:=l8.out.le;show k'<N;omega
     have Fw:Hid (Env w0 g h1.step):=WY.out.of (hle.file.trans l8.out.file) (hle.input.trans l8.out.inp)
     have N1:Hid (h1.step.file=h0.file/\h1.step.input=h0.input/\h1.step.fuel=h0.fuel):=⟨hle.file.trans l8.out.file,hle.input.trans l8.out.inp,hle.fuel.trans l8.out.fuel⟩
     have UL:Hid (1≤h1.step.calls):=by show 1≤h1.step.calls;rw [hle.calls];exact l8.out.calls
     have SB:Hid (LP=gw (bF k') h1.step c1):=by
      show LP=_
      rw [<-l8.out.is]
      show (if h1.stepB=false then _ else _)=_
      rw [if_neg (by rw [Ht];decide)]
     have UM:Hid (ot p h0.fuel wr=(h0.fuel-(h1.step.sh.steps-1)).toNat/\h1.step.sh.steps≤h0.fuel/\1≤h1.step.sh.steps):=by
      refine ⟨(tK l8.out.hs _).trans ?_,?_,?_⟩
      ·rw [MO];dsimp only;congr 1;omega
      ·have:=l8.out.fuel;rw [MO];dsimp only;omega
      ·rw [MO];dsimp only;omega
     have SA:Hid (Calls Tryz.prog 55 #[.pointer (some ⟨p,0,none⟩)] wr fun e w'=>e=.returned (.bool true)/\Hs w0 g w' p h1.step/\Fr w0.heap.size g.T wr w'):=(wK w0 g HK.out p h1 _ l8.out.hs hst).mono fun e w' hh=>⟨by rw [hh.1,Ht],hh.2⟩
     have SC:Hid (Cs w0 wr ⟨w1.heap.size+1,w1.heap.size,m.locs.toNat,P,CC,K,pp,cc,kk⟩ c1):=l8.out.cs
     have EL:Hid (Fq w0.heap.size g.T ⟨w1.heap.size+1,w1.heap.size,m.locs.toNat,P,CC,K,pp,cc,kk⟩ WA wr):=l8.out.fq
     clear Ht Cp MO hle Po L8 Pp hst l8
     generalize h1.step=h2 at *
     by_cases oU:c1.pc<m.code.length
     ·have yO:=mK.out
      obtain ⟨n,hn⟩:∃n:Nat,c1.pc=n:=⟨c1.pc.toNat,by omega⟩
      have HN:Hid (c1.pc=n):=hn
      have kq:n<m.code.length:=by omega
      have eZ:m.code.length≤2 ^ 63-1:=by have:=vE.out.2.1.1;unfold maxLen at this;omega
      have kp:(0:Int)≤(n:Int):=by omega
      have kb:(n:Int)<(m.code.length:Int):=by omega
      obtain ⟨xb,xo,Qa,qq,UN,W1⟩:∃xb xo Qa qq,CC=some ⟨xb,xo,none⟩/\Hid (∀w',Bl w0 w'->w'.cell? ⟨xb,xo+n*6,none⟩=some (int i64 (nth fX m.code n).op)/\w'.cell? ⟨xb,xo+n*6+1,none⟩=some (int i64 (nth fX m.code n).a)/\w'.cell? ⟨xb,xo+n*6+2,none⟩=some (int i64 (nth fX m.code n).b)/\w'.cell? ⟨xb,xo+n*6+3,none⟩=some (int i64 (nth fX m.code n).c)/\w'.cell? ⟨xb,xo+n*6+4,none⟩=some (int i64 (nth fX m.code n).n)/\w'.cell? ⟨xb,xo+n*6+5,none⟩=some (.slice Qa (nth fX m.code n).args.length qq)):=by
       rcases vE.out.2.1.2 with Rk|⟨xb,xo,hX,hc⟩
       ·omega
       obtain ⟨e0,e1,e2,e3,e4,-,Qa,qq,e5,-⟩:=hc n kq
       exact ⟨xb,xo,Qa,qq,hX,fun w' hb=>⟨hb.cell e0,hb.cell e1,hb.cell e2,hb.cell e3,hb.cell e4,hb.cell e5⟩⟩
      have W5:Hid (CC=some ⟨xb,xo,none⟩):=UN
      have hd:decide ((n:Int)<(m.code.length:Int))=true:=decide_eq_true kb
      have qH:(!h2.over)=true:=by rw [Fv.out];rfl
      have JE:Hid (vU h2.file.classes h2.file.methods.length c1.m.code.length c1.locs.length (nth fX m.code n)/\(nth fX m.code n).ok):=by
       have:=lX Pq.out ⟨by omega,by rw [mi.out];omega⟩
       rw [hn,Int.toNat_natCast,mi.out] at this
       rw [mi.out];exact this
      have Fx:Hid (LP=if (nth fX m.code n).op=20 then ju h2 c1 else dM (bF k') (Cm k' h2 c1 (nth fX m.code n))):=by
       show LP=_
       have e1:h2.mustB (decide (c1.pc<c1.m.code.length))=true:=by rw [kH h2 Fv.out,mi.out];exact decide_eq_true oU
       rw [SB.out]
       unfold gw
       rw [if_neg (by rw [e1];decide),hn,Int.toNat_natCast,mi.out]
       rfl
      clear yO hn oU UN SB
      generalize nth fX m.code n=I at *
      go_wp2_with (go_at_call 55;refine SA.out.mono ?_;rintro e w2 ⟨rfl,s9,f2⟩;have MN:Hid (Fq w0.heap.size g.T ⟨w1.heap.size+1,w1.heap.size,m.locs.toNat,P,CC,K,pp,cc,kk⟩ WA w2):=EL.out.trans f2.fq;have F2:Hid (Fr w0.heap.size g.T wr w2):=f2;have Dn:Hid (Hs w0 g w2 p h2):=s9;obtain ⟨AA,Fy,MP⟩:=SC.out.fr HK.out f2;have d10:w2.cell? ⟨w1.heap.size+1,10,none⟩=some (int i64 (n:Int)):=(by rw [<-HN.out];exact MP.cells.c10);have m6:=(He.out.fq HK.out MN.out n5 n6).cells.c6;rw [W5.out] at m6;have SD:Hid (bp w0 w2 ⟨w1.heap.size+1,w1.heap.size,m.locs.toNat,P,CC,K,pp,cc,kk⟩ c1 AA Fy):=MP;obtain ⟨i0,i1,i2,i3,i4,i5⟩:=W1.out w2 s9.bl;have qK:=af MP.blk;have DS:=af (He.out.fq HK.out MN.out n5 n6).blk;have Ha:=bt i0;clear MP f2 s9)
      go_region_held3 (fun w'=>w'.cell? ⟨w1.heap.size+1,10,none⟩=some (int i64 (n:Int))/\w'.cell? ⟨w.heap.size,6,none⟩=some (.slice (some ⟨xb,xo,none⟩) m.code.length cc))
       (go_keep)
       (first
        | (go_at_call 56;refine (dh w0 g p h2 _ (by first|exact Dn.out.cf (Cf.drew (Cf.refl _ _ _))|exact Dn.out)).mono ?_;rintro e w3 ⟨he,lF⟩;rw [qH] at he;subst he;rw [lF];clear lF w3))
      go_wp2
      go_region_held3 (fun w'=>w'.cell? ⟨w1.heap.size+1,10,none⟩=some (int i64 (n:Int))/\w'.cell? ⟨w.heap.size,6,none⟩=some (.slice (some ⟨xb,xo,none⟩) m.code.length cc)/\w'.cell? ⟨xb,xo+n*6,none⟩=some (int i64 I.op)/\w'.cell? ⟨xb,xo+n*6+1,none⟩=some (int i64 I.a)/\w'.cell? ⟨xb,xo+n*6+2,none⟩=some (int i64 I.b)/\w'.cell? ⟨xb,xo+n*6+3,none⟩=some (int i64 I.c)/\w'.cell? ⟨xb,xo+n*6+4,none⟩=some (int i64 I.n)/\w'.cell? ⟨xb,xo+n*6+5,none⟩=some (.slice Qa I.args.length qq))
       (go_keep)
       (fail)
      have QO:Bl w2 (w2.alloc (.cells (cO I.op I.a I.b I.c I.n Qa I.args.length qq) 55)).drew.drew:=((Bl.refl w2).alloc _).drew.drew
      have N2:Hid (Hs w0 g (w2.alloc (.cells (cO I.op I.a I.b I.c I.n Qa I.args.length qq) 55)).drew.drew p h2):=Dn.out.old QO
      have N3:Hid (bp w0 (w2.alloc (.cells (cO I.op I.a I.b I.c I.n Qa I.args.length qq) 55)).drew.drew ⟨w1.heap.size+1,w1.heap.size,m.locs.toNat,P,CC,K,pp,cc,kk⟩ c1 AA Fy):=SD.out.old QO
      have F5:Hid (Fr w0.heap.size g.T wr (w2.alloc (.cells (cO I.op I.a I.b I.c I.n Qa I.args.length qq) 55)).drew.drew):=F2.out.trans (Fr.old Dn.out.base QO)
      have Lx:Hid (Fq w0.heap.size g.T ⟨w1.heap.size+1,w1.heap.size,m.locs.toNat,P,CC,K,pp,cc,kk⟩ WA (w2.alloc (.cells (cO I.op I.a I.b I.c I.n Qa I.args.length qq) 55)).drew.drew):=EL.out.trans F5.out.fq
      have UO:Hid (cI (w2.alloc (.cells (cO I.op I.a I.b I.c I.n Qa I.args.length qq) 55)).drew.drew w2.heap.size I.op I.a I.b I.c I.n):=⟨_,(b8 rfl:(w2.alloc (.cells (cO I.op I.a I.b I.c I.n Qa I.args.length qq) 55)).heap[w2.heap.size]?=_)⟩
      have m1:=(He.out.fq HK.out Lx.out n5 n6).cells.c1
      have UQ:Hid (ep (w2.alloc (.cells (cO I.op I.a I.b I.c I.n Qa I.args.length qq) 55)).drew.drew w.heap.size m P CC K pp cc kk):=He.out.fq HK.out Lx.out n5 n6
      clear QO i0 i1 i2 i3 i4 i5 d10 m6
      by_cases hop:I.op=20
      ·have W6:p<w2.heap.size:=(by obtain ⟨vt,vw,IE,X'⟩:=Dn.out;exact af X'.blk)
       have Pr:w2.heap.size<((w2.alloc (.cells (cO I.op I.a I.b I.c I.n Qa I.args.length qq) 55)).drew.drew).heap.size:=by simp
       obtain ⟨V5,Ly⟩:∃V5,V5=(w2.alloc (.cells #[int i64 I.op,int i64 I.a,int i64 I.b,int i64 I.c,int i64 I.n,.slice Qa I.args.length qq] 55)).drew.drew:=⟨_,rfl⟩
       rw [<-Ly]
       have MQ:Hid (Hs w0 g V5 p h2):=by rw [Ly];exact N2
       have MR:Hid (bp w0 V5 ⟨w1.heap.size+1,w1.heap.size,m.locs.toNat,P,CC,K,pp,cc,kk⟩ c1 AA Fy):=by rw [Ly];exact N3
       have Fz:Hid (Fq w0.heap.size g.T ⟨w1.heap.size+1,w1.heap.size,m.locs.toNat,P,CC,K,pp,cc,kk⟩ WA V5):=by rw [Ly];exact Lx
       have JF:Hid (ep V5 w.heap.size m P CC K pp cc kk):=by rw [Ly];exact UQ
       have SE:Hid (cI V5 w2.heap.size I.op I.a I.b I.c I.n):=by rw [Ly];exact UO
       have UR:w2.heap.size<V5.heap.size:=by rw [Ly];exact Pr
       clear Ly N2 N3 Lx UQ UO F5 Pr m1
       have R5:=MQ.out.base
       have m1:=JF.out.cells.c1
       have m2:=JF.out.cells.c2
       have j0:=SE.out.c0
       have kR:w.heap.size+1<V5.heap.size:=by omega
       have Wo:p<V5.heap.size:=by omega
       have Dj:w.heap.size<V5.heap.size:=by omega
       by_cases hrk:m.ret.kind=0
       ·have tG:Hid (LP=(h2.leave,ag)):=by
         show LP=_
         rw [Fx.out,if_pos hop]
         unfold ju
         rw [if_pos (by rw [mi.out];exact hrk)]
        have hz:(I.op==20)=true:=by simpa using hop
        have US:(m.ret.kind !=0)=false:=by simpa using hrk
        have Ea:0≤h2.calls/\h2.calls≤20:=G2.out.calls
        clear hop hrk
        have ox:=MQ.out
        obtain ⟨vo,vx,hv,HX⟩:=ox
        have c4:=HX.cells.c4
        have f4:=HX.free 4
        have rD:Hid (cC w0 g V5 p h2 vo vx hv):=HX
        clear HX
        have bx:=ML.out.fq HK.out Fz.out n3 n4
        have r0:=bx.c0
        have r1:=bx.c1
        have r2:=bx.fr 0
        have r3:=bx.fr 1
        have jO:Hid (aQ V5 (w.heap.size+1) ag):=bx
        clear bx
        go_wp2
        (try simp only [Exit.inBlock,Exit.then])
        have UT:=((jO.out.far Aj).set ag:aQ (((V5.setCell ⟨p,4,none⟩ (int i64 (h2.calls-1))).setCell ⟨w.heap.size+1,0,none⟩ (int i64 ag.kind)).setCell ⟨w.heap.size+1,1,none⟩ (int i64 ag.n)) (w.heap.size+1) ag).blk
        refine bodyPost_ret (results_cell_row rfl _ _ (w.heap.size+1) _ _ _ _ rfl (iB (o':=iq) (af UT) UT) Tryz.underlying62 rfl bk) rfl ?_
        rw [tG.out]
        have UU:Hs w0 g (((V5.setCell ⟨p,4,none⟩ (int i64 (h2.calls-1))).setCell ⟨w.heap.size+1,0,none⟩ (int i64 ag.kind)).setCell ⟨w.heap.size+1,1,none⟩ (int i64 ag.n)) p h2.leave:=⟨vo,vx,hv,(rD.out.leave HK.out).cf ((jO.out.far Aj).cf HK.out bN _ _)⟩
        have W7:Fr w0.heap.size g.T w (((V5.setCell ⟨p,4,none⟩ (int i64 (h2.calls-1))).setCell ⟨w.heap.size+1,0,none⟩ (int i64 ag.kind)).setCell ⟨w.heap.size+1,1,none⟩ (int i64 ag.n)):=((((Fq.fr MM.out Fz.out JD Lj).trans (rD.out.frSet 4 _)).new bU bN _).new bU bN _)
        exact ⟨rfl,UU.old ((Bl.refl _).alloc _),W7.trans (Fr.old UU.base ((Bl.refl _).alloc _))⟩
       ·have QP:Bl V5 (V5.alloc iq):=(Bl.refl _).alloc _
        have wV:Hid (Hs w0 g (V5.alloc iq) p h2):=MQ.out.old QP
        have FC:Hid (bp w0 (V5.alloc iq) ⟨w1.heap.size+1,w1.heap.size,m.locs.toNat,P,CC,K,pp,cc,kk⟩ c1 AA Fy):=MR.out.old QP
        have Cq:Hid (Fq w0.heap.size g.T ⟨w1.heap.size+1,w1.heap.size,m.locs.toNat,P,CC,K,pp,cc,kk⟩ WA (V5.alloc iq)):=Fz.out.trans (Fr.fq (Fr.old R5 QP))
        have UW:Hid (ep (V5.alloc iq) w.heap.size m P CC K pp cc kk):=⟨iB (af JF.out.blk) JF.out.blk⟩
        have UX:Hid (aQ (V5.alloc iq) V5.heap.size ag):=⟨b8 rfl⟩
        have s1:p≠V5.heap.size:=by omega
        have s2:V5.heap.size≠p:=by omega
        have s3:w.heap.size+1≠V5.heap.size:=by omega
        have s4:V5.heap.size≠w.heap.size+1:=by omega
        have s5:V5.heap.size≠w1.heap.size+1:=by have:=af MR.out.blk;dsimp only at this;omega
        have s6:V5.heap.size≠w1.heap.size:=by have:=af MR.out.loc.blk;dsimp only at this;omega
        have s7:w0.heap.size≤V5.heap.size:=R5
        clear QP
        by_cases hl:1≤c1.stk.length
        ·have FE:=(Du Pq.out 1 0 (by omega) hl)
         obtain ⟨V,QQ⟩:∃V,(nth ag (c1.top 1) 0)=V:=⟨_,rfl⟩
         have W8:Hid ((nth ag (c1.top 1) 0)=V):=QQ
         rw [QQ] at FE
         have Lk:Hid (V.kind=3->V.n<h2.objs.length):=fun e=>(FE.ref e).2
         obtain ⟨R,hR⟩:∃R,h2.of V ⟨m.ret.kind,m.ret.cls⟩=R:=⟨_,rfl⟩
         have W9:Hid (h2.of V ⟨m.ret.kind,m.ret.cls⟩=R):=hR
         have tG:Hid (LP=((h2.must R).leave,V)):=by
          show LP=_
          rw [Fx.out,if_pos hop]
          unfold ju
          rw [if_neg (by rw [mi.out];exact hrk)]
          dsimp only
          rw [cF hl,QQ,Fv.out,mi.out]
          show ((h2.must (true&&h2.of V ⟨m.ret.kind,m.ret.cls⟩)).leave,V)=_
          rw [hR];rfl
         have Ea:0≤(h2.must R).calls/\(h2.must R).calls≤20:=by rw [(au h2 R).calls];exact G2.out.calls
         have hz:(I.op==20)=true:=by simpa using hop
         have US:(m.ret.kind !=0)=true:=by simpa using hrk
         clear hop hrk FE QQ hR
         go_wp2_with (first
          | (go_at_call 57;refine (bO w0 g HK.out p h2 ⟨w1.heap.size+1,w1.heap.size,m.locs.toNat,P,CC,K,pp,cc,kk⟩ c1 1 _ AA Fy wV.out FC.out Fv.out hl (by have:=Pq.out.short;omega)).mono ?_;rintro e w7 ⟨A1,cV,bc,rfl,cu,h7,c7,f7,-⟩;obtain ⟨b,off,rfl,hcell⟩:=cu.fst (by simp [aC]);have t0:=(hcell 0 (by simp [aC])).1;have t1:=(hcell 0 (by simp [aC])).2;rw [Nat.zero_mul,Nat.add_zero] at t0 t1;clear hcell cu;rw [W8.out] at t0 t1;have SF:Hid (Fq w0.heap.size g.T ⟨w1.heap.size+1,w1.heap.size,m.locs.toNat,P,CC,K,pp,cc,kk⟩ WA (V5.alloc iq)):=Cq;have M7:=(UW.out.fq HK.out f7 n5 n6).cells;have Xd:=M7.c1;have Xe:=M7.c2;clear M7;have B7:=UX.out.fq HK.out f7 s5 s6;have u0:=B7.c0;have u1:=B7.c1;have u2:=B7.fr 0;have u3:=B7.fr 1;have Ps:Hid (aQ w7 V5.heap.size ag):=B7;clear B7;have iC:w7.cell? ⟨p,12,none⟩=some (.bool false):=(by obtain ⟨vt,vw,IE,X'⟩:=h7;rw [X'.cells.c12,Fv.out]);have SG:Hid (Hs w0 g ((w7.setCell ⟨V5.heap.size,0,none⟩ (int i64 V.kind)).setCell ⟨V5.heap.size,1,none⟩ (int i64 V.n)) p h2):=h7.cf (Ps.out.cf HK.out s7 _ _);have SH:Hid (aQ ((w7.setCell ⟨V5.heap.size,0,none⟩ (int i64 V.kind)).setCell ⟨V5.heap.size,1,none⟩ (int i64 V.n)) V5.heap.size V):=Ps.out.set V;have F8:Hid (Fq w0.heap.size g.T ⟨w1.heap.size+1,w1.heap.size,m.locs.toNat,P,CC,K,pp,cc,kk⟩ WA ((w7.setCell ⟨V5.heap.size,0,none⟩ (int i64 V.kind)).setCell ⟨V5.heap.size,1,none⟩ (int i64 V.n))):=Fq.box2 (SF.out.trans f7) Fz.out.bl.size s7 _ _;clear h7 c7)
          | (go_at_call 58;refine (jm w0 g p h2 V ⟨m.ret.kind,m.ret.cls⟩ _ SG.out Fw.out.cw.cls Fw.out.cw.tree Lk.out).mono ?_;rintro e w9 ⟨he,h9,f9,b9⟩;rw [W9.out] at he;subst he;have B9:Hid (aQ w9 V5.heap.size V):=SH.out.keep HK.out f9;have F9:Hid (Fq w0.heap.size g.T ⟨w1.heap.size+1,w1.heap.size,m.locs.toNat,P,CC,K,pp,cc,kk⟩ WA w9):=F8.out.trans f9.fq;have Xf:Hid (Hs w0 g w9 p h2):=h9;clear h9 f9 b9)
          | (go_at_call 56;refine (bj w0 g HK.out p h2 R _ Xf.out).mono ?_;rintro e Cr ⟨rfl,N4,f10⟩;have MS:=B9.out.keep HK.out f10;have k0:=MS.c0;have k1:=MS.c1;clear MS;have Pt:Hid (Fq w0.heap.size g.T ⟨w1.heap.size+1,w1.heap.size,m.locs.toNat,P,CC,K,pp,cc,kk⟩ WA Cr):=F9.out.trans f10.fq;obtain ⟨vo,vx,hv,HX⟩:=N4;have c4:=HX.cells.c4;have f4:=HX.free 4;have rD:Hid (cC w0 g Cr p (h2.must R) vo vx hv):=HX;clear HX;have bx:=ML.out.fq HK.out Pt.out n3 n4;have r0:=bx.c0;have r1:=bx.c1;have r2:=bx.fr 0;have r3:=bx.fr 1;have jO:Hid (aQ Cr (w.heap.size+1) ag):=bx;clear bx))
         (try simp only [Exit.inBlock,Exit.then])
         refine bodyPost_ret (results_cell_row rfl _ _ (w.heap.size+1) _ _ _ _ rfl ((jO.out.far Aj).set V).blk Tryz.underlying62 rfl bk) rfl ?_
         rw [tG.out]
         exact ⟨rfl,⟨vo,vx,hv,(rD.out.leave HK.out).cf ((jO.out.far Aj).cf HK.out bN _ _)⟩,((((Fq.fr MM.out Pt.out JD Lj).trans (rD.out.frSet 4 _)).new bU bN _).new bU bN _)⟩
        ·have hl:c1.stk.length<1:=by omega
         have l7:Hid ((h2.fin 6).over=true):=cB Fv.out
         have UY:Hid ((h2.fin 6).must false=h2.fin 6):=pH h2 6 6 Fv.out
         have Xg:Hid (nth ag (List.replicate 1 ag) 0=ag):=rfl
         have tG:Hid (LP=((h2.fin 6).leave,ag)):=by
          show LP=_
          rw [Fx.out,if_pos hop]
          unfold ju
          rw [if_neg (by rw [mi.out];exact hrk)]
          dsimp only
          rw [cR (by omega),pW (by omega),l7.out]
          show (((h2.fin 6).must (false&&_)).leave,nth ag (List.replicate 1 ag) 0)=_
          rw [Bool.false_and,UY.out];rfl
         have Ea:0≤(h2.fin 6).calls/\(h2.fin 6).calls≤20:=by rw [(gy h2 6).calls];exact G2.out.calls
         have hz:(I.op==20)=true:=by simpa using hop
         have US:(m.ret.kind !=0)=true:=by simpa using hrk
         clear hop hrk
         go_wp2_with (first
          | (go_at_call 57;refine (dK w0 g HK.out p h2 ⟨w1.heap.size+1,w1.heap.size,m.locs.toNat,P,CC,K,pp,cc,kk⟩ c1 1 _ AA Fy wV.out FC.out Fv.out hl (by omega)).mono ?_;rintro e w7 ⟨A1,cV,bc,rfl,cu,h7,c7,f7,-⟩;obtain ⟨b,off,rfl,hcell⟩:=cu.fst (by simp);have t0:=(hcell 0 (by simp)).1;have t1:=(hcell 0 (by simp)).2;rw [Nat.zero_mul,Nat.add_zero] at t0 t1;clear hcell cu;rw [Xg.out] at t0 t1;have SF:Hid (Fq w0.heap.size g.T ⟨w1.heap.size+1,w1.heap.size,m.locs.toNat,P,CC,K,pp,cc,kk⟩ WA (V5.alloc iq)):=Cq;have M7:=(UW.out.fq HK.out f7 n5 n6).cells;have Xd:=M7.c1;have Xe:=M7.c2;clear M7;have B7:=UX.out.fq HK.out f7 s5 s6;have u0:=B7.c0;have u1:=B7.c1;have u2:=B7.fr 0;have u3:=B7.fr 1;have Ps:Hid (aQ w7 V5.heap.size ag):=B7;clear B7;have iC:w7.cell? ⟨p,12,none⟩=some (.bool true):=(by obtain ⟨vt,vw,IE,X'⟩:=h7;rw [X'.cells.c12,l7.out]);have SG:Hid (Hs w0 g ((w7.setCell ⟨V5.heap.size,0,none⟩ (int i64 ag.kind)).setCell ⟨V5.heap.size,1,none⟩ (int i64 ag.n)) p (h2.fin 6)):=h7.cf (Ps.out.cf HK.out s7 _ _);have SH:Hid (aQ ((w7.setCell ⟨V5.heap.size,0,none⟩ (int i64 ag.kind)).setCell ⟨V5.heap.size,1,none⟩ (int i64 ag.n)) V5.heap.size ag):=Ps.out.set ag;have F8:Hid (Fq w0.heap.size g.T ⟨w1.heap.size+1,w1.heap.size,m.locs.toNat,P,CC,K,pp,cc,kk⟩ WA ((w7.setCell ⟨V5.heap.size,0,none⟩ (int i64 ag.kind)).setCell ⟨V5.heap.size,1,none⟩ (int i64 ag.n))):=Fq.box2 (SF.out.trans f7) Fz.out.bl.size s7 _ _;clear h7 c7)
          | (go_at_call 56;refine (bj w0 g HK.out p (h2.fin 6) false _ SG.out).mono ?_;rintro e Cr ⟨rfl,N4,f10⟩;rw [UY.out] at N4;have MS:=SH.out.keep HK.out f10;have k0:=MS.c0;have k1:=MS.c1;clear MS;have Pt:Hid (Fq w0.heap.size g.T ⟨w1.heap.size+1,w1.heap.size,m.locs.toNat,P,CC,K,pp,cc,kk⟩ WA Cr):=F8.out.trans f10.fq;obtain ⟨vo,vx,hv,HX⟩:=N4;have c4:=HX.cells.c4;have f4:=HX.free 4;have rD:Hid (cC w0 g Cr p (h2.fin 6) vo vx hv):=HX;clear HX;have bx:=ML.out.fq HK.out Pt.out n3 n4;have r0:=bx.c0;have r1:=bx.c1;have r2:=bx.fr 0;have r3:=bx.fr 1;have jO:Hid (aQ Cr (w.heap.size+1) ag):=bx;clear bx))
         (try simp only [Exit.inBlock,Exit.then])
         refine bodyPost_ret (results_cell_row rfl _ _ (w.heap.size+1) _ _ _ _ rfl ((jO.out.far Aj).set ag).blk Tryz.underlying62 rfl bk) rfl ?_
         rw [tG.out]
         exact ⟨rfl,⟨vo,vx,hv,(rD.out.leave HK.out).cf ((jO.out.far Aj).cf HK.out bN _ _)⟩,((((Fq.fr MM.out Pt.out JD Lj).trans (rD.out.frSet 4 _)).new bU bN _).new bU bN _)⟩
      ·have DA:Hid (∀w',Hs w0 g w' p h2->Cs w0 w' ⟨w1.heap.size+1,w1.heap.size,m.locs.toNat,P,CC,K,pp,cc,kk⟩ c1->Calls Tryz.prog 59 #[.pointer (some ⟨p,0,none⟩),.pointer (some ⟨w1.heap.size+1,0,none⟩),.agg (cO I.op I.a I.b I.c I.n Qa I.args.length qq)] w' fun e w'' =>
         e=.returned (int i64 (Cm k' h2 c1 I).nx)/\Hs w0 g w'' p (Cm k' h2 c1 I).h/\Cs w0 w'' ⟨w1.heap.size+1,w1.heap.size,m.locs.toNat,P,CC,K,pp,cc,kk⟩ (Cm k' h2 c1 I).c/\Fq w0.heap.size g.T ⟨w1.heap.size+1,w1.heap.size,m.locs.toNat,P,CC,K,pp,cc,kk⟩ w' w''):=fun w' a1 a2 =>
        MI w0 g p h2 ⟨w1.heap.size+1,w1.heap.size,m.locs.toNat,P,CC,K,pp,cc,kk⟩ c1 I Qa I.args.length qq w' a1 a2 Fw.out Fv.out ⟨by rw [HN.out];omega,by rw [HN.out,mi.out];omega⟩ hop k' (WU.out k' Sz.out) G2.out UK.out Pq.out JE.out.1 Sy.out
       have KD:Hid (Kept h2 c1 (Cm k' h2 c1 I)):=JA Fw.out.may G2.out Pq.out Fv.out UK.out JE.out.1 JE.out.2 ⟨by rw [HN.out];omega,by rw [HN.out,mi.out];omega⟩
       have SI:Hid (LP=dM (bF k') (Cm k' h2 c1 I)):=by show LP=_;rw [Fx.out,if_neg hop]
       have hz:(I.op==20)=false:=by simpa using hop
       clear hop Fx JE
       generalize Cm k' h2 c1 I=D at *
       cases bq:D.h.over
       ·by_cases ht:0≤D.h.thrown
        ·have UZ:Hid (∀w',Hs w0 g w' p D.h->Calls Tryz.prog 60 #[.pointer (some ⟨p,0,none⟩),iU m P CC K pp cc kk,int i64 (n:Int)] w' fun e w''=>e=.returned (int i64 (D.h.caughtL (n:Int) m.hands))/\Hs w0 g w'' p D.h/\Fr w0.heap.size g.T w' w''):=fun w' hx=>yG w0 g p D.h m P CC K pp cc kk (n:Int) w' hx (Fw.out.le KD.out.le).cw vE.out.2.2.1 ⟨ht,KD.out.gh.thr.2⟩
         have MT:Hid (D.c.pc=n):=KD.out.pc.trans HN.out
         have Uu:Hid (D.c.m=m):=KD.out.m.trans mi.out
         have SJ:decide (0≤D.h.thrown)=true:=decide_eq_true ht
         have QR:Hid (Gc D.h D.c):=KD.out.gc bq
         have Pe:Hid (LP=if D.h.caughtL (n:Int) m.hands<0 then (D.h.leave,ag) else bF k' (({ D.h with thrown:=-1 }:Hp).putH { D.c with stk:=[] } ⟨3,D.h.thrown⟩) { (({ D.c with stk:=[] }:aH).put ⟨3,D.h.thrown⟩) with pc:=D.h.caughtL (n:Int) m.hands }):=by
          show LP=_
          rw [SI.out];unfold dM;rw [if_neg (by rw [bq];decide),if_pos ht,MT.out,Uu.out]
         have U0:Hid (D.h.caughtL (n:Int) m.hands=-1∨(0≤D.h.caughtL (n:Int) m.hands/\D.h.caughtL (n:Int) m.hands<D.c.m.code.length)):=by
          have:=lW (h:=D.h) (pc:=(n:Int)) (n:=D.c.m.code.length) (k:=D.h.file.classes.length) D.c.m.hands (jh QR.out.me).2.2.2.2.2.2.2.2.2.1
          rw [Uu.out] at this ⊢;exact this
         generalize D.h.caughtL (n:Int) m.hands=AT at *
         by_cases hat:AT<0
         ·have tG:Hid (LP=(D.h.leave,ag)):=by show LP=_;rw [Pe.out,if_pos hat]
          have SK:decide (AT<0)=true:=decide_eq_true hat
          have Ea:0≤D.h.calls/\D.h.calls≤20:=KD.out.gh.calls
          go_wp2_with (go_at_call 59;refine (DA.out _ N2.out ⟨AA,Fy,N3.out⟩).mono ?_;rintro e w6 ⟨rfl,ox,FG,FH⟩;have Cq:Hid (Fq w0.heap.size g.T ⟨w1.heap.size+1,w1.heap.size,m.locs.toNat,P,CC,K,pp,cc,kk⟩ WA w6):=Lx.out.trans FH;have wV:Hid (Hs w0 g w6 p D.h):=ox;have Ct:Hid (Cs w0 w6 ⟨w1.heap.size+1,w1.heap.size,m.locs.toNat,P,CC,K,pp,cc,kk⟩ D.c):=FG;have iC:w6.cell? ⟨p,12,none⟩=some (.bool false):=(by obtain ⟨vo,vx,hv,X⟩:=ox;rw [X.cells.c12,bq]);have SL:w6.cell? ⟨p,13,none⟩=some (int i64 D.h.thrown):=(by obtain ⟨vo,vx,hv,X⟩:=ox;exact X.cells.c13);clear ox FG FH;obtain ⟨A6,yP,C6⟩:=Ct.out;have L7:w6.cell? ⟨w1.heap.size+1,10,none⟩=some (int i64 (n:Int)):=(by rw [<-MT.out];exact C6.cells.c10);have FC:Hid (bp w0 w6 ⟨w1.heap.size+1,w1.heap.size,m.locs.toNat,P,CC,K,pp,cc,kk⟩ D.c A6 yP):=C6;clear C6;have x:=(He.out.fq HK.out Cq.out n5 n6).cells;have x0:=x.c0;have x1:=x.c1;have x2:=x.c2;have x3:=x.c3;have x4:=x.c4;have x5:=x.c5;have x6:=x.c6;have x7:=x.c7;clear x)
          go_region_held3 (fun w'=>w'.cell? ⟨w.heap.size,0,none⟩=some (.slice P m.params.length pp)/\w'.cell? ⟨w.heap.size,1,none⟩=some (int i64 m.ret.kind)/\w'.cell? ⟨w.heap.size,2,none⟩=some (int i64 m.ret.cls)/\w'.cell? ⟨w.heap.size,3,none⟩=some (int i64 m.stack)/\w'.cell? ⟨w.heap.size,4,none⟩=some (int i64 m.locs)/\w'.cell? ⟨w.heap.size,5,none⟩=some (int i64 m.regs)/\w'.cell? ⟨w.heap.size,6,none⟩=some (.slice CC m.code.length cc)/\w'.cell? ⟨w.heap.size,7,none⟩=some (.slice K m.hands.length kk)/\w'.cell? ⟨w1.heap.size+1,10,none⟩=some (int i64 (n:Int)))
           (go_keep)
           (first
            | (go_at_call 60;refine (UZ.out _ (by first|exact wV.out.cf (Cf.drew (Cf.refl _ _ _))|exact wV.out)).mono ?_;rintro e w7 ⟨rfl,MU,f7⟩;have F7:Hid (Fr w0.heap.size g.T w6 w7):=Fr.trans (Fr.drew (Fr.refl _ _ _)) f7;have N5:Hid (Fq w0.heap.size g.T ⟨w1.heap.size+1,w1.heap.size,m.locs.toNat,P,CC,K,pp,cc,kk⟩ WA w7):=Cq.out.trans F7.out.fq;have U1:Hid (Hs w0 g w7 p D.h):=MU;have C7:=FC.out.fr HK.out F7.out;have Xh:w7.cell? ⟨w1.heap.size+1,10,none⟩=some (int i64 (n:Int)):=(by rw [<-MT.out];exact C7.cells.c10);have Lz:Hid (bp w0 w7 ⟨w1.heap.size+1,w1.heap.size,m.locs.toNat,P,CC,K,pp,cc,kk⟩ D.c A6 yP):=C7;clear C7 f7;have y:=(He.out.fq HK.out N5.out n5 n6).cells;have y0:=y.c0;have y1:=y.c1;have y2:=y.c2;have y3:=y.c3;have y4:=y.c4;have y5:=y.c5;have y6:=y.c6;have y7:=y.c7;clear y;obtain ⟨vo,vx,hv,HX⟩:=MU;have c4:=HX.cells.c4;have f4:=HX.free 4;have rD:Hid (cC w0 g w7 p D.h vo vx hv):=HX;clear HX;have bx:=ML.out.fq HK.out N5.out n3 n4;have r0:=bx.c0;have r1:=bx.c1;have r2:=bx.fr 0;have r3:=bx.fr 1;have jO:Hid (aQ w7 (w.heap.size+1) ag):=bx;clear bx))
          go_wp2
          (try simp only [Exit.inBlock,Exit.then])
          refine bodyPost_ret (results_cell_row rfl _ _ (w.heap.size+1) _ _ _ _ rfl ((jO.out.far Aj).set ag).blk Tryz.underlying62 rfl bk) rfl ?_
          rw [tG.out]
          exact ⟨rfl,⟨vo,vx,hv,(rD.out.leave HK.out).cf ((jO.out.far Aj).cf HK.out bN _ _)⟩,((((Fq.fr MM.out N5.out JD Lj).trans (rD.out.frSet 4 _)).new bU bN _).new bU bN _)⟩
         ·have tG:Hid (bF k' (({ D.h with thrown:=-1 }:Hp).putH ({ D.c with stk:=[] }:aH) (⟨3,D.h.thrown⟩:Va)) { (({ D.c with stk:=[] }:aH).put (⟨3,D.h.thrown⟩:Va)) with pc:=AT }=LP):=by show _=LP;rw [Pe.out,if_neg hat]
          have SK:decide (AT<0)=false:=decide_eq_false hat
          go_wp2_with (go_at_call 59;refine (DA.out _ N2.out ⟨AA,Fy,N3.out⟩).mono ?_;rintro e w6 ⟨rfl,ox,FG,FH⟩;have Cq:Hid (Fq w0.heap.size g.T ⟨w1.heap.size+1,w1.heap.size,m.locs.toNat,P,CC,K,pp,cc,kk⟩ WA w6):=Lx.out.trans FH;have wV:Hid (Hs w0 g w6 p D.h):=ox;have Ct:Hid (Cs w0 w6 ⟨w1.heap.size+1,w1.heap.size,m.locs.toNat,P,CC,K,pp,cc,kk⟩ D.c):=FG;have iC:w6.cell? ⟨p,12,none⟩=some (.bool false):=(by obtain ⟨vo,vx,hv,X⟩:=ox;rw [X.cells.c12,bq]);have SL:w6.cell? ⟨p,13,none⟩=some (int i64 D.h.thrown):=(by obtain ⟨vo,vx,hv,X⟩:=ox;exact X.cells.c13);clear ox FG FH;obtain ⟨A6,yP,C6⟩:=Ct.out;have L7:w6.cell? ⟨w1.heap.size+1,10,none⟩=some (int i64 (n:Int)):=(by rw [<-MT.out];exact C6.cells.c10);have FC:Hid (bp w0 w6 ⟨w1.heap.size+1,w1.heap.size,m.locs.toNat,P,CC,K,pp,cc,kk⟩ D.c A6 yP):=C6;clear C6;have x:=(He.out.fq HK.out Cq.out n5 n6).cells;have x0:=x.c0;have x1:=x.c1;have x2:=x.c2;have x3:=x.c3;have x4:=x.c4;have x5:=x.c5;have x6:=x.c6;have x7:=x.c7;clear x)
          go_region_held3 (fun w'=>w'.cell? ⟨w.heap.size,0,none⟩=some (.slice P m.params.length pp)/\w'.cell? ⟨w.heap.size,1,none⟩=some (int i64 m.ret.kind)/\w'.cell? ⟨w.heap.size,2,none⟩=some (int i64 m.ret.cls)/\w'.cell? ⟨w.heap.size,3,none⟩=some (int i64 m.stack)/\w'.cell? ⟨w.heap.size,4,none⟩=some (int i64 m.locs)/\w'.cell? ⟨w.heap.size,5,none⟩=some (int i64 m.regs)/\w'.cell? ⟨w.heap.size,6,none⟩=some (.slice CC m.code.length cc)/\w'.cell? ⟨w.heap.size,7,none⟩=some (.slice K m.hands.length kk)/\w'.cell? ⟨w1.heap.size+1,10,none⟩=some (int i64 (n:Int)))
           (go_keep)
           (first
            | (go_at_call 60;refine (UZ.out _ (by first|exact wV.out.cf (Cf.drew (Cf.refl _ _ _))|exact wV.out)).mono ?_;rintro e w7 ⟨rfl,MU,f7⟩;have F7:Hid (Fr w0.heap.size g.T w6 w7):=Fr.trans (Fr.drew (Fr.refl _ _ _)) f7;have N5:Hid (Fq w0.heap.size g.T ⟨w1.heap.size+1,w1.heap.size,m.locs.toNat,P,CC,K,pp,cc,kk⟩ WA w7):=Cq.out.trans F7.out.fq;have U1:Hid (Hs w0 g w7 p D.h):=MU;have C7:=FC.out.fr HK.out F7.out;have Xh:w7.cell? ⟨w1.heap.size+1,10,none⟩=some (int i64 (n:Int)):=(by rw [<-MT.out];exact C7.cells.c10);have Lz:Hid (bp w0 w7 ⟨w1.heap.size+1,w1.heap.size,m.locs.toNat,P,CC,K,pp,cc,kk⟩ D.c A6 yP):=C7;clear C7 f7;have y:=(He.out.fq HK.out N5.out n5 n6).cells;have y0:=y.c0;have y1:=y.c1;have y2:=y.c2;have y3:=y.c3;have y4:=y.c4;have y5:=y.c5;have y6:=y.c6;have y7:=y.c7;clear y;obtain ⟨YX,YY,YZ,X7⟩:=MU;have Sj:=X7.cells.c13;have Xi:=X7.free 13;have zp:=af X7.blk;clear X7;have q9:=Lz.out.cells.c9;have Xj:=Lz.out.free 9;have SM:=Lz.out.free 10;have zq:=af Lz.out.blk;dsimp only at q9 Xj SM zq))
          have SN:Hid (Hs w0 g (((w7.setCell ⟨w1.heap.size+1,9,none⟩ (.slice none 0 0)).setCell ⟨p,13,none⟩ (int i64 (-1))).alloc (.cells #[int i64 3,int i64 D.h.thrown] 62)) p ({ D.h with thrown:=-1 }:Hp)/\bp w0 (((w7.setCell ⟨w1.heap.size+1,9,none⟩ (.slice none 0 0)).setCell ⟨p,13,none⟩ (int i64 (-1))).alloc (.cells #[int i64 3,int i64 D.h.thrown] 62)) ⟨w1.heap.size+1,w1.heap.size,m.locs.toNat,P,CC,K,pp,cc,kk⟩ ({ D.c with stk:=[] }:aH) none 0/\Fq w0.heap.size g.T ⟨w1.heap.size+1,w1.heap.size,m.locs.toNat,P,CC,K,pp,cc,kk⟩ WA (((w7.setCell ⟨w1.heap.size+1,9,none⟩ (.slice none 0 0)).setCell ⟨p,13,none⟩ (int i64 (-1))).alloc (.cells #[int i64 3,int i64 D.h.thrown] 62))):=by
           have c8:=Lz.out.setStk (A':=none) (cap':=0) (l:=[]) (Or.inl rfl) (Nat.le_refl _)
           have h8:=U1.out.cf (Lz.out.cf HK.out 9 (.slice none 0 0))
           have q8:=N5.out.trans (Lz.out.fq g.T 9 (.slice none 0 0))
           obtain ⟨vo,vx,hv,X⟩:=h8
           have h9:Hs w0 g ((w7.setCell ⟨w1.heap.size+1,9,none⟩ (.slice none 0 0)).setCell ⟨p,13,none⟩ (int i64 (-1))) p ({ D.h with thrown:=-1 }:Hp):=⟨vo,vx,hv,X.set HK.out ({ D.h with thrown:=-1 }:Hp) rfl rfl rfl⟩
           have c9:=c8.fr HK.out (X.frSet 13 (int i64 (-1)))
           have Xk:=q8.trans (X.frSet 13 (int i64 (-1))).fq
           have b9:Bl ((w7.setCell ⟨w1.heap.size+1,9,none⟩ (.slice none 0 0)).setCell ⟨p,13,none⟩ (int i64 (-1))) (((w7.setCell ⟨w1.heap.size+1,9,none⟩ (.slice none 0 0)).setCell ⟨p,13,none⟩ (int i64 (-1))).alloc (.cells #[int i64 3,int i64 D.h.thrown] 62)):=(Bl.refl _).alloc _
           exact ⟨h9.old b9,c9.old b9,Xk.trans (Fr.fq (Fr.old h9.base b9))⟩
          go_wp2_with (go_at_call 61;refine (kh w0 g HK.out p ({ D.h with thrown:=-1 }:Hp) ⟨w1.heap.size+1,w1.heap.size,m.locs.toNat,P,CC,K,pp,cc,kk⟩ ({ D.c with stk:=[] }:aH) (⟨3,D.h.thrown⟩:Va) _ SN.out.1 ⟨none,0,SN.out.2.1⟩ (by simp)).mono ?_;rintro e Cr ⟨rfl,Pv,SP,Pw⟩;obtain ⟨Xl,Px,QS⟩:=SP;have Yu:Cr.cell? ⟨w1.heap.size+1,10,none⟩=some (int i64 D.c.pc):=QS.cells.c10;have Xm:Cr.frozen? ⟨w1.heap.size+1,10,none⟩=false:=QS.free 10;have JG:Hid (bp w0 Cr ⟨w1.heap.size+1,w1.heap.size,m.locs.toNat,P,CC,K,pp,cc,kk⟩ (({ D.c with stk:=[] }:aH).put (⟨3,D.h.thrown⟩:Va)) Xl Px):=QS;have Py:Hid (Hs w0 g Cr p (({ D.h with thrown:=-1 }:Hp).putH ({ D.c with stk:=[] }:aH) (⟨3,D.h.thrown⟩:Va))):=Pv;have SQ:Hid (Fq w0.heap.size g.T ⟨w1.heap.size+1,w1.heap.size,m.locs.toNat,P,CC,K,pp,cc,kk⟩ WA Cr):=SN.out.2.2.trans Pw;clear QS Pv Pw)
          have U2:Le D.h ({ D.h with thrown:=-1 }:Hp):=⟨rfl,rfl,rfl,Nat.le_refl _,Int.le_refl _,rfl⟩
          have yQ:Hid (Le h2 (({ D.h with thrown:=-1 }:Hp).putH ({ D.c with stk:=[] }:aH) (⟨3,D.h.thrown⟩:Va))):=(KD.out.le.trans U2).trans (dp _ _ _)
          have gt:Gh 0 ({ D.h with thrown:=-1 }:Hp):=KD.out.gh.same rfl rfl rfl rfl rfl rfl rfl ⟨by dsimp only;omega,by dsimp only;omega⟩
          have gv:iJ ({ D.h with thrown:=-1 }:Hp) (⟨3,D.h.thrown⟩:Va):=⟨fun _=>⟨by dsimp only;omega,KD.out.gh.thr.2⟩,by have:=KD.out.gh.thr;have:=KD.out.gh.len;dsimp only;unfold cP;omega⟩
          have RA:Gc ({ D.h with thrown:=-1 }:Hp) ({ D.c with stk:=[] }:aH):=by
           have x:=QR.out.le U2
           refine ⟨fun v hv=>by simp at hv,x.locs,x.ok,?_,x.len,x.me,x.mok⟩
           have:=(jh x.me).1
           show ((aP []:Nat):Int)≤_
           simp [aP];exact this
          have L9:({ D.h with thrown:=-1 }:Hp).stops=false:=by unfold Hp.stops;dsimp only;rw [bq];rfl
          have O0:Hid (Inv (({ D.h with thrown:=-1 }:Hp).putH ({ D.c with stk:=[] }:aH) (⟨3,D.h.thrown⟩:Va)) { (({ D.c with stk:=[] }:aH).put (⟨3,D.h.thrown⟩:Va)) with pc:=AT }):=fun NN=>⟨lj _ _ _,(ji RA gv L9 NN).pc _,by have:=U0.out;dsimp only;omega,by have:=U0.out;show AT≤D.c.m.code.length;omega⟩
          have Pz:Hid (Gh 0 (({ D.h with thrown:=-1 }:Hp).putH ({ D.c with stk:=[] }:aH) (⟨3,D.h.thrown⟩:Va))):=gt.putH _ _
          go_roundw
          case rel=>exact ⟨k',(({ D.h with thrown:=-1 }:Hp).putH ({ D.c with stk:=[] }:aH) (⟨3,D.h.thrown⟩:Va)),{ (({ D.c with stk:=[] }:aH).put (⟨3,D.h.thrown⟩:Va)) with pc:=AT },⟨Py.out.cf (JG.out.cf HK.out 10 _),⟨_,_,JG.out.setPc _⟩,SQ.out.trans (JG.out.fq _ 10 _),Pz.out,by rw [yQ.out.calls];exact UL.out,O0.out,KD.out.m.trans mi.out,yQ.out.file.trans N1.out.1,yQ.out.input.trans N1.out.2.1,yQ.out.fuel.trans N1.out.2.2,by have:=yQ.out.steps;have:=yQ.out.fuel;have:=Sy.out;omega,Nat.le_of_lt Sz.out,tG.out⟩⟩
          case measure =>
           have DR:=tK (Py.out.cf (JG.out.cf HK.out 10 (int i64 AT))) h0.fuel
           have key:∀S:Int,h2.sh.steps≤S->(h0.fuel-S).toNat<ot p h0.fuel wr:=fun S hS=>by have DS:=UM.out;rw [DS.1];omega
           rw [DR]
           exact key _ yQ.out.steps
        ·have Ma:D.h.thrown=-1:=by have:=KD.out.gh.thr;omega
         have Xn:Hid (D.h.thrown=-1):=Ma
         have tG:Hid (bF k' D.h { D.c with pc:=D.nx }=LP):=by
          show _=LP
          rw [SI.out];unfold dM;rw [if_neg (by rw [bq];decide),if_neg ht]
         have SJ:decide (0≤D.h.thrown)=false:=decide_eq_false ht
         have QR:Hid (Gc D.h D.c):=KD.out.gc bq
         have yH:Hid (0≤D.nx/\D.nx≤D.c.m.code.length):=by show _/\_;rw [KD.out.m];exact KD.out.nx
         clear ht Ma
         go_wp2_with (go_at_call 59;refine (DA.out _ N2.out ⟨AA,Fy,N3.out⟩).mono ?_;rintro e w6 ⟨rfl,ox,FG,FH⟩;have Cq:Hid (Fq w0.heap.size g.T ⟨w1.heap.size+1,w1.heap.size,m.locs.toNat,P,CC,K,pp,cc,kk⟩ WA w6):=Lx.out.trans FH;have wV:Hid (Hs w0 g w6 p D.h):=ox;have Ct:Hid (Cs w0 w6 ⟨w1.heap.size+1,w1.heap.size,m.locs.toNat,P,CC,K,pp,cc,kk⟩ D.c):=FG;have iC:w6.cell? ⟨p,12,none⟩=some (.bool false):=(by obtain ⟨vo,vx,hv,X⟩:=ox;rw [X.cells.c12,bq]);have SL:w6.cell? ⟨p,13,none⟩=some (int i64 D.h.thrown):=(by obtain ⟨vo,vx,hv,X⟩:=ox;exact X.cells.c13);clear ox FG FH;obtain ⟨A6,yP,C6⟩:=Ct.out;have L7:w6.cell? ⟨w1.heap.size+1,10,none⟩=some (int i64 D.c.pc):=C6.cells.c10;have f10:w6.frozen? ⟨w1.heap.size+1,10,none⟩=false:=C6.free 10;have FC:Hid (bp w0 w6 ⟨w1.heap.size+1,w1.heap.size,m.locs.toNat,P,CC,K,pp,cc,kk⟩ D.c A6 yP):=C6;clear C6)
         go_roundw
         case rel=>exact ⟨k',D.h,{ D.c with pc:=D.nx },⟨wV.out.cf (FC.out.cf HK.out 10 _),⟨_,_,FC.out.setPc _⟩,Cq.out.trans (FC.out.fq _ 10 _),KD.out.gh,by rw [KD.out.le.calls];exact UL.out,fun _=>⟨Xn.out,QR.out.pc _,yH.out⟩,KD.out.m.trans mi.out,KD.out.le.file.trans N1.out.1,KD.out.le.input.trans N1.out.2.1,KD.out.le.fuel.trans N1.out.2.2,by have:=KD.out.le.steps;have:=KD.out.le.fuel;have:=Sy.out;omega,Nat.le_of_lt Sz.out,tG.out⟩⟩
         case measure =>
          have DR:=tK (wV.out.cf (FC.out.cf HK.out 10 (int i64 D.nx))) h0.fuel
          have key:∀S:Int,h2.sh.steps≤S->(h0.fuel-S).toNat<ot p h0.fuel wr:=fun S hS=>by have DS:=UM.out;rw [DS.1];omega
          rw [DR]
          exact key _ KD.out.le.steps
       ·have tG:Hid (LP=(D.h.leave,ag)):=by
         show LP=_
         rw [SI.out];unfold dM;rw [if_pos bq]
        have Ea:0≤D.h.calls/\D.h.calls≤20:=KD.out.gh.calls
        go_wp2_with (go_at_call 59;refine (DA.out _ N2.out ⟨AA,Fy,N3.out⟩).mono ?_;rintro e w6 ⟨rfl,ox,FG,FH⟩;have Cq:Hid (Fq w0.heap.size g.T ⟨w1.heap.size+1,w1.heap.size,m.locs.toNat,P,CC,K,pp,cc,kk⟩ WA w6):=Lx.out.trans FH;have wV:Hid (Hs w0 g w6 p D.h):=ox;have Ct:Hid (Cs w0 w6 ⟨w1.heap.size+1,w1.heap.size,m.locs.toNat,P,CC,K,pp,cc,kk⟩ D.c):=FG;have iC:w6.cell? ⟨p,12,none⟩=some (.bool true):=(by obtain ⟨vo,vx,hv,X⟩:=ox;rw [X.cells.c12,bq]);have SL:w6.cell? ⟨p,13,none⟩=some (int i64 D.h.thrown):=(by obtain ⟨vo,vx,hv,X⟩:=ox;exact X.cells.c13);clear ox FG FH;have MU:=wV.out;obtain ⟨vo,vx,hv,HX⟩:=MU;have c4:=HX.cells.c4;have f4:=HX.free 4;have rD:Hid (cC w0 g w6 p D.h vo vx hv):=HX;clear HX;have bx:=ML.out.fq HK.out Cq.out n3 n4;have r0:=bx.c0;have r1:=bx.c1;have r2:=bx.fr 0;have r3:=bx.fr 1;have jO:Hid (aQ w6 (w.heap.size+1) ag):=bx;clear bx)
        (try simp only [Exit.inBlock,Exit.then])
        refine bodyPost_ret (results_cell_row rfl _ _ (w.heap.size+1) _ _ _ _ rfl ((jO.out.far Aj).set ag).blk Tryz.underlying62 rfl bk) rfl ?_
        rw [tG.out]
        exact ⟨rfl,⟨vo,vx,hv,(rD.out.leave HK.out).cf ((jO.out.far Aj).cf HK.out bN _ _)⟩,((((Fq.fr MM.out Cq.out JD Lj).trans (rD.out.frSet 4 _)).new bU bN _).new bU bN _)⟩
     ·have tG:Hid (LP=((h2.fin 6).leave,ag)):=by
       show LP=_
       have e1:h2.mustB (decide (c1.pc<c1.m.code.length))=false:=by rw [kH h2 Fv.out,mi.out];exact decide_eq_false oU
       have e2:h2.must (decide (c1.pc<c1.m.code.length))=h2.fin 6:=by rw [mi.out,decide_eq_false oU];rfl
       rw [SB.out]
       unfold gw
       rw [if_pos e1,e2]
      have Ea:0≤(h2.fin 6).calls/\(h2.fin 6).calls≤20:=by rw [(gy h2 6).calls];exact G2.out.calls
      have hd:decide (c1.pc<m.code.length)=false:=decide_eq_false oU
      have wS:Hid (h2.mustB false=false):=rfl
      have sD:Hid (h2.must false=h2.fin 6):=rfl
      go_wp2_with (go_at_call 55;refine SA.out.mono ?_;rintro e w2 ⟨rfl,s9,f2⟩;have MN:Hid (Fq w0.heap.size g.T ⟨w1.heap.size+1,w1.heap.size,m.locs.toNat,P,CC,K,pp,cc,kk⟩ WA w2):=EL.out.trans f2.fq;have Dn:Hid (Hs w0 g w2 p h2):=s9;obtain ⟨AA,Fy,MP⟩:=SC.out.fr HK.out f2;have d10:w2.cell? ⟨w1.heap.size+1,10,none⟩=some (int i64 c1.pc):=MP.cells.c10;have m6:=(He.out.fq HK.out MN.out n5 n6).cells.c6;clear MP)
      go_region_held3 (fun w'=>w'.cell? ⟨w1.heap.size+1,10,none⟩=some (int i64 c1.pc)/\w'.cell? ⟨w.heap.size,6,none⟩=some (.slice CC m.code.length cc))
       (go_keep)
       (first
        | (go_at_call 56;refine (bj w0 g HK.out p h2 false _ (by first|exact Dn.out.cf (Cf.drew (Cf.refl _ _ _))|exact Dn.out)).mono ?_;rintro e w3 ⟨he,Rn,f3⟩;rw [wS.out] at he;subst he;rw [sD.out] at Rn;have F3:Hid (Fr w0.heap.size g.T wr w3):=Fr.trans (Fr.trans f2 (Fr.drew (Fr.refl _ _ _))) f3;have SR:Hid (Fq w0.heap.size g.T ⟨w1.heap.size+1,w1.heap.size,m.locs.toNat,P,CC,K,pp,cc,kk⟩ WA w3):=EL.out.trans F3.out.fq;obtain ⟨Y0,Y2,U3⟩:=SC.out.fr HK.out F3.out;have Xo:w3.cell? ⟨w1.heap.size+1,10,none⟩=some (int i64 c1.pc):=U3.cells.c10;have Y3:=(He.out.fq HK.out SR.out n5 n6).cells.c6;clear U3;obtain ⟨vo,vx,hv,HX⟩:=Rn;have c4:=HX.cells.c4;have f4:=HX.free 4;have rD:Hid (cC w0 g w3 p (h2.fin 6) vo vx hv):=HX;clear HX;have bx:=ML.out.fq HK.out SR.out n3 n4;have r0:=bx.c0;have r1:=bx.c1;have r2:=bx.fr 0;have r3:=bx.fr 1;have jO:Hid (aQ w3 (w.heap.size+1) ag):=bx;clear bx))
      go_wp2
      (try simp only [Exit.inBlock,Exit.then])
      refine bodyPost_ret (results_cell_row rfl _ _ (w.heap.size+1) _ _ _ _ rfl ((jO.out.far Aj).set ag).blk Tryz.underlying62 rfl bk) rfl ?_
      rw [tG.out]
      exact ⟨rfl,⟨vo,vx,hv,(rD.out.leave HK.out).cf ((jO.out.far Aj).cf HK.out bN _ _)⟩,((((Fq.fr MM.out SR.out JD Lj).trans (rD.out.frSet 4 _)).new bU bN _).new bU bN _)⟩
end Go.Proofs.YtimjmdfokicbkaaGreat
