import Derived.Test.YtgiiapenmjollaaGreatRrai
import Derived.Test.YtgiiapenmjollaaGreatRrar
namespace Go.Proofs.YtgiiapenmjollaaGreat
set_option linter.all false
set_option maxHeartbeats 40000000
set_option maxRecDepth 100000
open Go.RowKit
variable {g:Ad} {a:Ca} {c:aL} {h:Hp} {l:List Va} {b p:Nat} {v:Va} {w w0:World}
theorem tW:∀(l:List Va) (l0:List Va) (fE:Nat) (v:Va),dT l0 fE (l++[v])=eL (dT l0 fE l) (fE+bN l) v
 | [],l0,fE,v=>by simp [dT,bN]
 | x::l,l0,fE,v=>by
  show dT (eL l0 fE x) (fE+bN [x]) (l++[v])=eL (dT (eL l0 fE x) (fE+bN [x]) l) (fE+bN (x::l)) v
  rw [tW l]
  have:fE+bN [x]+bN l=fE+bN (x::l):=by simp [bN];omega
  rw [this]
theorem sx {k:Nat} (h:k<l.length):l.take (k+1)=l.take k++[nth aE l k]:=by
 rw [List.take_succ_eq_append_getElem h,cg h]
theorem EF {m:Me} (EG:fG h.file.classes h.file.methods m=true) (hl:l.length=m.params.length) (hg:∀v∈l,jw h v) (he:h.enterL l m.params=true) (k:Nat) (hk:k<=l.length) :
  iK (dT (List.replicate m.regs.toNat aE) 0 (l.take k))/\(dT (List.replicate m.regs.toNat aE) 0 (l.take k)).length=m.regs.toNat/\(bN (l.take k):Int)<=m.regs /\
  (k<l.length->(bN (l.take k):Int)<m.regs/\((nth aE l k).kind=2->(bN (l.take k):Int)+1<m.regs)):=by
 obtain ⟨p1,p2,p3,p5,p6,p7,p8,p9,N0,PN⟩:=j6 EG
 obtain ⟨s1,s2⟩:=ix h h.file.classes.length l m.params hl he p9
 have hle:=lG l k
 obtain ⟨k1,k2,k3⟩:=oT h (l.take k) (List.replicate m.regs.toNat aE) 0 (Gr _) (fun x hx=>by rw [List.eq_of_mem_replicate hx];exact jx h) (fun x hx=>hg x (List.mem_of_mem_take hx)) (fun x hx=>s2 x (List.mem_of_mem_take hx)) (by rw [List.length_replicate];omega)
 refine ⟨k1,by rw [k3,List.length_replicate],by omega,fun hlt=>?_⟩
 have h1:=lG l (k+1)
 rw [sx hlt,jD,kJ] at h1
 split at h1
 ·omega
 ·exact ⟨by omega,fun e=>by contradiction⟩
theorem dU.hs {w':World} (H:Hs w0 g w p h) (o:dU b w w') (k:Tk g.T) (L:cL w b l) (hb:w0.heap.size<=b):Hs w0 g w' p h:=H.cf (o.cf k L hb H.base)
theorem ej.only {lb:Nat} {w':World} {A:Option Addr} (h:ej lb w A l) (o:dU b w w') (N:Nat) (hN:N<=b) (he:∀x y cs f,A=some ⟨x,y,none⟩->w.heap[x]?=some (.cells cs 62 f)->0<l.length->x<N):ej lb w' A l:=by
 rcases h with h|⟨x,y,cs,f,h1,h2,h3,h4⟩
 ·exact Or.inl h
 ·by_cases h0:l.length=0
  ·exact Or.inl h0
  ·have:=he x y cs f h1 h2 (by omega)
   exact Or.inr ⟨x,y,cs,f,h1,(o.block x (af h2) (by omega)).trans h2,h3,h4⟩
theorem Jb (b:Nat) (l:List Va) (a c n:Nat) (v:Va) (w:World) (hL:cL w b l) (hok:iK l) (hn:n=l.length) (ha:a<n) (h2:v.kind=2->a+1<n) :
  χ 52 #[.slice (some ⟨b,0,none⟩) n c,ι (a:Int),jh v] w fun e w'=>e=.returned (.tuple #[])/\cL w' b (eL l a v)/\dU b w w':=by
 subst hn
 exact tE b l a c v w hL hok ha h2
theorem Ma {off:Nat} (h0:κ w b off (ι v.kind)) (h1:κ w b (off+1) (ι v.n)):Gn w (some ⟨b,off,none⟩) [v] :=
 ⟨by unfold maxLen;simp,Or.inr ⟨b,off,rfl,fun i hi=>by
  have:i=0:=by simp at hi;exact hi
  subst this
  rw [Nat.zero_mul,Nat.add_zero]
  exact ⟨h0,h1⟩⟩⟩
structure L2 (w0:World) (g:Ad) (p:Nat) (ca:Ca) (m:Me) (WA:World) (h0:Hp) (N:Nat) (LP:Hp×Va) (k:Nat) (h1:Hp) (c1:aL) (wr:World):Prop where
 hs:Hs w0 g wr p h1
 cs:aK w0 wr ca c1
 fq:Fq w0.heap.size g.T ca WA wr
 gh:Gh 0 h1
 kd:Kd h1
 calls:1<=h1.calls
 inv:Inv h1 c1
 me:c1.m=m
 file:h1.file=h0.file
 inp:h1.input=h0.input
 fuel:h1.fuel=h0.fuel
 left:(h1.fuel-h1.sh.steps).toNat<=k
 le:k<=N
 is:cn k h1 c1=LP
def ph (p:Nat) (fuel:Int) (w:World):Nat:=match w.cell? ⟨p,11,none⟩ with
 | some v=>(fuel-intOf v).toNat
 | none=>0
theorem we (H:Hs w0 g w p h) (fuel:Int):ph p fuel w=(fuel-h.sh.steps).toNat:=by
 obtain ⟨vo,vx,hv,X⟩:=H
 unfold ph
 rw [X.cells.c11]
 rfl
theorem Jc {k:Nat} (hb:h.stepB=false):cn k h c=(h.step.leave,aE):=by
 cases k with
 | zero=>rfl
 | succ k=>unfold cn;rw [if_pos hb]
theorem cO.leave {vo vx:Value} {hv:List Value} (H:cO w0 g w p h vo vx hv) (k:Tk g.T):cO w0 g (w.setCell ⟨p,4,none⟩ (ι (h.calls-1))) p h.leave vo vx hv:=H.set k _ rfl rfl rfl
theorem aC.far {i:Nat} {u:Value} (h:aC w b v) (hb:b≠p):aC (w.setCell ⟨p,i,none⟩ u) b v:=⟨by rw [ak hb];exact h.blk⟩
theorem mm (h:Hp) (ho:h.over=false) (b:Bool):h.mustB b=b:=by unfold Hp.mustB;rw [ho];simp
theorem Hs.c4 (H:Hs w0 g w p h):w.cell? ⟨p,4,none⟩=some (ι h.calls)/\w.frozen? ⟨p,4,none⟩=false:=by
 obtain ⟨vo,vx,hv,X⟩:=H
 exact ⟨X.cells.c4,X.free 4⟩
theorem aC.three (H:aC w b v):w.cell? ⟨b,0,none⟩=some (ι v.kind)/\w.cell? ⟨b,1,none⟩=some (ι v.n)/\∀i,w.frozen? ⟨b,i,none⟩=false:=⟨H.c0,H.c1,H.fr⟩
theorem aK.clrAt (H:aK w0 w a c):aK w0 ((((w.setCell ⟨a.q,9,none⟩ (ι 0)).setCell ⟨a.q,10,none⟩ (ι 0)).setCell ⟨a.q,11,none⟩ (ι 0)).setCell ⟨a.q,12,none⟩ (ι 0)) a c.clr:=by
 have a1:=H.setC (c':={ c with giv:=⟨0,c.giv.n⟩ }) (i:=9) (v:=ι 0) rfl rfl rfl
 have a2:=a1.setC (c':={ c with giv:=aE }) (i:=10) (v:=ι 0) rfl rfl rfl
 have a3:=a2.setC (c':={ c with giv:=aE,cau:=⟨0,c.cau.n⟩ }) (i:=11) (v:=ι 0) rfl rfl rfl
 exact a3.setC (c':=c.clr) (i:=12) (v:=ι 0) rfl rfl rfl
theorem aK.set4 {T:TypeId} (H:aK w0 w a c) (n7:¬gI T 149) (i j k l:Nat) (v x y z:Value):Cf w0.heap.size T w ((((w.setCell ⟨a.q,i,none⟩ v).setCell ⟨a.q,j,none⟩ x).setCell ⟨a.q,k,none⟩ y).setCell ⟨a.q,l,none⟩ z)/\Fq w0.heap.size T a w ((((w.setCell ⟨a.q,i,none⟩ v).setCell ⟨a.q,j,none⟩ x).setCell ⟨a.q,k,none⟩ y).setCell ⟨a.q,l,none⟩ z):=by
 have f:∀(u:World) (i:Nat) (v:Value),Fq w0.heap.size T a u (u.setCell ⟨a.q,i,none⟩ v):=fun u i v=>⟨(Below.refl _ u).setCell H.own v,fun b cs t f e n n1 n2=>by rw [ak n1];exact e⟩
 refine ⟨?_,(((f w i v).trans (f _ j x)).trans (f _ k y)).trans (f _ l z)⟩
 have b1:=ay (i:=i) H.blk v
 have b2:=ay (i:=j) b1 x
 have b3:=ay (i:=k) b2 y
 exact ((((Cf.refl _ _ w).set H.blk n7 H.own v).set b1 n7 H.own x).set b2 n7 H.own y).set b3 n7 H.own z
section
variable {N:Nat} {h:Hp} {c:aL} {i:In}
theorem Ri (e:i.op=19) (k:c.giv.kind=i.b) (ho:h.over=false):kl N h c i=⟨h,mN h c.clr i.a c.giv,c.pc+1⟩:=by
 unfold kl bV wN
 rw [if_neg (by omega),if_neg (by omega),if_neg (by omega),if_neg (by omega),if_neg (by omega),if_neg (by omega),if_pos e,mm h ho,decide_eq_true k,if_pos rfl]
 rfl
theorem Rj (e:i.op=19) (k:c.giv.kind≠i.b) (ho:h.over=false):kl N h c i=⟨h.must false,c.clr,c.pc+1⟩:=by
 unfold kl bV wN
 rw [if_neg (by omega),if_neg (by omega),if_neg (by omega),if_neg (by omega),if_neg (by omega),if_neg (by omega),if_pos e,mm h ho,decide_eq_false k,if_neg (by decide)]
theorem Rk (e:i.op=22) (k:c.cau.kind=3) (ho:h.over=false):kl N h c i=⟨h,mN h c.clr i.a c.cau,c.pc+1⟩:=by
 have e1:isRef c.cau=true:=decide_eq_true k
 unfold kl bV wO
 rw [if_neg (by omega),if_neg (by omega),if_neg (by omega),if_neg (by omega),if_neg (by omega),if_neg (by omega),if_neg (by omega),if_neg (by omega),if_pos e,mm h ho,e1,if_pos rfl]
 rfl
theorem Rl (e:i.op=22) (k:c.cau.kind≠3) (ho:h.over=false):kl N h c i=⟨h.must false,c.clr,c.pc+1⟩:=by
 have e1:isRef c.cau=false:=decide_eq_false k
 unfold kl bV wO
 rw [if_neg (by omega),if_neg (by omega),if_neg (by omega),if_neg (by omega),if_neg (by omega),if_neg (by omega),if_neg (by omega),if_neg (by omega),if_pos e,mm h ho,e1,if_neg (by decide)]
end
theorem Mb {V:World} (H:Hs w0 g V p h) (C:aK w0 V a c) (k:Cq w0 g h) :
  Hs w0 g ((((((V.setCell ⟨a.q,9,none⟩ (ι aE.kind)).setCell ⟨a.q,10,none⟩ (ι aE.n)).setCell ⟨a.q,11,none⟩ (ι aE.kind)).setCell ⟨a.q,12,none⟩ (ι aE.n)).alloc (.cells #[ι c.giv.kind,ι c.giv.n] 62)).alloc (.cells #[ι c.cau.kind,ι c.cau.n] 62)) p h/\aK w0 ((((((V.setCell ⟨a.q,9,none⟩ (ι aE.kind)).setCell ⟨a.q,10,none⟩ (ι aE.n)).setCell ⟨a.q,11,none⟩ (ι aE.kind)).setCell ⟨a.q,12,none⟩ (ι aE.n)).alloc (.cells #[ι c.giv.kind,ι c.giv.n] 62)).alloc (.cells #[ι c.cau.kind,ι c.cau.n] 62)) a c.clr/\Fq w0.heap.size g.T a V ((((((V.setCell ⟨a.q,9,none⟩ (ι aE.kind)).setCell ⟨a.q,10,none⟩ (ι aE.n)).setCell ⟨a.q,11,none⟩ (ι aE.kind)).setCell ⟨a.q,12,none⟩ (ι aE.n)).alloc (.cells #[ι c.giv.kind,ι c.giv.n] 62)).alloc (.cells #[ι c.cau.kind,ι c.cau.n] 62))/\aC ((((((V.setCell ⟨a.q,9,none⟩ (ι aE.kind)).setCell ⟨a.q,10,none⟩ (ι aE.n)).setCell ⟨a.q,11,none⟩ (ι aE.kind)).setCell ⟨a.q,12,none⟩ (ι aE.n)).alloc (.cells #[ι c.giv.kind,ι c.giv.n] 62)).alloc (.cells #[ι c.cau.kind,ι c.cau.n] 62)) V.heap.size c.giv/\aC ((((((V.setCell ⟨a.q,9,none⟩ (ι aE.kind)).setCell ⟨a.q,10,none⟩ (ι aE.n)).setCell ⟨a.q,11,none⟩ (ι aE.kind)).setCell ⟨a.q,12,none⟩ (ι aE.n)).alloc (.cells #[ι c.giv.kind,ι c.giv.n] 62)).alloc (.cells #[ι c.cau.kind,ι c.cau.n] 62)) (V.heap.size+1) c.cau/\(∀b,b≠a.q->b<V.heap.size->((((((V.setCell ⟨a.q,9,none⟩ (ι aE.kind)).setCell ⟨a.q,10,none⟩ (ι aE.n)).setCell ⟨a.q,11,none⟩ (ι aE.kind)).setCell ⟨a.q,12,none⟩ (ι aE.n)).alloc (.cells #[ι c.giv.kind,ι c.giv.n] 62)).alloc (.cells #[ι c.cau.kind,ι c.cau.n] 62)).heap[b]?=V.heap[b]?):=by
 obtain ⟨c1,c2⟩:=aK.set4 (T:=g.T) C k.n7 9 10 11 12 (ι aE.kind) (ι aE.n) (ι aE.kind) (ι aE.n)
 have c3:=C.clrAt
 have bb:Bl ((((V.setCell ⟨a.q,9,none⟩ (ι aE.kind)).setCell ⟨a.q,10,none⟩ (ι aE.n)).setCell ⟨a.q,11,none⟩ (ι aE.kind)).setCell ⟨a.q,12,none⟩ (ι aE.n)) ((((((V.setCell ⟨a.q,9,none⟩ (ι aE.kind)).setCell ⟨a.q,10,none⟩ (ι aE.n)).setCell ⟨a.q,11,none⟩ (ι aE.kind)).setCell ⟨a.q,12,none⟩ (ι aE.n)).alloc (.cells #[ι c.giv.kind,ι c.giv.n] 62)).alloc (.cells #[ι c.cau.kind,ι c.cau.n] 62)):=((Bl.refl _).alloc _).alloc _
 have hs:=H.cf c1
 have sz:((((V.setCell ⟨a.q,9,none⟩ (ι aE.kind)).setCell ⟨a.q,10,none⟩ (ι aE.n)).setCell ⟨a.q,11,none⟩ (ι aE.kind)).setCell ⟨a.q,12,none⟩ (ι aE.n)).heap.size=V.heap.size:=by simp
 refine ⟨hs.old bb,aK.old c3 bb,c2.trans (Fr.fq (Fr.old hs.base bb)),⟨?_⟩,⟨?_⟩,fun b hb hl=>?_⟩
 ·rw [<-sz];exact fH (by simp) (cK rfl)
 ·exact cK (by simp)
 ·rw [bb.block b (by rw [sz];exact hl),ak hb,ak hb,ak hb,ak hb]
end Go.Proofs.YtgiiapenmjollaaGreat
