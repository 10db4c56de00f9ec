import Derived.Test.YtgiiapenmjollaaGreatSraa
import Derived.Maps.OwnSet
import Derived.BigQuiet
import Derived.Laws.StructEq
import Derived.Deep.RegionHeld3
namespace Go.Proofs.YtgiiapenmjollaaGreat
set_option linter.all false
set_option maxHeartbeats 40000000
set_option maxRecDepth 100000
open Go.RowKit
open Go.Value (int)
open Go.IntKind (i64)
section
open Go.Maps (Keyed has)
structure Mg where
 r:Nat
 hb:Nat
 mp:Nat
 A:Option Addr
 a:Nat
 M:Option Addr
 m:Nat
 I:Option Addr
 i:Nat
structure Mc where
 q:Nat
 lb:Nat
 lc:Nat
 P:Option Addr
 p:Nat
 C:Option Addr
 c:Nat
 K:Option Addr
 k:Nat
def gM (g:Mg) (h:Hp) (vc vx:Value):Array Value :=
 #[.pointer (some ⟨g.hb,0,none⟩),.slice g.M h.file.methods.length g.m,.func (.func 17) #[] #[],vc,.slice g.I h.input.length g.i,.int .i64 h.fuel,.int .i64 h.sh.steps,.int .i64 h.sh.used,vx]
def fC (g:Mg) (h:Hp) (vo:Value):Array Value:=#[.slice g.A h.file.classes.length g.a,vo,.map (some g.mp)]
def nH (g:Mg) (a:Mc) (c:aH) (vs:Value):Array Value :=
 #[.pointer (some ⟨g.hb,0,none⟩),.pointer (some ⟨g.r,0,none⟩),.slice a.P c.m.params.length a.p,.int .i64 c.m.ret.kind,.int .i64 c.m.ret.cls,.int .i64 c.m.stack,.int .i64 c.m.locs,.int .i64 c.m.regs,.slice a.C c.m.code.length a.c,.slice a.K c.m.hands.length a.k,
  .int .i64 c.pc,.slice (some ⟨a.lb,0,none⟩) c.locs.length a.lc,vs]
def fD (q:Nat):List Value :=
 [.func (.func 40) #[.pointer (some ⟨q,0,none⟩)] #[],.func (.func 41) #[.pointer (some ⟨q,0,none⟩)] #[],.func (.func 42) #[.pointer (some ⟨q,0,none⟩)] #[]]
def cj:List Nat->List Value
 | []=>[]
 | q::l=>fD q++cj l
theorem gN (l:List Nat):(cj l).length=l.length*3:=by
 induction l with
 | nil=>rfl
 | cons x l ih=>simp [cj,fD,ih];omega
theorem gO (l k:List Nat):cj (l++k)=cj l++cj k:=by
 induction l with
 | nil=>rfl
 | cons x l ih=>simp [cj,ih]
def fk (v:Value):Option (DataW Nat×List MemPlace):=match v with
 | .agg cs=>match cs.toList with
  | [.int .i64 k,.int .i64 n]=>some (.agg [.lit (.int .i64 k),.lit (.int .i64 n)],[])
  | _=>none
 | _=>none
def KN (v:Va):DataW Nat:=.agg [.lit (.int .i64 v.kind),.lit (.int .i64 v.n)]
theorem si (v:Va):fk (cn v)=some (KN v,[]):=rfl
theorem ql {v:Value} {x:Va} {ps:List MemPlace} (h:fk v=some (KN x,ps)):v=cn x:=by
 unfold fk at h
 split at h
 ·rename_i cs
  split at h
  ·rename_i k n hc
   simp only [Option.some.injEq,Prod.mk.injEq,KN,DataW.agg.injEq,List.cons.injEq,DataW.lit.injEq,Lit.int.injEq,true_and,and_true] at h
   obtain ⟨⟨h1,h2⟩,-⟩:=h
   have:cs=#[.int .i64 k,.int .i64 n]:=by
    apply Array.ext'
    exact hc
   rw [this,h1,h2]
  ·cases h
 ·cases h
structure mB (s:Nat) (w:World) (mp:Nat) (h:Hp) (n:Nat) (D:DataW Nat):Prop where
 own:w.ownsMap Tryz.prog 265 fk mp n D
 few:(n:Int)+s<=h.sh.steps
 hit:∀(o:Nat) (c k:Int) (v:Va),o<h.objs.length->cP c->cP k->(∃x∈(nth cB h.objs o).held,x.cls=c/\x.fld=k/\x.v=v)->has D (ju (o+1) c k)=true->∀z,D.atKey (ju (o+1) c k) z=KN (im v)
 miss:∀(o:Nat) (c k:Int) (v:Va),o<h.objs.length->cP c->cP k->(∃x∈(nth cB h.objs o).held,x.cls=c/\x.fld=k/\x.v=v)->has D (ju (o+1) c k)=false->v=jc (dW h.file.classes c k)
 new:∀(o:Nat) (c k:Int),h.objs.length<=o->o<=100->cP c->cP k->has D (ju (o+1) c k)=false
 ks:∀(o:Nat),o<h.objs.length->(nth cB h.objs o).held.map (fun x=>(x.cls,x.fld))=(dA h.file.classes (nth cB h.objs o).cls.toNat).map (fun x=>(x.cls,x.fld))
 kd:∀(o:Nat),o<h.objs.length->∀x∈(nth cB h.objs o).held,x.v.kind=(dW h.file.classes x.cls x.fld).kind
structure RH (s:Nat) (w0:World) (g:Mg) (w:World) (h:Hp) (qs:List Nat) (vc vo vx:Value):Prop where
 ownr:w0.heap.size<=g.r
 ownh:w0.heap.size<=g.hb
 ownm:w0.heap.size<=g.mp
 bl:Bl w0 w
 run:w.heap[g.r]?=some (.cells (gM g h vc vx) 90 (0,0))
 hp:w.heap[g.hb]?=some (.cells (fC g h vo) 171 (0,0))
 out:w.ownsRow w0.heap.size 2 1 vx h.sh.out.length (h.sh.out.map (Value.int .i64))
 obs:w.ownsRow w0.heap.size 3 1 vo h.objs.length (h.objs.map (fun o=>Value.int .i64 o.cls))
 calls:w.ownsRow w0.heap.size 85 3 vc qs.length (cj qs)
 fld:∃n D,mB s w g.mp h n D
structure CA (w0:World) (g:Mg) (w:World) (a:Mc) (c:aH) (l:List Va) (vs:Value):Prop where
 own:w0.heap.size<=a.q
 ownl:w0.heap.size<=a.lb
 blk:w.heap[a.q]?=some (.cells (nH g a c vs) 94 (0,0))
 loc:w.heap[a.lb]?=some (.cells (aL l).toArray 100 (0,0))
 rel:mI c.locs l
 stk:w.ownsRow w0.heap.size 100 2 vs c.stk.length (aL (c.stk.map im))
 apart:vs.ownBlock≠some a.lb
 me:kZ w0 c.m a.P a.C a.K
 short:c.locs.length<=1000
 kinds:∀v∈c.stk,1<=v.kind/\v.kind<=3
structure lv (g:Mg) (vc vo vx:Value) (b:Nat):Prop where
 r:b≠g.r
 h:b≠g.hb
 m:b≠g.mp
 c:vc.ownBlock≠some b
 o:vo.ownBlock≠some b
 x:vx.ownBlock≠some b
structure mh (a:Mc) (vs:Value) (b:Nat):Prop where
 q:b≠a.q
 l:b≠a.lb
 s:vs.ownBlock≠some b
structure jj (X:Nat->Prop) (wx w:World):Prop where
 size:wx.heap.size<=w.heap.size
 blk:∀b,X b->b<wx.heap.size/\w.heap[b]?=wx.heap[b]?
def HX (s:Nat) (X:Nat->Prop) (wx w0:World) (g:Mg) (w:World) (h:Hp) (qs:List Nat):Prop :=
 ∃vc vo vx,RH s w0 g w h qs vc vo vx/\(∀b,X b->lv g vc vo vx b)/\jj X wx w
structure l4 (s:Nat) (X:Nat->Prop) (wx w0:World) (g:Mg) (w:World) (h:Hp) (qs:List Nat) (a:Mc) (c:aH) (vc vo vx vs:Value) (l:List Va):Prop where
 rh:RH s w0 g w h qs vc vo vx
 ca:CA w0 g w a c l vs
 farr:∀b,X b->lv g vc vo vx b
 farc:∀b,X b->mh a vs b
 kept:jj X wx w
def RX (s:Nat) (X:Nat->Prop) (wx w0:World) (g:Mg) (w:World) (h:Hp) (qs:List Nat) (a:Mc) (c:aH):Prop :=
 ∃vc vo vx vs l,l4 s X wx w0 g w h qs a c vc vo vx vs l
section
variable {w:World}
theorem dN {b b':Nat} {cs cs':Array Value} {t t':TypeId} {f f':Nat×Nat} (h:w.heap[b]?=some (.cells cs t f)) (h':w.heap[b']?=some (.cells cs' t' f')) (ht:t≠t'):b≠b':=by
 rintro rfl
 rw [h] at h'
 simp at h'
 exact ht h'.2.1
theorem ta {base mr:Nat} {e e':TypeId} {size zz n n':Nat} {v v':Value} {xs PY:List Value} (h:w.ownsRow base e size v n xs) (h':w.ownsRow mr e' zz v' n' PY) (ht:e≠e'):v.ownBlock=none∨v.ownBlock≠v'.ownBlock:=by
 rcases h.2 with ⟨rfl,-⟩|⟨gb,cap,cur,rfl,h2,h3,h4⟩
 ·exact Or.inl rfl
 ·right
  intro hc
  have:=bc h' h3 ht
  exact this hc.symm
theorem iC {b mp n:Nat} {D:DataW Nat} {cs:Array Value} {t:TypeId} {f:Nat×Nat} (h:w.heap[b]?=some (.cells cs t f)) (hm:w.ownsMap Tryz.prog 265 fk mp n D):b≠mp:=by
 obtain ⟨es,ck,hb,-⟩:=hm
 rintro rfl
 rw [h] at hb
 simp at hb
theorem l5 {base:Nat} {e:TypeId} {size k:Nat} {v:Value} {xs:List Value} (h:w.ownsRow base e size v k xs) {mp n:Nat} {D:DataW Nat} (hm:w.ownsMap Tryz.prog 265 fk mp n D):v.ownBlock≠some mp:=by
 obtain ⟨es,ck,hb,-⟩:=hm
 intro hc
 rcases h.2 with ⟨rfl,-⟩|⟨gb,cap,cur,rfl,h2,h3,h4⟩
 ·simp [Value.ownBlock] at hc
 ·simp [Value.ownBlock] at hc
  subst hc
  rw [h3] at hb
  simp at hb
theorem dy {w':World} (h:Bl w w') (row:Option Nat):w.grownBy w' row:=⟨h.os,h.tape,h.output,h.size,fun i hi _=>h.block i hi⟩
theorem au {w':World} {row:Option Nat} (hg:w.grownBy w' row) {b:Nat} {o:Obj} (h:w.heap[b]?=some o) (hr:row≠some b):w'.heap[b]?=some o:=by
 rw [hg.block b (af h) (fun e=>hr e.symm)];exact h
end
theorem RH.kept {s:Nat} {w0 w w':World} {g:Mg} {h:Hp} {qs:List Nat} {vc vo vx:Value} (H:RH s w0 g w h qs vc vo vx) {row:Option Nat} (hg:w.grownBy w' row)
  (far:∀b,row=some b->w0.heap.size<=b/\lv g vc vo vx b):RH s w0 g w' h qs vc vo vx:=by
 have hne:∀v:Value,(∀b,row=some b->v.ownBlock≠some b)->(v.ownBlock=none∨v.ownBlock≠row):=by
  intro v hv
  cases hr:row with
  | none=>cases Ix:v.ownBlock<;>simp
  | some b=>right;exact hv b hr
 refine ⟨H.ownr,H.ownh,H.ownm,Below.grown H.bl hg H.bl.size (fun k hk=>(far k hk).1),au hg H.run (fun e=>(far _ e).2.r rfl),au hg H.hp (fun e=>(far _ e).2.h rfl),
  H.out.kept hg (hne vx fun b e=>(far b e).2.x),H.obs.kept hg (hne vo fun b e=>(far b e).2.o),H.calls.kept hg (hne vc fun b e=>(far b e).2.c),?_⟩
 obtain ⟨n,D,F⟩:=H.fld
 exact ⟨n,D,F.own.kept hg (fun e=>(far _ e.symm).2.m rfl),F.few,F.hit,F.miss,F.new,F.ks,F.kd⟩
theorem CA.kept {w0 w w':World} {g:Mg} {a:Mc} {c:aH} {l:List Va} {vs:Value} (H:CA w0 g w a c l vs) {row:Option Nat} (hg:w.grownBy w' row)
  (far:∀b,row=some b->mh a vs b):CA w0 g w' a c l vs:=by
 refine ⟨H.own,H.ownl,au hg H.blk (fun e=>(far _ e).q rfl),au hg H.loc (fun e=>(far _ e).l rfl),H.rel,H.stk.kept hg ?_,H.apart,H.me,H.short,H.kinds⟩
 cases hr:row with
 | none=>cases Ix:vs.ownBlock<;>simp
 | some b=>right;exact (far b hr).s
theorem jj.kept {X:Nat->Prop} {wx w w':World} (H:jj X wx w) {row:Option Nat} (hg:w.grownBy w' row) (far:∀b,row=some b->¬X b):jj X wx w' :=
 ⟨Nat.le_trans H.size hg.size,fun b hb=>⟨(H.blk b hb).1,by
  rw [hg.block b (Nat.lt_of_lt_of_le (H.blk b hb).1 H.size) (fun e=>far b e.symm hb)];exact (H.blk b hb).2⟩⟩
section
variable {s:Nat} {w0 w:World} {g:Mg} {h:Hp} {qs:List Nat} {vc vo vx:Value}
theorem RH.far (H:RH s w0 g w h qs vc vo vx) {b:Nat} {cs:Array Value} {t:TypeId} {f:Nat×Nat} (hb:w.heap[b]?=some (.cells cs t f)) (h1:t≠90) (h2:t≠171) (h3:t≠85) (h4:t≠3) (h5:t≠2):lv g vc vo vx b:=by
 obtain ⟨n,D,F⟩:=H.fld
 exact ⟨dN hb H.run h1,dN hb H.hp h2,iC hb F.own,bc H.calls hb h3,bc H.obs hb h4,bc H.out hb h5⟩
theorem CA.far (H:RH s w0 g w h qs vc vo vx) {a:Mc} {c:aH} {l:List Va} {vs:Value} (K:CA w0 g w a c l vs) :
  lv g vc vo vx a.q/\lv g vc vo vx a.lb/\∀b,vs.ownBlock=some b->lv g vc vo vx b:=by
 refine ⟨H.far K.blk (by decide) (by decide) (by decide) (by decide) (by decide),H.far K.loc (by decide) (by decide) (by decide) (by decide) (by decide),fun b hb=>?_⟩
 rcases K.stk.2 with ⟨rfl,-⟩|⟨gb,cap,cur,rfl,h2,h3,h4⟩
 ·simp [Value.ownBlock] at hb
 ·simp [Value.ownBlock] at hb
  subst hb
  exact H.far h3 (by decide) (by decide) (by decide) (by decide) (by decide)
theorem CA.farC (H:RH s w0 g w h qs vc vo vx) {a:Mc} {c:aH} {l:List Va} {vs:Value} (K:CA w0 g w a c l vs) :
  mh a vs g.r/\mh a vs g.hb/\mh a vs g.mp/\(∀b,vc.ownBlock=some b->mh a vs b)/\(∀b,vo.ownBlock=some b->mh a vs b)/\(∀b,vx.ownBlock=some b->mh a vs b):=by
 obtain ⟨f1,f2,f3⟩:=K.far H
 refine ⟨⟨Ne.symm f1.r,Ne.symm f2.r,fun e=>(f3 _ e).r rfl⟩,⟨Ne.symm f1.h,Ne.symm f2.h,fun e=>(f3 _ e).h rfl⟩,⟨Ne.symm f1.m,Ne.symm f2.m,fun e=>(f3 _ e).m rfl⟩,?_,?_,?_⟩
 ·exact fun b e=>⟨fun q=>f1.c (q▸e),fun q=>f2.c (q▸e),fun q=>(f3 _ q).c e⟩
 ·exact fun b e=>⟨fun q=>f1.o (q▸e),fun q=>f2.o (q▸e),fun q=>(f3 _ q).o e⟩
 ·exact fun b e=>⟨fun q=>f1.x (q▸e),fun q=>f2.x (q▸e),fun q=>(f3 _ q).x e⟩
end
section
variable {s:Nat} {X:Nat->Prop} {wx w0 w w':World} {g:Mg} {h:Hp} {qs:List Nat}
theorem l4.bl {a:Mc} {c:aH} {vc vo vx vs:Value} {l:List Va} (H:l4 s X wx w0 g w h qs a c vc vo vx vs l) (hb:Bl w w'):l4 s X wx w0 g w' h qs a c vc vo vx vs l :=
 ⟨H.rh.kept (dy hb none) (fun b e=>by cases e),H.ca.kept (dy hb none) (fun b e=>by cases e),H.farr,H.farc,H.kept.kept (dy hb none) (fun b e=>by cases e)⟩
theorem RX.bl {a:Mc} {c:aH} (H:RX s X wx w0 g w h qs a c) (hb:Bl w w'):RX s X wx w0 g w' h qs a c:=by
 obtain ⟨vc,vo,vx,vs,l,H⟩:=H
 exact ⟨vc,vo,vx,vs,l,H.bl hb⟩
theorem HX.bl (H:HX s X wx w0 g w h qs) (hb:Bl w w'):HX s X wx w0 g w' h qs:=by
 obtain ⟨vc,vo,vx,H,f,k⟩:=H
 exact ⟨vc,vo,vx,H.kept (dy hb none) (fun b e=>by cases e),f,k.kept (dy hb none) (fun b e=>by cases e)⟩
end
structure Kp (n:Nat) (w w':World):Prop where
 size:w.heap.size<=w'.heap.size
 blk:∀b,n<=b->b<w.heap.size->w'.heap[b]?=w.heap[b]?
def Xp (X:Nat->Prop) (n m:Nat):Nat->Prop:=fun b=>X b∨(n<=b/\b<m)
theorem lx {w:World} {base:Nat} {e:TypeId} {size n:Nat} {v:Value} {xs:List Value} (h:w.ownsRow base e size v n xs) {b:Nat} (hb:v.ownBlock=some b):b<w.heap.size:=by
 rcases h.2 with ⟨rfl,-⟩|⟨gb,cap,cur,rfl,h2,h3,h4⟩
 ·simp [Value.ownBlock] at hb
 ·simp [Value.ownBlock] at hb;subst hb;exact af h3
theorem RH.farNew {s:Nat} {w0 w:World} {g:Mg} {h:Hp} {qs:List Nat} {vc vo vx:Value} (H:RH s w0 g w h qs vc vo vx) {b:Nat} (hb:w.heap.size<=b):lv g vc vo vx b:=by
 obtain ⟨n,D,F⟩:=H.fld
 have h1:=af H.run
 have h2:=af H.hp
 have h3:=F.own.lt
 exact ⟨by omega,by omega,by omega,fun e=>by have:=lx H.calls e;omega,fun e=>by have:=lx H.obs e;omega,fun e=>by have:=lx H.out e;omega⟩
theorem CA.farNew {w0 w:World} {g:Mg} {a:Mc} {c:aH} {l:List Va} {vs:Value} (K:CA w0 g w a c l vs) {b:Nat} (hb:w.heap.size<=b):mh a vs b:=by
 have h1:=af K.blk
 have h2:=af K.loc
 exact ⟨by omega,by omega,fun e=>by have:=lx K.stk e;omega⟩
theorem RX.wide {s:Nat} {X:Nat->Prop} {wx w0 w w':World} {g:Mg} {h:Hp} {qs:List Nat} {a:Mc} {c:aH} (H:RX s X wx w0 g w h qs a c) (hb:Bl w w'):RX s (Xp X w.heap.size w'.heap.size) w' w0 g w' h qs a c:=by
 obtain ⟨vc,vo,vx,vs,l,H⟩:=H
 have H':=H.bl hb
 refine ⟨vc,vo,vx,vs,l,H'.rh,H'.ca,?_,?_,⟨Nat.le_refl _,fun b hx=>⟨?_,rfl⟩⟩⟩
 ·rintro b (hx|hx)
  ·exact H.farr b hx
  ·exact H.rh.farNew hx.1
 ·rintro b (hx|hx)
  ·exact H.farc b hx
  ·exact H.ca.farNew hx.1
 ·rcases hx with hx|hx
  ·have:=(H'.kept.blk b hx).1;have:=H'.kept.size;omega
  ·exact hx.2
theorem RX.back {s s':Nat} {X:Nat->Prop} {wx w0 w w' w2:World} {g:Mg} {h h':Hp} {qs vw:List Nat} {a a':Mc} {c c':aH} (H:RX s X wx w0 g w h qs a c) (hb:Bl w w') (H2:RX s' (Xp X w.heap.size w'.heap.size) w' w0 g w2 h' vw a' c') :
  RX s' X wx w0 g w2 h' vw a' c'/\Kp w.heap.size w' w2:=by
 obtain ⟨vc,vo,vx,vs,l,H⟩:=H
 obtain ⟨rK,vz,vA,il,l',H2⟩:=H2
 have H':=H.bl hb
 refine ⟨⟨rK,vz,vA,il,l',H2.rh,H2.ca,fun b hx=>H2.farr b (Or.inl hx),fun b hx=>H2.farc b (Or.inl hx),Nat.le_trans H'.kept.size H2.kept.size,fun b hx=>⟨(H.kept.blk b hx).1,?_⟩⟩,H2.kept.size,fun b h1 h2=>(H2.kept.blk b (Or.inr ⟨h1,h2⟩)).2⟩
 rw [(H2.kept.blk b (Or.inl hx)).2]
 exact (H'.kept.blk b hx).2
theorem RX.use {s:Nat} {X:Nat->Prop} {wx w0 w w':World} {g:Mg} {h:Hp} {qs:List Nat} {a:Mc} {c:aH} (H:RX s X wx w0 g w h qs a c) (hb:Bl w w') {f:FuncId} {args:Array Value} {Q:Ending->Prop} {s':Nat} {h':Hp} {vw:List Nat} {P:aH->Prop}
  (hc:∀X wx w,RX s X wx w0 g w h qs a c->Calls Tryz.prog f args w fun e w2=>Q e/\∃c',P c'/\RX s' X wx w0 g w2 h' vw a c') :
  Calls Tryz.prog f args w' fun e w2=>Q e/\(∃c',P c'/\RX s' X wx w0 g w2 h' vw a c')/\Kp w.heap.size w' w2:=by
 refine (hc _ _ _ (H.wide hb)).mono ?_
 rintro e w2 ⟨he,c',hp,H2⟩
 obtain ⟨h3,h4⟩:=H.back hb H2
 exact ⟨he,⟨c',hp,h3⟩,h4⟩
end
structure Bo (g:Mg) (w:World) (a:Mc) (c:aH) (vs:Value):Prop where
 c0:w.cell? ⟨a.q,0,none⟩=some (.pointer (some ⟨g.hb,0,none⟩))
 c1:w.cell? ⟨a.q,1,none⟩=some (.pointer (some ⟨g.r,0,none⟩))
 c2:w.cell? ⟨a.q,2,none⟩=some (.slice a.P c.m.params.length a.p)
 c3:w.cell? ⟨a.q,3,none⟩=some (int i64 c.m.ret.kind)
 c4:w.cell? ⟨a.q,4,none⟩=some (int i64 c.m.ret.cls)
 c5:w.cell? ⟨a.q,5,none⟩=some (int i64 c.m.stack)
 c6:w.cell? ⟨a.q,6,none⟩=some (int i64 c.m.locs)
 c8:w.cell? ⟨a.q,8,none⟩=some (.slice a.C c.m.code.length a.c)
 c9:w.cell? ⟨a.q,9,none⟩=some (.slice a.K c.m.hands.length a.k)
 c10:w.cell? ⟨a.q,10,none⟩=some (int i64 c.pc)
 c11:w.cell? ⟨a.q,11,none⟩=some (.slice (some ⟨a.lb,0,none⟩) c.locs.length a.lc)
 c12:w.cell? ⟨a.q,12,none⟩=some vs
section
variable {w0 w:World} {g:Mg} {a:Mc} {c:aH} {l:List Va} {vs:Value}
theorem CA.cells (H:CA w0 g w a c l vs):Bo g w a c vs:=by
 constructor<;>(rw [aa H.blk];rfl)
theorem CA.free (H:CA w0 g w a c l vs) (i:Nat):w.frozen? ⟨a.q,i,none⟩=false:=ay H.blk i
end
theorem l4.setq {s:Nat} {X:Nat->Prop} {wx w0 w:World} {g:Mg} {h:Hp} {qs:List Nat} {a:Mc} {c c':aH} {vc vo vx vs il:Value} {l:List Va} (H:l4 s X wx w0 g w h qs a c vc vo vx vs l) {i:Nat} {v:Value}
  (hrow:(nH g a c vs).setIfInBounds i v=nH g a c' il) (hl:c'.locs=c.locs) (hm:c'.m=c.m) (hs:w.ownsRow w0.heap.size 100 2 il c'.stk.length (aL (c'.stk.map im)))
  (hb:∀b,il.ownBlock=some b->b≠a.lb/\¬X b) (hkd:∀v∈c'.stk,1<=v.kind/\v.kind<=3):l4 s X wx w0 g (w.setCell ⟨a.q,i,none⟩ v) h qs a c' vc vo vx il l:=by
 have hg:=cQ (w:=w) a.q i v
 have hf:=(H.ca.far H.rh).1
 have eR:a.q≠a.lb:=dN H.ca.blk H.ca.loc (by decide)
 refine ⟨H.rh.kept hg (fun b e=>?_),⟨H.ca.own,H.ca.ownl,?_,?_,by rw [hl];exact H.ca.rel,hs.kept hg ?_,?_,by rw [hm];exact H.ca.me,by rw [hl];exact H.ca.short,hkd⟩,H.farr,?_,H.kept.kept hg (fun b e hx=>?_)⟩
 ·cases e;exact ⟨H.ca.own,hf⟩
 ·rw [ax H.ca.blk,hrow]
 ·exact au hg H.ca.loc (fun e=>eR (Option.some.inj e))
 ·right;exact bc hs H.ca.blk (by decide)
 ·intro e;exact (hb _ e).1 rfl
 ·intro b hx
  exact ⟨(H.farc b hx).q,(H.farc b hx).l,fun e=>(hb b e).2 hx⟩
 ·cases e;exact (H.farc a.q hx).q rfl
section
variable {w:World} {base:Nat} {e:TypeId}
theorem Iy {gb cap:Nat} {l:List Va} {v:Va} (h:w.ownsRow base e 2 (.slice (some ⟨gb,0,none⟩) (l.length+1) cap) (l.length+1) (aL (l++[v]))) :
  w.ownsRow base e 2 (.slice (some ⟨gb,0,none⟩) l.length cap) l.length (aL l):=by
 obtain ⟨h1,h2⟩:=h
 rcases h2 with ⟨h0,_⟩|⟨g',cap',cur,hv,hg,hh,hn,mJ,hsz,nI⟩
 ·cases h0
 ·cases hv
  refine ⟨eF l,.inr ⟨gb,cap,cur,rfl,hg,hh,by omega,mJ,hsz,?_⟩⟩
  have h3:(cur.toList.take ((l.length+1)*2)).take (l.length*2)=(aL (l++[v])).take (l.length*2):=by rw [nI]
  rw [List.take_take,Nat.min_eq_left (by omega)] at h3
  rw [h3,fe,<-eF l]
  simp
theorem Ec {vs:Value} {l:List Va} {v:Va} (h:w.ownsRow base e 2 vs (l.length+1) (aL (l++[v]))):∃gb cap,vs=.slice (some ⟨gb,0,none⟩) (l.length+1) cap/\l.length+1<=cap/\cap<=maxLen/\gb<w.heap.size
  /\ w.cell? ⟨gb,l.length*2,none⟩=some (int i64 v.kind)/\w.cell? ⟨gb,l.length*2+1,none⟩=some (int i64 v.n):=by
 rcases h.2 with ⟨_,h0⟩|⟨gb,cap,cur,rfl,hg,hh,hn,mJ,hsz,nI⟩
 ·omega
 ·have hx:=fL (l++[v]) l.length (by simp)
  have hv:nth ag (l++[v]) l.length=v:=by simp [nth]
  rw [hv,<-nI,List.getElem?_take,List.getElem?_take,if_pos (by omega),if_pos (by omega)] at hx
  refine ⟨gb,cap,rfl,hn,mJ,af hh,?_,?_⟩
  ·rw [aa hh];simpa using hx.1
  ·rw [aa hh];simpa using hx.2
theorem Ee {vs:Value} (h:w.ownsRow base e 2 vs 0 []):∃A cap,vs=.slice A 0 cap:=by
 rcases h.2 with ⟨rfl,h0⟩|⟨gb,cap,cur,rfl,hg,hh,hn,mJ,hsz,nI⟩
 ·exact ⟨_,_,rfl⟩
 ·exact ⟨_,_,rfl⟩
end
section
variable (s:Nat) (X:Nat->Prop) (wx w0:World) (g:Mg) (h:Hp) (qs:List Nat) (a:Mc) (c:aH)
theorem nJ (w:World) (H:RX s X wx w0 g w h qs a c) (hs:c.stk=[]) :
  Calls Tryz.prog 143 #[.pointer (some ⟨a.q,0,none⟩)] w fun e w'=>e=aV 6 0 0/\RX s X wx w0 g w' h qs a c:=by
 have HH:Hid (RX s X wx w0 g w h qs a c):=H
 obtain ⟨vc,vo,vx,vs,l,H⟩:=H
 have hk:=H.ca.stk
 rw [hs] at hk
 obtain ⟨A,cap,rfl⟩:=Ee hk
 have hq:=af H.ca.blk
 have c12:=H.ca.cells.c12
 clear H hk hs
 go_enter Tryz.func143,Tryz.ntmps143
 go_wp2_with (go_at_call 86;refine (jd _).mono ?_;rintro e w1 ⟨rfl,hw⟩;rw [hw];clear hw w1)
 exact ⟨rfl,rfl,HH.out.bl ((Bl.refl w).alloc _)⟩
theorem iY (l:List Va) (v:Va) (w:World) (H:RX s X wx w0 g w h qs a c) (hs:c.stk=l++[v]) :
  Calls Tryz.prog 143 #[.pointer (some ⟨a.q,0,none⟩)] w fun e w'=>e=.returned (cn (im v))/\RX s X wx w0 g w' h qs a { c with stk:=l }:=by
 obtain ⟨vc,vo,vx,vs,k,H⟩:=H
 have hk:=H.ca.stk
 have e1:c.stk.length=(l.map im).length+1:=by rw [hs];simp
 have e2:aL (c.stk.map im)=aL (l.map im++[im v]):=by rw [hs];simp
 rw [e1,e2] at hk
 obtain ⟨gb,cap,rfl,h1,h2,h3,h4,h5⟩:=Ec hk
 have e3:(l.map im).length=l.length:=by simp
 rw [e3] at h1 h4 h5 hk
 have HK:Hid (w.ownsRow w0.heap.size 100 2 (.slice (some ⟨gb,0,none⟩) l.length cap) l.length (aL (l.map im))):=by
  have:=Iy (l:=l.map im) (v:=im v) (by rw [e3];exact hk)
  rw [e3] at this
  exact this
 have hq:=af H.ca.blk
 have c12:=H.ca.cells.c12
 have fz:=H.ca.free
 rw [e3] at c12
 have mG:gb≠a.q:=fun e=>bc hk H.ca.blk (by decide) (by rw [e];rfl)
 have HH:Hid (l4 s X wx w0 g w h qs a c vc vo vx (.slice (some ⟨gb,0,none⟩) ((l.map im).length+1) cap) k):=H
 have Vh:Hid (∀u∈l,1<=u.kind/\u.kind<=3):=fun u hu=>H.ca.kinds u (by rw [hs];exact List.mem_append_left _ hu)
 clear H hk hs e1 e2 e3
 unfold maxLen at h2
 have kg:((l.length:Int)+1-1)=(l.length:Int):=by omega
 have hw:IntKind.i64.wrap (l.length:Int)=(l.length:Int):=by rw [IntKind.wrap_i64];omega
 go_enter Tryz.func143,Tryz.ntmps143
 go_wp2
 refine bodyPost_ret (results_cell_row rfl _ _ w.heap.size _ _ _ _ rfl (Ho (by simp)) Tryz.underlying100 rfl bK) rfl ?_
 refine ⟨rfl,vc,vo,vx,_,k,l4.bl (HH.out.setq rfl rfl rfl HK.out ?_ Vh.out) (((Bl.refl _).alloc _).alloc _)⟩
 intro b hb
 simp [Value.ownBlock] at hb
 subst hb
 exact ⟨fun e=>HH.out.ca.apart (by rw [<-e];rfl),fun hx=>(HH.out.farc gb hx).s rfl⟩
end
structure oX (w:World) (g:Mg) (h:Hp):Prop where
 A:w.cell? ⟨g.hb,0,none⟩=some (.slice g.A h.file.classes.length g.a)
 O:h.objs.length=0∨∃gb cap,w.cell? ⟨g.hb,1,none⟩=some (.slice (some ⟨gb,0,none⟩) h.objs.length cap)/\∀i,i<h.objs.length->w.cell? ⟨gb,i,none⟩=some (int i64 (nth cB h.objs i).cls)
 cls:ct w g.A h.file.classes
 may:eQ h.file.classes=true
 few:h.objs.length<=100
theorem oX.bl {w w':World} {g:Mg} {h:Hp} (H:oX w g h) (hb:Bl w w'):oX w' g h:=by
 refine ⟨hb.cell H.A,?_,H.cls.bl hb,H.may,H.few⟩
 rcases H.O with h0|⟨gb,cap,h1,h2⟩
 ·exact Or.inl h0
 ·exact Or.inr ⟨gb,cap,hb.cell h1,fun i hi=>hb.cell (h2 i hi)⟩
structure Fix (w0:World) (g:Mg) (h:Hp):Prop where
 cls:ct w0 g.A h.file.classes
 mes:eE w0 g.M h.file.methods
 inp:cL w0 g.I h.input
 may:eQ h.file.classes=true
theorem RH.rd {s:Nat} {w0 w:World} {g:Mg} {h:Hp} {qs:List Nat} {vc vo vx:Value} (H:RH s w0 g w h qs vc vo vx) (F:Fix w0 g h) (hf:h.objs.length<=100):oX w g h:=by
 refine ⟨by rw [aa H.hp];rfl,?_,F.cls.bl H.bl,F.may,hf⟩
 rcases H.obs.2 with ⟨h1,h0⟩|⟨gb,cap,cur,rfl,h2,h3,h4,h5,h6,h7⟩
 ·exact Or.inl h0
 ·refine Or.inr ⟨gb,cap,by rw [aa H.hp];rfl,fun i hi=>?_⟩
  have e:(h.objs.map (fun o=>Value.int .i64 o.cls))[i]?=some (int i64 (nth cB h.objs i).cls):=by
   rw [List.getElem?_map,List.getElem?_eq_getElem hi,bU hi];rfl
  rw [<-h7,List.getElem?_take,if_pos (by omega)] at e
  rw [aa h3]
  simpa using e
theorem RX.rd {s:Nat} {X:Nat->Prop} {wx w0 w:World} {g:Mg} {h:Hp} {qs:List Nat} {a:Mc} {c:aH} (H:RX s X wx w0 g w h qs a c) (F:Fix w0 g h) (hf:h.objs.length<=100):oX w g h:=by
 obtain ⟨vc,vo,vx,vs,l,H⟩:=H
 exact H.rh.rd F hf
theorem ly (w:World):Calls Tryz.prog 145 #[] w fun e w'=>e=.returned (cn ⟨3,0⟩)/\Bl w w':=by
 go_enter Tryz.func145,Tryz.ntmps145
 go_wp2
 refine bodyPost_ret (results_cell_row rfl _ _ w.heap.size _ _ _ _ rfl (aD _ _ _) Tryz.underlying100 rfl bK) rfl ?_
 exact ⟨rfl,(Bl.refl w).alloc _⟩
def vB (u:Va):Bool:=decide (u.kind=3)&&decide (u.n=0)
theorem Bp:Tryz.prog.underlying 100=some (.struct (Tryz.prog.fieldsOf 100)):=by kernel_rfl
theorem Iz:Tryz.prog.stoodInHeld 100=false:=by kernel_rfl
theorem L7 (a b c d:Int) (w:World):(binOp .eql 100 (.agg #[int i64 a,int i64 b]) (.agg #[int i64 c,int i64 d])).run Tryz.prog w=.ok (.bool (decide (a=c)&&decide (b=d))) w:=by
 rw [run_eql_struct,run_equalIn_agg w 9999 _ _ _ Bp Iz]
 simp [go_sem,Tryz.underlying100,Tryz.underlying3,Tryz.underlying2]
 by_cases h1:a=c<;>by_cases h2:b=d<;>simp [h1,h2]
theorem bX (u:Va) (w:World):Calls Tryz.prog 90 #[cn u] w fun e w'=>e=.returned (.bool (vB u))/\Bl w w':=by
 have HB:Hid (Bl w (w.alloc (.cells #[int i64 u.kind,int i64 u.n] 100))):=(Bl.refl w).alloc _
 have hq:=fun w=>L7 u.kind u.n 3 0 w
 go_enter Tryz.func90,Tryz.ntmps90
 go_wp2
 have x0:∀x:pk (w.alloc (.cells #[int i64 u.kind,int i64 u.n] 100)),x.to.cell? ⟨w.heap.size,0,none⟩=some (int i64 u.kind):=aU (ak rfl)
 have x1:∀x:pk (w.alloc (.cells #[int i64 u.kind,int i64 u.n] 100)),x.to.cell? ⟨w.heap.size,1,none⟩=some (int i64 u.n):=aU (ak rfl)
 refine bh (by kernel_rfl) (by kernel_rfl) fun hne=>?_
 repeat (go_big_quiet_step ((go_at_call 145;exact Calls.fut_eq _ (ly _) rfl)))
 refine wpQuiet_nil ?_
 rintro _ ⟨⟨w2,eK⟩,rfl⟩
 clear x0 x1 hne
 go_wp2
 go_ret
 exact ⟨rfl,HB.out.trans eK⟩
theorem oY (g:Mg) (h:Hp) (n:Nat) (w:World) (R:oX w g h) (hn:n<h.objs.length) :
  Calls Tryz.prog 103 #[.pointer (some ⟨g.hb,0,none⟩),cn ⟨3,(n:Int)+1⟩] w fun e w'=>e=.returned (int i64 (nth cB h.objs n).cls)/\Bl w w':=by
 rcases R.O with h0|⟨gb,cap,h1,h2⟩
 ·omega
 have h3:=h2 n hn
 have hf:=R.few
 have hq:=bC h1
 have Qc:=bC h3
 have hw:IntKind.i64.wrap (n:Int)=(n:Int):=by rw [IntKind.wrap_i64];omega
 have hs:((n:Int)+1-1)=(n:Int):=by omega
 have kv:(0:Int)<=(n:Int):=by omega
 have kg:(n:Int)<(h.objs.length:Int):=by omega
 clear R h2
 go_enter Tryz.func103,Tryz.ntmps103
 go_wp2
 go_quiet (fail)
 go_wp2
 go_ret
 exact ⟨rfl,by repeat (first|exact Bl.refl _|apply Bl.drew|apply aR|apply Bl.alloc)⟩
theorem l6 {v:Va} (hk:v.kind=3) (hv:v.n=-1):vB (im v)=true:=by rw [gp hk,hv];rfl
theorem lz {v:Va} (hk:v.kind=3) (hv:0<=v.n):vB (im v)=false:=by
 rw [gp hk]
 have:¬v.n+1=0:=by omega
 simp [vB,this]
theorem L8 {l:List Cl} (h:eQ l=true) (x y:Int):Dt l x y=gH l x y:=by unfold Dt gH;rw [h,Bool.true_and]
theorem jk (g:Mg) (h:Hp) (v:Va) (c:Int) (w:World) (R:oX w g h) (hk:v.kind=3) (hv:0<=v.n) (hn:v.n<h.objs.length) :
  Calls Tryz.prog 154 #[.pointer (some ⟨g.hb,0,none⟩),cn (im v),int i64 c] w fun e w'=>e=.returned (.bool (gH h.file.classes (h.obj v.n).cls c))/\Bl w w':=by
 have HN:Hid (vB (im v)=false):=lz hk hv
 obtain ⟨n,kV⟩:∃n:Nat,v.n=n:=⟨v.n.toNat,by omega⟩
 have kx:n<h.objs.length:=by omega
 have ho:h.obj v.n=nth cB h.objs n:=by unfold Hp.obj;rw [kV,Int.toNat_natCast]
 have e:im v=⟨3,(n:Int)+1⟩:=by rw [gp hk,kV]
 rw [ho]
 rw [e] at HN ⊢
 generalize hU:(n:Int)+1=u at HN
 have HB:Hid (Bl w (w.alloc (.cells #[int i64 3,int i64 u] 100))):=(Bl.refl w).alloc _
 have HR:Hid (oX (w.alloc (.cells #[int i64 3,int i64 u] 100)) g h):=R.bl HB.out
 have x2:∀x:pk (w.alloc (.cells #[int i64 3,int i64 u] 100)),x.to.cell? ⟨g.hb,0,none⟩=some (.slice g.A h.file.classes.length g.a):=aU HR.out.A
 have HU:Hid ((n:Int)+1=u):=hU
 obtain ⟨O,hO⟩:∃O,(nth cB h.objs n).cls=O:=⟨_,rfl⟩
 have HO:Hid ((nth cB h.objs n).cls=O):=hO
 rw [hO]
 have HV:Hid (Dt h.file.classes O c=gH h.file.classes O c):=L8 R.may O c
 obtain ⟨z,hz⟩:∃z,gH h.file.classes O c=z:=⟨_,rfl⟩
 rw [hz] at HV ⊢
 clear R hk hv hn kV ho e hU hO hz
 go_enter Tryz.func154,Tryz.ntmps154
 go_wp2
 have x0:∀x:pk (w.alloc (.cells #[int i64 3,int i64 u] 100)),x.to.cell? ⟨w.heap.size,0,none⟩=some (int i64 3):=aU (ak rfl)
 have x1:∀x:pk (w.alloc (.cells #[int i64 3,int i64 u] 100)),x.to.cell? ⟨w.heap.size,1,none⟩=some (int i64 u):=aU (ak rfl)
 refine bh (by kernel_rfl) (by kernel_rfl) fun hne=>?_
 repeat (go_big_quiet_step ((first
  | (go_at_call 90;exact Calls.fut_eq _ (bX ⟨3,u⟩ _) (congrArg Value.bool HN.out))
  | (go_at_call 103;rename_i xx;have hcc:=oY g h n xx.to (HR.out.bl xx.is) kx;rw [HU.out,HO.out] at hcc;exact Calls.fut_eq _ hcc rfl)
  | (go_at_call 198;rename_i xx;exact Calls.fut_eq _ (yh _ _ _ _ _ _ (HR.out.cls.bl xx.is)) (congrArg Value.bool HV.out)))))
 refine wpQuiet_nil ?_
 rintro _ ⟨⟨w2,eK⟩,rfl⟩
 clear x0 x1 x2 hne
 go_wp2
 go_ret
 exact ⟨rfl,HB.out.trans eK⟩
theorem Bq (g:Mg) (h:Hp) (v:Va) (c:Int) (w:World) (hk:v.kind=3) (hv:v.n=-1) :
  Calls Tryz.prog 154 #[.pointer (some ⟨g.hb,0,none⟩),cn (im v),int i64 c] w fun e w'=>e=.returned (.bool false)/\Bl w w':=by
 have HN:Hid (vB (im v)=true):=l6 hk hv
 have e:im v=⟨3,0⟩:=by rw [gp hk,hv];rfl
 rw [e] at HN ⊢
 have HB:Hid (Bl w (w.alloc (.cells #[int i64 3,int i64 0] 100))):=(Bl.refl w).alloc _
 clear hk hv e
 go_enter Tryz.func154,Tryz.ntmps154
 go_wp2
 have x0:∀x:pk (w.alloc (.cells #[int i64 3,int i64 0] 100)),x.to.cell? ⟨w.heap.size,0,none⟩=some (int i64 3):=aU (ak rfl)
 have x1:∀x:pk (w.alloc (.cells #[int i64 3,int i64 0] 100)),x.to.cell? ⟨w.heap.size,1,none⟩=some (int i64 0):=aU (ak rfl)
 refine bh (by kernel_rfl) (by kernel_rfl) fun hne=>?_
 repeat (go_big_quiet_step ((go_at_call 90;exact Calls.fut_eq _ (bX ⟨3,0⟩ _) (congrArg Value.bool HN.out))))
 refine wpQuiet_nil ?_
 rintro _ ⟨⟨w2,eK⟩,rfl⟩
 clear x0 x1 hne
 go_wp2
 go_ret
 exact ⟨rfl,HB.out.trans eK⟩
theorem qm (g:Mg) (h:Hp) (v:Va) (c:Int) (w:World) (R:oX w g h) (hk:v.kind=3) (hv:-1<=v.n) (hn:v.n<h.objs.length) :
  Calls Tryz.prog 154 #[.pointer (some ⟨g.hb,0,none⟩),cn (im v),int i64 c] w fun e w'=>e=.returned (.bool (decide (0<=v.n)&&gH h.file.classes (h.obj v.n).cls c))/\Bl w w':=by
 by_cases h0:0<=v.n
 ·rw [decide_eq_true h0,Bool.true_and]
  exact jk g h v c w R hk h0 hn
 ·rw [decide_eq_false h0,Bool.false_and]
  exact Bq g h v c w hk (by omega)
section
variable (g:Mg) (h:Hp) (v:Va) (t:Ty) (w:World)
theorem Ef (R:oX w g h) (hk:v.kind=t.kind) (h3:t.kind≠3) :
  Calls Tryz.prog 191 #[.pointer (some ⟨g.hb,0,none⟩),cn (im v),jD t] w fun e w'=>e=.returned (cn (im v))/\Bl w w':=by
 obtain ⟨L0,L1,L2⟩:=dE w #[int i64 (im v).kind,int i64 (im v).n] #[int i64 t.kind,int i64 t.cls] #[int i64 0,int i64 0] 100 45 100
 have HB:Hid (Bl w (((w.alloc (dL (im v))).alloc (je t)).alloc eT)):=(((Bl.refl w).alloc _).alloc _).alloc _
 have HR:Hid (oX w g h):=R
 obtain ⟨W,hW⟩:∃W,W=(((w.alloc (dL (im v))).alloc (je t)).alloc eT):=⟨_,rfl⟩
 rw [<-hW] at HB L0 L1 L2
 have HW:Hid (W=(((w.alloc (dL (im v))).alloc (je t)).alloc eT)):=hW
 have oZ:Hid (W.heap[w.heap.size]?=some (.cells #[int i64 (im v).kind,int i64 (im v).n] 100 (0,0))):=L0
 have gx:Hid (W.heap[w.heap.size+1]?=some (.cells #[int i64 t.kind,int i64 t.cls] 45 (0,0))):=L1
 have wq:Hid (W.heap[w.heap.size+1+1]?=some (.cells #[int i64 0,int i64 0] 100 (0,0))):=L2
 clear R L0 L1 L2 hW
 have Hk:Hid ((im v).kind=t.kind):=hk
 have hd:decide (t.kind=3)=false:=decide_eq_false h3
 have hb:(t.kind==3)=false:=by simpa using h3
 clear hk h3
 go_enter Tryz.func191,Tryz.ntmps191
 go_wp2_with (go_at_call 144;rw [<-HW.out];refine (eI (im v) t.kind _ Hk.out).mono ?_;rintro e w1 ⟨rfl,b1⟩;have q0:=ai b1 oZ.out;have q1:=ai b1 gx.out;have q2:=ai b1 wq.out;have c0:=aK q0;have c1:=aI q0;have c2:=aK q1;have c3:=aI q1;have c4:=aK q2;have c5:=aI q2;have fz:=ay q2;replace q0:=ab q0;replace q1:=ab q1;replace q2:=ab q2;replace b1:=ab b1)
 refine bodyPost_ret (results_cell_row rfl _ _ (w.heap.size+1+1) _ _ _ _ rfl (bQ q2.out) Tryz.underlying100 rfl bK) rfl ?_
 exact ⟨rfl,kB (HB.out.trans b1.out) (by omega) _ _⟩
theorem Eg (R:oX w g h) (hk:v.kind=3) (h3:t.kind=3) (hv:v.n=-1) :
  Calls Tryz.prog 191 #[.pointer (some ⟨g.hb,0,none⟩),cn (im v),jD t] w fun e w'=>e=.returned (cn (im v))/\Bl w w':=by
 obtain ⟨L0,L1,L2⟩:=dE w #[int i64 (im v).kind,int i64 (im v).n] #[int i64 t.kind,int i64 t.cls] #[int i64 0,int i64 0] 100 45 100
 have HB:Hid (Bl w (((w.alloc (dL (im v))).alloc (je t)).alloc eT)):=(((Bl.refl w).alloc _).alloc _).alloc _
 have HR:Hid (oX w g h):=R
 obtain ⟨W,hW⟩:∃W,W=(((w.alloc (dL (im v))).alloc (je t)).alloc eT):=⟨_,rfl⟩
 rw [<-hW] at HB L0 L1 L2
 have HW:Hid (W=(((w.alloc (dL (im v))).alloc (je t)).alloc eT)):=hW
 have oZ:Hid (W.heap[w.heap.size]?=some (.cells #[int i64 (im v).kind,int i64 (im v).n] 100 (0,0))):=L0
 have gx:Hid (W.heap[w.heap.size+1]?=some (.cells #[int i64 t.kind,int i64 t.cls] 45 (0,0))):=L1
 have wq:Hid (W.heap[w.heap.size+1+1]?=some (.cells #[int i64 0,int i64 0] 100 (0,0))):=L2
 clear R L0 L1 L2 hW
 have Hk:Hid ((im v).kind=t.kind):=by rw [h3];exact hk
 have HN:Hid (vB (im v)=true):=l6 hk hv
 have hd:decide (t.kind=3)=true:=decide_eq_true h3
 have hb:(t.kind==3)=true:=by simpa using h3
 clear hk h3
 go_enter Tryz.func191,Tryz.ntmps191
 go_wp2_with (first|(go_at_call 144;rw [<-HW.out];refine (eI (im v) t.kind _ Hk.out).mono ?_;rintro e w1 ⟨rfl,b1⟩;have q0:=ai b1 oZ.out;have q1:=ai b1 gx.out;have q2:=ai b1 wq.out;have c0:=aK q0;have c1:=aI q0;have c2:=aK q1;have c3:=aI q1;have c4:=aK q2;have c5:=aI q2;have fz:=ay q2;replace q0:=ab q0;replace q1:=ab q1;replace q2:=ab q2;replace b1:=ab b1)|(go_at_call 90;refine (bX (im v) _).mono ?_;rintro e w2 ⟨he,b2⟩;rw [HN.out] at he;subst he;replace q0:=ab (ai b2 q0.out);replace q1:=ab (ai b2 q1.out);replace q2:=ab (ai b2 q2.out);replace b1:=ab (b1.out.trans b2);clear c0 c1 c2 c3 c4 c5 fz;have c0:=aK q0.out;have c1:=aI q0.out;have c2:=aK q1.out;have c3:=aI q1.out;have c4:=aK q2.out;have c5:=aI q2.out;have fz:=ay q2.out))
 refine bodyPost_ret (results_cell_row rfl _ _ (w.heap.size+1+1) _ _ _ _ rfl (bQ q2.out) Tryz.underlying100 rfl bK) rfl ?_
 exact ⟨rfl,kB (HB.out.trans b1.out) (by omega) _ _⟩
theorem Eh (R:oX w g h) (hk:v.kind=3) (h3:t.kind=3) (hv:0<=v.n) (hn:v.n<h.objs.length) (hz:gH h.file.classes (h.obj v.n).cls t.cls=true) :
  Calls Tryz.prog 191 #[.pointer (some ⟨g.hb,0,none⟩),cn (im v),jD t] w fun e w'=>e=.returned (cn (im v))/\Bl w w':=by
 obtain ⟨L0,L1,L2⟩:=dE w #[int i64 (im v).kind,int i64 (im v).n] #[int i64 t.kind,int i64 t.cls] #[int i64 0,int i64 0] 100 45 100
 have HB:Hid (Bl w (((w.alloc (dL (im v))).alloc (je t)).alloc eT)):=(((Bl.refl w).alloc _).alloc _).alloc _
 have HR:Hid (oX w g h):=R
 obtain ⟨W,hW⟩:∃W,W=(((w.alloc (dL (im v))).alloc (je t)).alloc eT):=⟨_,rfl⟩
 rw [<-hW] at HB L0 L1 L2
 have HW:Hid (W=(((w.alloc (dL (im v))).alloc (je t)).alloc eT)):=hW
 have oZ:Hid (W.heap[w.heap.size]?=some (.cells #[int i64 (im v).kind,int i64 (im v).n] 100 (0,0))):=L0
 have gx:Hid (W.heap[w.heap.size+1]?=some (.cells #[int i64 t.kind,int i64 t.cls] 45 (0,0))):=L1
 have wq:Hid (W.heap[w.heap.size+1+1]?=some (.cells #[int i64 0,int i64 0] 100 (0,0))):=L2
 clear R L0 L1 L2 hW
 have Hk:Hid ((im v).kind=t.kind):=by rw [h3];exact hk
 have HV:Hid (v.kind=3/\0<=v.n/\v.n<h.objs.length):=⟨hk,hv,hn⟩
 have HN:Hid (vB (im v)=false):=lz hk hv
 have HZ:Hid (gH h.file.classes (h.obj v.n).cls t.cls=true):=hz
 have hd:decide (t.kind=3)=true:=decide_eq_true h3
 have hb:(t.kind==3)=true:=by simpa using h3
 clear hk h3 hv hn hz
 go_enter Tryz.func191,Tryz.ntmps191
 go_wp2_with (first|(go_at_call 144;rw [<-HW.out];refine (eI (im v) t.kind _ Hk.out).mono ?_;rintro e w1 ⟨rfl,b1⟩;have q0:=ai b1 oZ.out;have q1:=ai b1 gx.out;have q2:=ai b1 wq.out;have c0:=aK q0;have c1:=aI q0;have c2:=aK q1;have c3:=aI q1;have c4:=aK q2;have c5:=aI q2;have fz:=ay q2;replace q0:=ab q0;replace q1:=ab q1;replace q2:=ab q2;replace b1:=ab b1)|(go_at_call 90;refine (bX (im v) _).mono ?_;rintro e w2 ⟨he,b2⟩;rw [HN.out] at he;subst he;replace q0:=ab (ai b2 q0.out);replace q1:=ab (ai b2 q1.out);replace q2:=ab (ai b2 q2.out);replace b1:=ab (b1.out.trans b2);clear c0 c1 c2 c3 c4 c5 fz;have c0:=aK q0.out;have c1:=aI q0.out;have c2:=aK q1.out;have c3:=aI q1.out;have c4:=aK q2.out;have c5:=aI q2.out;have fz:=ay q2.out)|(go_at_call 154;refine (jk g h v t.cls _ (HR.out.bl (HB.out.trans b1.out)) HV.out.1 HV.out.2.1 HV.out.2.2).mono ?_;rintro e w3 ⟨he,b3⟩;rw [HZ.out] at he;subst he;replace q0:=ab (ai b3 q0.out);replace q1:=ab (ai b3 q1.out);replace q2:=ab (ai b3 q2.out);replace b1:=ab (b1.out.trans b3);clear c0 c1 c2 c3 c4 c5 fz;have c0:=aK q0.out;have c1:=aI q0.out;have c2:=aK q1.out;have c3:=aI q1.out;have c4:=aK q2.out;have c5:=aI q2.out;have fz:=ay q2.out))
 refine bodyPost_ret (results_cell_row rfl _ _ (w.heap.size+1+1) _ _ _ _ rfl (bQ q2.out) Tryz.underlying100 rfl bK) rfl ?_
 exact ⟨rfl,kB (HB.out.trans b1.out) (by omega) _ _⟩
theorem Ei (R:oX w g h) (hk:v.kind=3) (h3:t.kind=3) (hv:0<=v.n) (hn:v.n<h.objs.length) (hz:gH h.file.classes (h.obj v.n).cls t.cls=false) :
  Calls Tryz.prog 191 #[.pointer (some ⟨g.hb,0,none⟩),cn (im v),jD t] w fun e w'=>e=aV 6 0 0/\Bl w w':=by
 obtain ⟨L0,L1,L2⟩:=dE w #[int i64 (im v).kind,int i64 (im v).n] #[int i64 t.kind,int i64 t.cls] #[int i64 0,int i64 0] 100 45 100
 have HB:Hid (Bl w (((w.alloc (dL (im v))).alloc (je t)).alloc eT)):=(((Bl.refl w).alloc _).alloc _).alloc _
 have HR:Hid (oX w g h):=R
 obtain ⟨W,hW⟩:∃W,W=(((w.alloc (dL (im v))).alloc (je t)).alloc eT):=⟨_,rfl⟩
 rw [<-hW] at HB L0 L1 L2
 have HW:Hid (W=(((w.alloc (dL (im v))).alloc (je t)).alloc eT)):=hW
 have oZ:Hid (W.heap[w.heap.size]?=some (.cells #[int i64 (im v).kind,int i64 (im v).n] 100 (0,0))):=L0
 have gx:Hid (W.heap[w.heap.size+1]?=some (.cells #[int i64 t.kind,int i64 t.cls] 45 (0,0))):=L1
 have wq:Hid (W.heap[w.heap.size+1+1]?=some (.cells #[int i64 0,int i64 0] 100 (0,0))):=L2
 clear R L0 L1 L2 hW
 have Hk:Hid ((im v).kind=t.kind):=by rw [h3];exact hk
 have HV:Hid (v.kind=3/\0<=v.n/\v.n<h.objs.length):=⟨hk,hv,hn⟩
 have HN:Hid (vB (im v)=false):=lz hk hv
 have HZ:Hid (gH h.file.classes (h.obj v.n).cls t.cls=false):=hz
 have hd:decide (t.kind=3)=true:=decide_eq_true h3
 have hb:(t.kind==3)=true:=by simpa using h3
 clear hk h3 hv hn hz
 go_enter Tryz.func191,Tryz.ntmps191
 go_wp2_with (first|(go_at_call 144;rw [<-HW.out];refine (eI (im v) t.kind _ Hk.out).mono ?_;rintro e w1 ⟨rfl,b1⟩;have q0:=ai b1 oZ.out;have q1:=ai b1 gx.out;have q2:=ai b1 wq.out;have c0:=aK q0;have c1:=aI q0;have c2:=aK q1;have c3:=aI q1;have c4:=aK q2;have c5:=aI q2;have fz:=ay q2;replace q0:=ab q0;replace q1:=ab q1;replace q2:=ab q2;replace b1:=ab b1)|(go_at_call 90;refine (bX (im v) _).mono ?_;rintro e w2 ⟨he,b2⟩;rw [HN.out] at he;subst he;replace q0:=ab (ai b2 q0.out);replace q1:=ab (ai b2 q1.out);replace q2:=ab (ai b2 q2.out);replace b1:=ab (b1.out.trans b2);clear c0 c1 c2 c3 c4 c5 fz;have c0:=aK q0.out;have c1:=aI q0.out;have c2:=aK q1.out;have c3:=aI q1.out;have c4:=aK q2.out;have c5:=aI q2.out;have fz:=ay q2.out)|(go_at_call 154;refine (jk g h v t.cls _ (HR.out.bl (HB.out.trans b1.out)) HV.out.1 HV.out.2.1 HV.out.2.2).mono ?_;rintro e w3 ⟨he,b3⟩;rw [HZ.out] at he;subst he;replace q0:=ab (ai b3 q0.out);replace q1:=ab (ai b3 q1.out);replace q2:=ab (ai b3 q2.out);replace b1:=ab (b1.out.trans b3);clear c0 c1 c2 c3 c4 c5 fz;have c0:=aK q0.out;have c1:=aI q0.out;have c2:=aK q1.out;have c3:=aI q1.out;have c4:=aK q2.out;have c5:=aI q2.out;have fz:=ay q2.out)|(go_at_call 86;refine (jd _).mono ?_;rintro e w4 ⟨rfl,hw⟩;rw [hw];clear hw w4))
 exact ⟨rfl,rfl,HB.out.trans b1.out⟩
theorem Br (R:oX w g h) (hk:v.kind≠t.kind) :
  Calls Tryz.prog 191 #[.pointer (some ⟨g.hb,0,none⟩),cn (im v),jD t] w fun e w'=>e=aV 6 0 0/\Bl w w':=by
 obtain ⟨L0,L1,L2⟩:=dE w #[int i64 (im v).kind,int i64 (im v).n] #[int i64 t.kind,int i64 t.cls] #[int i64 0,int i64 0] 100 45 100
 have HB:Hid (Bl w (((w.alloc (dL (im v))).alloc (je t)).alloc eT)):=(((Bl.refl w).alloc _).alloc _).alloc _
 have HR:Hid (oX w g h):=R
 obtain ⟨W,hW⟩:∃W,W=(((w.alloc (dL (im v))).alloc (je t)).alloc eT):=⟨_,rfl⟩
 rw [<-hW] at HB L0 L1 L2
 have HW:Hid (W=(((w.alloc (dL (im v))).alloc (je t)).alloc eT)):=hW
 have oZ:Hid (W.heap[w.heap.size]?=some (.cells #[int i64 (im v).kind,int i64 (im v).n] 100 (0,0))):=L0
 have gx:Hid (W.heap[w.heap.size+1]?=some (.cells #[int i64 t.kind,int i64 t.cls] 45 (0,0))):=L1
 have wq:Hid (W.heap[w.heap.size+1+1]?=some (.cells #[int i64 0,int i64 0] 100 (0,0))):=L2
 clear R L0 L1 L2 hW
 have Hk:Hid ((im v).kind≠t.kind):=hk
 clear hk
 go_enter Tryz.func191,Tryz.ntmps191
 go_wp2_with (go_at_call 144;rw [<-HW.out];refine (lU (im v) t.kind _ Hk.out).mono ?_;rintro e w1 ⟨rfl,b1⟩;have q0:=ai b1 oZ.out;have q1:=ai b1 gx.out;have q2:=ai b1 wq.out;have c0:=aK q0;have c1:=aI q0;have c2:=aK q1;have c3:=aI q1;have c4:=aK q2;have c5:=aI q2;have fz:=ay q2;replace q0:=ab q0;replace q1:=ab q1;replace q2:=ab q2;replace b1:=ab b1)
 exact ⟨rfl,rfl,HB.out.trans b1.out⟩
theorem Ej (R:oX w g h) (hv:v.kind=3->-1<=v.n/\v.n<h.objs.length) (ho:h.of v t=true) :
  Calls Tryz.prog 191 #[.pointer (some ⟨g.hb,0,none⟩),cn (im v),jD t] w fun e w'=>e=.returned (cn (im v))/\Bl w w':=by
 unfold Hp.of at ho
 rw [Bool.and_eq_true,Bool.or_eq_true,Bool.or_eq_true] at ho
 obtain ⟨h1,h2⟩:=ho
 have hk:=of_decide_eq_true h1
 by_cases h3:t.kind=3
 ·have sW:v.kind=3:=hk.trans h3
  obtain ⟨v1,v2⟩:=hv sW
  by_cases hn:v.n=-1
  ·exact Eg g h v t w R sW h3 hn
  ·refine Eh g h v t w R sW h3 (by omega) v2 ?_
   rcases h2 with h2|h2|h2
   ·exact absurd h3 (of_decide_eq_true h2)
   ·have:=of_decide_eq_true h2;omega
   ·exact h2
 ·exact Ef g h v t w R hk h3
theorem IA (R:oX w g h) (hv:v.kind=3->-1<=v.n/\v.n<h.objs.length) (ho:h.of v t=false) :
  Calls Tryz.prog 191 #[.pointer (some ⟨g.hb,0,none⟩),cn (im v),jD t] w fun e w'=>e=aV 6 0 0/\Bl w w':=by
 by_cases hk:v.kind=t.kind
 ·unfold Hp.of at ho
  rw [decide_eq_true hk,Bool.true_and,Bool.or_eq_false_iff,Bool.or_eq_false_iff] at ho
  obtain ⟨h1,h2,h3⟩:=ho
  have ht:t.kind=3:=by simpa using h1
  have sW:v.kind=3:=hk.trans ht
  have hn:¬v.n<0:=of_decide_eq_false h2
  exact Ei g h v t w R sW ht (by omega) (hv sW).2 h3
 ·exact Br g h v t w R hk
end
def cK (s:Nat) (X Y:Nat->Prop) (wx w0:World) (g:Mg) (w:World) (h:Hp) (qs:List Nat) (a:Mc) (c:aH):Prop :=
 ∃vc vo vx vs l,l4 s X wx w0 g w h qs a c vc vo vx vs l/\∀b,Y b->b<w.heap.size/\w0.heap.size<=b/\¬X b/\lv g vc vo vx b/\mh a vs b
def NF:Nat->Prop:=fun _=>False
section
variable {s:Nat} {X:Nat->Prop}
theorem RX.y {wx w0 w:World} {g:Mg} {h:Hp} {qs:List Nat} {a:Mc} {c:aH} (H:RX s X wx w0 g w h qs a c):cK s X NF wx w0 g w h qs a c:=by
 obtain ⟨vc,vo,vx,vs,l,H⟩:=H
 exact ⟨vc,vo,vx,vs,l,H,fun b hb=>absurd hb (fun x=>x)⟩
theorem cK.x {Y:Nat->Prop} {wx w0 w:World} {g:Mg} {h:Hp} {qs:List Nat} {a:Mc} {c:aH} (H:cK s X Y wx w0 g w h qs a c):RX s X wx w0 g w h qs a c:=by
 obtain ⟨vc,vo,vx,vs,l,H,-⟩:=H
 exact ⟨vc,vo,vx,vs,l,H⟩
theorem cK.size {Y:Nat->Prop} {wx w0 w:World} {g:Mg} {h:Hp} {qs:List Nat} {a:Mc} {c:aH} (H:cK s X Y wx w0 g w h qs a c):w0.heap.size<=w.heap.size:=by
 obtain ⟨vc,vo,vx,vs,l,H,-⟩:=H
 exact H.rh.bl.size
theorem RX.size {wx w0 w:World} {g:Mg} {h:Hp} {qs:List Nat} {a:Mc} {c:aH} (H:RX s X wx w0 g w h qs a c):w0.heap.size<=w.heap.size:=H.y.size
theorem cK.bl {Y:Nat->Prop} {wx w0 w w':World} {g:Mg} {h:Hp} {qs:List Nat} {a:Mc} {c:aH} (H:cK s X Y wx w0 g w h qs a c) (hb:Bl w w'):cK s X (Xp Y w.heap.size w'.heap.size) wx w0 g w' h qs a c:=by
 have hs:=H.size
 obtain ⟨vc,vo,vx,vs,l,H,F⟩:=H
 refine ⟨vc,vo,vx,vs,l,H.bl hb,fun b hy=>?_⟩
 have hsz:=hb.size
 rcases hy with hy|hy
 ·obtain ⟨h1,h2,h3,h4,h5⟩:=F b hy
  exact ⟨by omega,h2,h3,h4,h5⟩
 ·refine ⟨hy.2,by omega,fun hx=>?_,H.rh.farNew hy.1,H.ca.farNew hy.1⟩
  have:=(H.kept.blk b hx).1
  have:=H.kept.size
  omega
theorem cK.less {Y Z:Nat->Prop} {wx w0 w:World} {g:Mg} {h:Hp} {qs:List Nat} {a:Mc} {c:aH} (H:cK s X Y wx w0 g w h qs a c) (hz:∀b,Z b->Y b):cK s X Z wx w0 g w h qs a c:=by
 obtain ⟨vc,vo,vx,vs,l,H,F⟩:=H
 exact ⟨vc,vo,vx,vs,l,H,fun b hb=>F b (hz b hb)⟩
theorem cK.set {Y:Nat->Prop} {wx w0 w:World} {g:Mg} {h:Hp} {qs:List Nat} {a:Mc} {c:aH} (H:cK s X Y wx w0 g w h qs a c) {b:Nat} (hb:Y b) (i:Nat) (v:Value):cK s X Y wx w0 g (w.setCell ⟨b,i,none⟩ v) h qs a c:=by
 obtain ⟨vc,vo,vx,vs,l,H,F⟩:=H
 obtain ⟨h1,h2,h3,h4,h5⟩:=F b hb
 have hg:=cQ (w:=w) b i v
 refine ⟨vc,vo,vx,vs,l,⟨H.rh.kept hg (fun x e=>?_),H.ca.kept hg (fun x e=>?_),H.farr,H.farc,H.kept.kept hg (fun x e hx=>?_)⟩,fun x hx=>?_⟩
 ·cases e;exact ⟨h2,h4⟩
 ·cases e;exact h5
 ·cases e;exact h3 hx
 ·obtain ⟨y1,y2⟩:=F x hx
  exact ⟨by simpa [World.setCell] using y1,y2⟩
end
structure xV (Y:Nat->Prop) (w w':World):Prop where
 size:w.heap.size<=w'.heap.size
 blk:∀b,Y b->w'.heap[b]?=w.heap[b]?
section
variable {Y:Nat->Prop} {w w':World}
theorem xV.at (h:xV Y w w') {b:Nat} {o:Obj} (hb:Y b) (ho:w.heap[b]?=some o):w'.heap[b]?=some o:=(h.blk b hb).trans ho
theorem xV.to {w2:World} (h:xV Y w w') (hb:Bl w' w2) (hs:∀b,Y b->b<w.heap.size):xV Y w w2 :=
 ⟨Nat.le_trans h.size hb.size,fun b hy=>(hb.block b (Nat.lt_of_lt_of_le (hs b hy) h.size)).trans (h.blk b hy)⟩
end
theorem cK.wide {s:Nat} {X Y:Nat->Prop} {wx w0 w w':World} {g:Mg} {h:Hp} {qs:List Nat} {a:Mc} {c:aH} (H:cK s X Y wx w0 g w h qs a c) (hb:Bl w w'):RX s (fun b=>X b∨Xp Y w.heap.size w'.heap.size b) w' w0 g w' h qs a c:=by
 obtain ⟨vc,vo,vx,vs,l,H,F⟩:=H.bl hb
 refine ⟨vc,vo,vx,vs,l,H.rh,H.ca,?_,?_,Nat.le_refl _,fun b hx=>⟨?_,rfl⟩⟩
 ·rintro b (hx|hx)
  ·exact H.farr b hx
  ·exact (F b hx).2.2.2.1
 ·rintro b (hx|hx)
  ·exact H.farc b hx
  ·exact (F b hx).2.2.2.2
 ·rcases hx with hx|hx
  ·have:=(H.kept.blk b hx).1;have:=H.kept.size;omega
  ·exact (F b hx).1
theorem cK.back {s s':Nat} {X Y:Nat->Prop} {wx w0 w w' w2:World} {g:Mg} {h h':Hp} {qs vw:List Nat} {a a':Mc} {c c':aH} (H:cK s X Y wx w0 g w h qs a c) (hb:Bl w w') (H2:RX s' (fun b=>X b∨Xp Y w.heap.size w'.heap.size b) w' w0 g w2 h' vw a' c') :
  cK s' X (Xp Y w.heap.size w'.heap.size) wx w0 g w2 h' vw a' c'/\xV (Xp Y w.heap.size w'.heap.size) w' w2:=by
 obtain ⟨vc,vo,vx,vs,l,H,F⟩:=H.bl hb
 obtain ⟨rK,vz,vA,il,l',H2⟩:=H2
 refine ⟨⟨rK,vz,vA,il,l',⟨H2.rh,H2.ca,fun b hx=>H2.farr b (Or.inl hx),fun b hx=>H2.farc b (Or.inl hx),Nat.le_trans H.kept.size H2.kept.size,fun b hx=>⟨(H.kept.blk b hx).1,?_⟩⟩,fun b hy=>?_⟩,H2.kept.size,fun b hy=>(H2.kept.blk b (Or.inr hy)).2⟩
 ·rw [(H2.kept.blk b (Or.inl hx)).2]
  exact (H.kept.blk b hx).2
 ·obtain ⟨h1,h2,h3,h4,h5⟩:=F b hy
  exact ⟨Nat.lt_of_lt_of_le h1 H2.kept.size,h2,h3,H2.farr b (Or.inr hy),H2.farc b (Or.inr hy)⟩
def RS (s:Nat) (X:Nat->Prop) (wx w0:World) (g:Mg) (w:World) (h:Hp) (qs:List Nat) (a:Mc) (c:aH):Prop:=∃c':aH,c'.m=c.m/\(c'.pc=c.pc/\c'.locs=c.locs)/\RX s X wx w0 g w h qs a c'
section
variable {s:Nat} {X:Nat->Prop}
theorem RX.rs {wx w0 w:World} {g:Mg} {h:Hp} {qs:List Nat} {a:Mc} {c:aH} (H:RX s X wx w0 g w h qs a c):RS s X wx w0 g w h qs a c:=⟨c,rfl,⟨rfl,rfl⟩,H⟩
theorem cK.rs {Y:Nat->Prop} {wx w0 w:World} {g:Mg} {h:Hp} {qs:List Nat} {a:Mc} {c:aH} (H:cK s X Y wx w0 g w h qs a c):RS s X wx w0 g w h qs a c:=H.x.rs
theorem RS.of {wx w0 w:World} {g:Mg} {h:Hp} {qs:List Nat} {a:Mc} {c c':aH} (H:RS s X wx w0 g w h qs a c) (h1:c.m=c'.m) (h2:c.pc=c'.pc/\c.locs=c'.locs):RS s X wx w0 g w h qs a c':=by
 obtain ⟨d,e1,e2,H⟩:=H
 exact ⟨d,e1.trans h1,⟨e2.1.trans h2.1,e2.2.trans h2.2⟩,H⟩
theorem RS.bl {wx w0 w w':World} {g:Mg} {h:Hp} {qs:List Nat} {a:Mc} {c:aH} (H:RS s X wx w0 g w h qs a c) (hb:Bl w w'):RS s X wx w0 g w' h qs a c:=by
 obtain ⟨d,e1,e2,H⟩:=H
 exact ⟨d,e1,e2,H.bl hb⟩
end
section
variable {s:Nat} {X Y:Nat->Prop} {wx w0 w w':World} {g:Mg} {h:Hp} {qs:List Nat} {a:Mc} {c:aH}
theorem cK.useY (H:cK s X Y wx w0 g w h qs a c) (hb:Bl w w') {f:FuncId} {args:Array Value} {E:Ending} {s':Nat} {h':Hp} {vw:List Nat} {a':Mc} {c':aH} (hc:∀X wx w,RX s X wx w0 g w h qs a c->Calls Tryz.prog f args w fun e w2=>e=E/\RX s' X wx w0 g w2 h' vw a' c') :
  Calls Tryz.prog f args w' fun e w2=>e=E/\cK s' X (Xp Y w.heap.size w'.heap.size) wx w0 g w2 h' vw a' c'/\xV (Xp Y w.heap.size w'.heap.size) w' w2:=by
 refine (hc _ _ _ (H.wide hb)).mono ?_
 rintro e w2 ⟨he,H2⟩
 obtain ⟨h3,h4⟩:=H.back hb H2
 exact ⟨he,h3,h4⟩
theorem cK.useN (H:cK s X Y wx w0 g w h qs a c) (hb:Bl w w') {f:FuncId} {args:Array Value} {E:Ending} {s':Nat} {h':Hp} {vw:List Nat} {a':Mc} {c':aH} (hc:∀X wx w,RX s X wx w0 g w h qs a c->Calls Tryz.prog f args w fun e w2=>e=E/\RS s' X wx w0 g w2 h' vw a' c') :
  Calls Tryz.prog f args w' fun e w2=>e=E/\RS s' X wx w0 g w2 h' vw a' c':=by
 refine (hc _ _ _ (H.wide hb)).mono ?_
 rintro e w2 ⟨he,d,e1,e2,H2⟩
 exact ⟨he,d,e1,e2,(H.back hb H2).1.x⟩
end
section
variable {Y:Nat->Prop} {n m b:Nat}
theorem Xp.new (h1:n<=b) (h2:b<m):Xp Y n m b:=Or.inr ⟨h1,h2⟩
theorem Xp.old (h:Y b):Xp Y n m b:=Or.inl h
end
section
variable (s:Nat) (X:Nat->Prop) (wx w0:World) (g:Mg) (h:Hp) (qs:List Nat) (a:Mc) (c:aH)
theorem cz (l:List Va) (v:Va) (k:Int) (w:World) (H:RX s X wx w0 g w h qs a c) (hs:c.stk=l++[v]) (hk:v.kind=k) :
  Calls Tryz.prog 89 #[.pointer (some ⟨a.q,0,none⟩),int i64 k] w fun e w'=>e=.returned (cn (im v))/\RX s X wx w0 g w' h qs a { c with stk:=l }:=by
 have HH:Hid (RX s X wx w0 g w h qs a c):=H
 have HS:Hid (c.stk=l++[v]):=hs
 have HK:Hid ((im v).kind=k):=hk
 clear H hs hk
 go_enter Tryz.func89,Tryz.ntmps89
 go_wp2_with (first
  | (go_at_call 143;refine (HH.out.y.useY ((Bl.refl w).alloc _) (fun X wx w H=>iY s X wx w0 g h qs a c l v w H HS.out)).mono ?_;rintro e w1 ⟨rfl,H1,K1⟩;have H1:=ab H1;have q0:=K1.at (Xp.new (Nat.le_refl _) (by simp)) (aD w _ _);have K1:=ab K1)
  | (go_at_call 144;refine (eI (im v) k _ HK.out).mono ?_;rintro e w2 ⟨rfl,b2⟩;replace q0:=ai b2 q0;have c4:=aK q0;have c5:=aI q0;have fz:=ay q0;have b2:=ab b2;replace q0:=ab q0))
 refine bodyPost_ret (results_cell_row rfl _ _ w.heap.size _ _ _ _ rfl (bQ q0.out) Tryz.underlying100 rfl bK) rfl ?_
 refine ⟨rfl,cK.x (cK.set (cK.set (H1.out.bl b2.out) ?_ 0 _) ?_ 1 _)⟩<;>exact Xp.old (Xp.new (Nat.le_refl _) (by simp))
theorem dk (k:Int) (w:World) (H:RX s X wx w0 g w h qs a c) (hs:c.stk=[]∨∃l v,c.stk=l++[v]/\v.kind≠k) :
  Calls Tryz.prog 89 #[.pointer (some ⟨a.q,0,none⟩),int i64 k] w fun e w'=>e=aV 6 0 0/\RS s X wx w0 g w' h qs a c:=by
 have HH:Hid (RX s X wx w0 g w h qs a c):=H
 clear H
 rcases hs with hs|⟨l,v,hs,hk⟩
 ·have HS:Hid (c.stk=[]):=hs
  clear hs
  go_enter Tryz.func89,Tryz.ntmps89
  go_wp2_with (go_at_call 143;refine (HH.out.y.useY ((Bl.refl w).alloc _) (fun X wx w H=>nJ s X wx w0 g h qs a c w H HS.out)).mono ?_;rintro e w1 ⟨rfl,H1,K1⟩)
  exact ⟨rfl,rfl,H1.rs⟩
 ·have HS:Hid (c.stk=l++[v]):=hs
  have HK:Hid ((im v).kind≠k):=hk
  clear hs hk
  go_enter Tryz.func89,Tryz.ntmps89
  go_wp2_with (first
   | (go_at_call 143;refine (HH.out.y.useY ((Bl.refl w).alloc _) (fun X wx w H=>iY s X wx w0 g h qs a c l v w H HS.out)).mono ?_;rintro e w1 ⟨rfl,H1,K1⟩;have H1:=ab H1;have K1:=ab K1)
   | (go_at_call 144;refine (lU (im v) k _ HK.out).mono ?_;rintro e w2 ⟨rfl,b2⟩;have b2:=ab b2))
  exact ⟨rfl,rfl,(H1.out.bl b2.out).rs.of rfl ⟨rfl,rfl⟩⟩
end

section
open Go.Maps (Keyed has)
theorem jl (n:Int) (w:World):Calls Tryz.prog 101 #[int i64 n] w fun e w'=>e=.returned (cn ⟨1,n⟩)/\Bl w w':=by
 go_enter Tryz.func101,Tryz.ntmps101
 go_wp2
 refine bodyPost_ret (results_cell_row rfl _ _ w.heap.size _ _ _ _ rfl (aD _ _ _) Tryz.underlying100 rfl bK) rfl ?_
 exact ⟨rfl,(Bl.refl w).alloc _⟩
theorem iZ (n:Int) (w:World):Calls Tryz.prog 100 #[int i64 n] w fun e w'=>e=.returned (cn ⟨2,n⟩)/\Bl w w':=by
 go_enter Tryz.func100,Tryz.ntmps100
 go_wp2
 refine bodyPost_ret (results_cell_row rfl _ _ w.heap.size _ _ _ _ rfl (aD _ _ _) Tryz.underlying100 rfl bK) rfl ?_
 exact ⟨rfl,(Bl.refl w).alloc _⟩
theorem Bt (b:Bool) (w:World):Calls Tryz.prog 197 #[.bool b] w fun e w'=>e=.returned (cn ⟨1,if b=true then 1 else 0⟩)/\Bl w w':=by
 have HB:Hid (Bl w (w.alloc eT)):=(Bl.refl w).alloc _
 have HL:=ab (aD w #[int i64 0,int i64 0] 100)
 cases b
 ·go_enter Tryz.func197,Tryz.ntmps197
  go_wp2_with (go_at_call 101;refine (jl 0 _).mono ?_;rintro e w1 ⟨rfl,b1⟩;have q0:=ai b1 HL.out;have c4:=aK q0;have c5:=aI q0;have fz:=ay q0;have b1:=ab b1;have q0:=ab q0)
  refine bodyPost_ret (results_cell_row rfl _ _ w.heap.size _ _ _ _ rfl (bQ q0.out) Tryz.underlying100 rfl bK) rfl ?_
  exact ⟨rfl,kB (HB.out.trans b1.out) (Nat.le_refl _) _ _⟩
 ·go_enter Tryz.func197,Tryz.ntmps197
  go_wp2_with (go_at_call 101;refine (jl 1 _).mono ?_;rintro e w1 ⟨rfl,b1⟩;have q0:=ai b1 HL.out;have c4:=aK q0;have c5:=aI q0;have fz:=ay q0;have b1:=ab b1;have q0:=ab q0)
  refine bodyPost_ret (results_cell_row rfl _ _ w.heap.size _ _ _ _ rfl (bQ q0.out) Tryz.underlying100 rfl bK) rfl ?_
  exact ⟨rfl,kB (HB.out.trans b1.out) (Nat.le_refl _) _ _⟩
theorem Ek:(Tryz.prog.info? 45).map (·.size)=some 2:=by kernel_rfl
theorem eS (n:Int) (w:World):Calls Tryz.prog 185 #[int i64 n] w fun e w'=>e=.returned (jD ⟨3,n⟩)/\Bl w w':=by
 go_enter Tryz.func185,Tryz.ntmps185
 go_wp2
 refine bodyPost_ret (results_cell_row rfl _ _ w.heap.size _ _ _ _ rfl (aD _ _ _) Tryz.underlying45 rfl Ek) rfl ?_
 exact ⟨rfl,(Bl.refl w).alloc _⟩
theorem Bv:(Tryz.prog.info? 3).map (fun i=>(i.zero,i.size,i.bytes))=some (some (int i64 0),1,8):=by kernel_rfl
structure Om (h h':Hp):Prop where
 file:h'.file=h.file
 objs:h'.objs=h.objs
 input:h'.input=h.input
 fuel:h'.fuel=h.fuel
 out:h'.sh.out=h.sh.out
 used:h'.sh.used=h.sh.used
 steps:h'.sh.steps=h.sh.steps
theorem RH.eqv {s:Nat} {w0 w:World} {g:Mg} {h h':Hp} {qs:List Nat} {vc vo vx:Value} (H:RH s w0 g w h qs vc vo vx) (e:Om h h'):RH s w0 g w h' qs vc vo vx:=by
 have e1:gM g h' vc vx=gM g h vc vx:=by unfold gM;rw [e.file,e.input,e.fuel,e.steps,e.used]
 have e2:fC g h' vo=fC g h vo:=by unfold fC;rw [e.file]
 refine ⟨H.ownr,H.ownh,H.ownm,H.bl,by rw [e1];exact H.run,by rw [e2];exact H.hp,by rw [e.out];exact H.out,by rw [e.objs];exact H.obs,H.calls,?_⟩
 obtain ⟨n,D,F⟩:=H.fld
 exact ⟨n,D,F.own,by rw [e.steps];exact F.few,by rw [e.objs];exact F.hit,by rw [e.objs,e.file];exact F.miss,by rw [e.objs];exact F.new,by rw [e.objs,e.file];exact F.ks,by rw [e.objs,e.file];exact F.kd⟩
section
variable {s:Nat} {X:Nat->Prop} {wx w0 w:World} {g:Mg} {h h':Hp} {qs:List Nat} {a:Mc} {c:aH}
theorem RX.eqv (H:RX s X wx w0 g w h qs a c) (e:Om h h'):RX s X wx w0 g w h' qs a c:=by
 obtain ⟨vc,vo,vx,vs,l,H⟩:=H
 exact ⟨vc,vo,vx,vs,l,H.rh.eqv e,H.ca,H.farr,H.farc,H.kept⟩
theorem RS.eqv (H:RS s X wx w0 g w h qs a c) (e:Om h h'):RS s X wx w0 g w h' qs a c:=by
 obtain ⟨d,e1,e2,H⟩:=H
 exact ⟨d,e1,e2,H.eqv e⟩
end
theorem zN (h:Hp) (e:Int):Om h (h.fin e):=by unfold Hp.fin;split<;>exact ⟨rfl,rfl,rfl,rfl,rfl,rfl,rfl⟩
def Hp.mk' (h:Hp) (c:Int):Hp:={ h with objs:=h.objs++[⟨c,dA h.file.classes c.toNat⟩] }
theorem nK {cs:List Cl} {c:Nat} {x:pB} (hx:x∈dA cs c):x.v=jc (dW cs x.cls x.fld):=by
 unfold dA at hx
 rw [List.mem_flatMap] at hx
 obtain ⟨d,-,hd⟩:=hx
 unfold iA at hd
 split at hd
 ·rw [List.mem_map] at hd
  obtain ⟨k,-,rfl⟩:=hd
  unfold dW
  simp
 ·simp at hd
theorem qp {α:Type} {d:α} {l:List α} {x:α}:nth d (l++[x]) l.length=x:=by simp [nth]
theorem l7 {α:Type} {d:α} {l:List α} {x:α} {i:Nat} (h:i<l.length):nth d (l++[x]) i=nth d l i:=by simp [nth,List.getD,List.getElem?_append_left h]
theorem mB.push {s:Nat} {w:World} {mp:Nat} {h:Hp} {n:Nat} {D:DataW Nat} (F:mB s w mp h n D) (c:Int) (KO:h.objs.length<=100):mB s w mp (h.mk' c) n D:=by
 have hl:(h.mk' c).objs.length=h.objs.length+1:=by simp [Hp.mk']
 refine ⟨F.own,F.few,fun o cc k v ho ic ik hx hh=>?_,fun o cc k v ho ic ik hx hh=>?_,fun o cc k ho IB ic ik=>F.new o cc k (by omega) IB ic ik,fun o ho=>?_,fun o ho x hx=>?_⟩
 ·by_cases e:o<h.objs.length
  ·have e1:nth cB (h.mk' c).objs o=nth cB h.objs o:=l7 e
   rw [e1] at hx
   exact F.hit o cc k v e ic ik hx hh
  ·rw [F.new o cc k (by omega) (by omega) ic ik] at hh
   exact absurd hh (by decide)
 ·by_cases e:o<h.objs.length
  ·have e1:nth cB (h.mk' c).objs o=nth cB h.objs o:=l7 e
   rw [e1] at hx
   exact F.miss o cc k v e ic ik hx hh
  ·have e0:o=h.objs.length:=by omega
   subst e0
   have e1:nth cB (h.mk' c).objs h.objs.length=⟨c,dA h.file.classes c.toNat⟩:=qp
   rw [e1] at hx
   obtain ⟨x,Bw,rfl,rfl,rfl⟩:=hx
   exact nK Bw
 ·by_cases e:o<h.objs.length
  ·have e1:nth cB (h.mk' c).objs o=nth cB h.objs o:=l7 e
   rw [e1]
   exact F.ks o e
  ·have e0:o=h.objs.length:=by omega
   subst e0
   have e1:nth cB (h.mk' c).objs h.objs.length=⟨c,dA h.file.classes c.toNat⟩:=qp
   rw [e1]
   rfl
 ·by_cases e:o<h.objs.length
  ·have e1:nth cB (h.mk' c).objs o=nth cB h.objs o:=l7 e
   rw [e1] at hx
   exact F.kd o e x hx
  ·have e0:o=h.objs.length:=by omega
   subst e0
   have e1:nth cB (h.mk' c).objs h.objs.length=⟨c,dA h.file.classes c.toNat⟩:=qp
   rw [e1] at hx
   rw [nK hx]
   rfl
theorem l4.objs {s:Nat} {X:Nat->Prop} {wx w0 w w2:World} {g:Mg} {h:Hp} {qs:List Nat} {a:Mc} {c:aH} {vc vo vx vs v':Value} {l:List Va} (H:l4 s X wx w0 g w h qs a c vc vo vx vs l) (hg:w.grownBy w2 vo.ownBlock) {k:Int}
  (ho:w2.ownsRow w0.heap.size 3 1 v' (h.objs.length+1) (h.objs.map (fun o=>Value.int .i64 o.cls)++[int i64 k])) (hat:v'.ownBlock=vo.ownBlock∨∀b,v'.ownBlock=some b->w.heap.size<=b) (KO:h.objs.length<=100) :
  l4 s X wx w0 g (w2.setCell ⟨g.hb,1,none⟩ v') (h.mk' k) qs a c vc v' vx vs l:=by
 have R:=H.rh
 obtain ⟨n,D,F⟩:=R.fld
 obtain ⟨fr,fh,fm,fc,fo,fx⟩:=H.ca.farC R
 have hrow:∀b,vo.ownBlock=some b->w0.heap.size<=b:=fun b e=>(R.obs.lt b e).1
 have n1:vo.ownBlock≠some g.r:=bc R.obs R.run (by decide)
 have n2:vo.ownBlock≠some g.hb:=bc R.obs R.hp (by decide)
 have n3:vo.ownBlock≠some g.mp:=l5 R.obs F.own
 have mK:=au hg R.hp n2
 have gE:=cQ (w:=w2) g.hb 1 v'
 have Oo:(some g.hb:Option Nat)≠some g.r:=fun e=>dN R.hp R.run (by decide) (Option.some.inj e)
 have hne:∀(vv:Value) {b e sz nn xs},w.ownsRow b e sz vv nn xs->e≠3->vv.ownBlock=none∨vv.ownBlock≠vo.ownBlock:=fun vv b e sz nn xs hr he=>ta hr R.obs he
 have C2:=H.ca.kept hg (fun b e=>fo b e)
 have tf:w.heap.size<=w2.heap.size:=hg.size
 have L9:∀b,X b->lv g vc v' vx b:=fun b hx=>⟨(H.farr b hx).r,(H.farr b hx).h,(H.farr b hx).m,(H.farr b hx).c,fun e=>by
  rcases hat with q|q
  ·rw [q] at e;exact (H.farr b hx).o e
  ·have:=q b e;have:=(H.kept.blk b hx).1;have:=H.kept.size;omega,(H.farr b hx).x⟩
 refine ⟨⟨R.ownr,R.ownh,R.ownm,?_,?_,?_,?_,?_,?_,n,D,?_⟩,?_,L9,H.farc,?_⟩
 ·exact Below.setCell (Below.grown R.bl hg R.bl.size hrow) R.ownh _
 ·exact au gE (au hg R.run n1) Oo
 ·rw [ax mK];rfl
 ·exact (R.out.kept hg (hne vx R.out (by decide))).kept gE (Or.inr (bc (R.out.kept hg (hne vx R.out (by decide))) mK (by decide)))
 ·have:=ho.kept gE (Or.inr (bc ho mK (by decide)))
  simpa [Hp.mk'] using this
 ·exact (R.calls.kept hg (hne vc R.calls (by decide))).kept gE (Or.inr (bc (R.calls.kept hg (hne vc R.calls (by decide))) mK (by decide)))
 ·have F2:mB s (w2.setCell ⟨g.hb,1,none⟩ v') g.mp h n D:=⟨(F.own.kept hg (fun e=>n3 e.symm)).kept gE (fun e=>dN mK mK (by intro;exact absurd (iC mK (F.own.kept hg (fun e=>n3 e.symm))) (fun q=>q (Option.some.inj e).symm)) rfl),F.few,F.hit,F.miss,F.new,F.ks,F.kd⟩
  exact F2.push k KO
 ·exact C2.kept gE (fun b e=>by cases e;exact ⟨fh.q,fh.l,fh.s⟩)
 ·exact (H.kept.kept hg (fun b e hx=>(H.farr b hx).o e)).kept gE (fun b e hx=>by cases e;exact (H.farr _ hx).h rfl)
end
section
open Go.Maps (Keyed has)
theorem El (w:World) (o:Obj):(w.alloc o).heap.size=w.heap.size+1:=by simp
theorem qt {w:World} {b b' i:Nat} {o:Obj} (h:w.heap[b]?=some o) (hb:b≠b') (v:Value):(w.setCell ⟨b',i,none⟩ v).heap[b]?=some o:=by rw [aA hb];exact h
theorem iq {w:World} {base:Nat} {e:TypeId} {size n:Nat} {v:Value} {xs:List Value} (h:w.ownsRow base e size v n xs):∃A cap,v=.slice A n cap/\n<=cap/\cap<=maxLen:=by
 rcases h.2 with ⟨rfl,rfl⟩|⟨gb,cap,cur,rfl,h2,h3,h4,h5,h6⟩
 ·exact ⟨none,0,rfl,Nat.le_refl _,by unfold maxLen;omega⟩
 ·exact ⟨_,cap,rfl,h4,h5⟩
theorem RH.heapCells {s:Nat} {w0 w:World} {g:Mg} {h:Hp} {qs:List Nat} {vc vo vx:Value} (H:RH s w0 g w h qs vc vo vx):w.cell? ⟨g.hb,0,none⟩=some (.slice g.A h.file.classes.length g.a)/\w.cell? ⟨g.hb,1,none⟩=some vo/\w.cell? ⟨g.hb,2,none⟩=some (.map (some g.mp)):=by
 refine ⟨?_,?_,?_⟩<;>(rw [aa H.hp];rfl)
section
variable (s:Nat) (X:Nat->Prop) (wx w0:World) (g:Mg) (h:Hp) (qs:List Nat) (a:Mc) (c:aH) (k:Int) (w:World)
theorem zO (H:RX s X wx w0 g w h qs a c) (hf:h.full=true) (hl:h.objs.length<=100) :
  Calls Tryz.prog 195 #[.pointer (some ⟨g.hb,0,none⟩),int i64 k] w fun e w'=>e=aV 4 0 0/\RX s X wx w0 g w' h qs a c:=by
 have HH:Hid (RX s X wx w0 g w h qs a c):=H
 obtain ⟨vc,vo,vx,vs,l,H⟩:=H
 obtain ⟨A,cap,rfl,h1,h2⟩:=iq H.rh.obs
 have c1:=H.rh.heapCells.2.1
 have hq:=af H.rh.hp
 have Vi:(100:Int)<=(h.objs.length:Int):=by unfold Hp.full at hf;have:=of_decide_eq_true hf;omega
 clear H hf
 go_enter Tryz.func195,Tryz.ntmps195
 go_wp2_with (go_at_call 99;refine (ku 4 _).mono ?_;rintro e w1 ⟨rfl,hw⟩;rw [hw];clear hw w1)
 exact ⟨rfl,rfl,HH.out.bl ((Bl.refl w).alloc _)⟩
theorem wv (H:RX s X wx w0 g w h qs a c) (hf:h.full=false) :
  Calls Tryz.prog 195 #[.pointer (some ⟨g.hb,0,none⟩),int i64 k] w fun e w'=>e=.returned (cn ⟨3,(h.objs.length:Int)+1⟩)/\RX s X wx w0 g w' (h.mk' k) qs a c:=by
 obtain ⟨i0,th,sj,tj,tl⟩:=info_parts Bv
 have cI:=H.size
 obtain ⟨vc,vo,vx,vs,l,H⟩:=H
 have HH:=ab (H.bl ((Bl.refl w).alloc eT))
 have HL:=ab (aD w #[int i64 0,int i64 0] 100)
 have hlt:(h.objs.length:Int)<100:=by unfold Hp.full at hf;have:=of_decide_eq_false hf;omega
 obtain ⟨A,cap,mY,h1,h2⟩:=iq H.rh.obs
 subst mY
 have tq:=H.rh.obs
 have c1:=H.rh.heapCells.2.1
 have fz:=ay H.rh.hp 1
 have hq:=af H.rh.hp
 have HO:=ab HH.out.rh.obs
 have HP:=ab (HH.out.rh.hp)
 have Oq:Hid ((Value.slice A h.objs.length cap).ownBlock≠some w.heap.size):=fun e=>by have:=lx tq e;omega
 have Ot:=ab (bc HO.out HP.out (by decide))
 have yw:=ab (H.rh.farNew (Nat.le_refl _))
 have Ma:=ab (H.ca.farNew (Nat.le_refl _))
 have Ra:Hid (¬X w.heap.size):=fun hx=>by have:=(H.kept.blk _ hx).1;have:=H.kept.size;omega
 have Vj:Hid (∀b,(Value.slice A h.objs.length cap).ownBlock=some b->b≠w.heap.size):=fun b e=>by have:=lx tq e;omega
 clear H hf tq
 go_enter Tryz.func195,Tryz.ntmps195
 go_wp2_with (at_builtin;refine wpList_append_lies _ rfl (.tmp 16) (.tmp 18) 53 rfl w0.heap.size 3 i0 _ 1 8 Tryz.underlying53 th sj tj tl rfl (by omega) (.slice A h.objs.length cap) h.objs.length (h.objs.map (fun o=>Value.int .i64 o.cls)) (by rfl) (by exact HO.out.alloc _) ⟨w.heap.size+1,0,none⟩ 1 1 [int i64 k] (by rfl) (by rfl) (World.news_of_block (cs:=#[int i64 k]) (t:=3) (fr:=(0,0)) (by rw [<-El w eT];exact aD _ _ _)) (by simp [Value.oneCell']) (by omega) (by unfold maxLen;omega) (by omega) (by simp;omega) _ rfl ?_;intro gb cp w1 fY bL hat tr;have mK:=au bL ((Below.heap_alloc _ _ _ (af HP.out)).trans HP.out) Ot.out;have dB:=au bL ((Below.heap_alloc _ _ _ (af HL.out)).trans HL.out) Oq.out;have q1:w1.cell? ⟨g.hb,1,none⟩=some (.slice A h.objs.length cap):=(aa mK).trans rfl;have z1:=ay mK 1;have r0:=aK dB;have r1:=aI dB;have rz:=ay dB;have Vk:=af mK;have hbl:=af dB;have hne:g.hb≠w.heap.size:=(by omega);have fY:=ab fY;have bL:=ab bL;have hat:=ab hat;have mK:=ab mK;have dB:=ab dB)
 refine bodyPost_ret (results_cell_row rfl _ _ w.heap.size _ _ _ _ rfl (bQ (qt dB.out (fun e=>hne e.symm) _)) Tryz.underlying100 rfl bK) rfl ?_
 have HA:=l4.objs (HH.out.bl ((Bl.refl _).alloc _)) bL.out fY.out (hat.out.elim (fun e=>Or.inl e.symm) (fun e=>Or.inr fun b hb=>Nat.le_of_eq (e.symm.trans (by simpa [Value.ownBlock] using hb)))) (by omega)
 refine ⟨rfl,cK.x (cK.set (Y:=fun b=>b=w.heap.size) (b:=w.heap.size) (cK.set (Y:=fun b=>b=w.heap.size) (b:=w.heap.size) ⟨vc,_,vx,vs,l,HA,fun b hb=>?_⟩ rfl 0 _) rfl 1 _)⟩
 subst hb
 refine ⟨by simpa [World.setCell] using hbl,cI,Ra.out,⟨yw.out.r,yw.out.h,yw.out.m,yw.out.c,fun e=>?_,yw.out.x⟩,Ma.out⟩
 simp [Value.ownBlock] at e
 rcases hat.out with q|q
 ·exact Vj.out gb q e
 ·simp at q;omega
end
abbrev wy (n:Int):Ending:=aV 2 3 (n+1)
theorem mL (hb:Nat) (v:Va) (hk:v.kind=3) (hv:0<=v.n) (w:World) :
  Calls Tryz.prog 156 #[.pointer (some ⟨hb,0,none⟩),cn (im v)] w fun e w'=>e=wy v.n/\Bl w w':=by
 have HN:Hid (vB (im v)=false):=lz hk hv
 have e:im v=⟨3,v.n+1⟩:=gp hk
 rw [e] at HN ⊢
 have HL:=ab (aD w #[int i64 3,int i64 (v.n+1)] 100)
 have HB:Hid (Bl w (w.alloc (dL ⟨3,v.n+1⟩))):=(Bl.refl w).alloc _
 clear hk hv e
 go_enter Tryz.func156,Tryz.ntmps156
 go_wp2_with (go_at_call 90;refine (bX ⟨3,v.n+1⟩ _).mono ?_;rintro e w2 ⟨he,b2⟩;rw [HN.out] at he;subst he;have q0:=ai b2 HL.out;have c0:=aK q0;have c1:=aI q0;have b2:=ab b2;have q0:=ab q0)
 exact ⟨rfl,rfl,HB.out.trans b2.out⟩
section
variable (s:Nat) (X:Nat->Prop) (wx w0:World) (g:Mg) (h:Hp) (qs:List Nat) (a:Mc) (c:aH) (k:Int) (w:World)
theorem tt (H:RX s X wx w0 g w h qs a c) (hf:h.full=false) :
  Calls Tryz.prog 199 #[.pointer (some ⟨g.hb,0,none⟩),int i64 k] w fun e w'=>e=wy (h.objs.length:Int)/\RX s X wx w0 g w' (h.mk' k) qs a c:=by
 have HH:=ab H
 have HF:=ab hf
 clear H hf
 have HT:Hid (∀w,Calls Tryz.prog 156 #[.pointer (some ⟨g.hb,0,none⟩),cn ⟨3,(h.objs.length:Int)+1⟩] w fun e w'=>e=wy (h.objs.length:Int)/\Bl w w'):=fun w=>mL g.hb ⟨3,(h.objs.length:Int)⟩ rfl (by simp) w
 go_enter Tryz.func199,Tryz.ntmps199
 go_wp2_with (first
  | (go_at_call 195;refine (wv s X wx w0 g h qs a c k _ HH.out HF.out).mono ?_;rintro e w1 ⟨rfl,H1⟩;have H1:=ab H1)
  | (go_at_call 156;refine (HT.out _).mono ?_;rintro e w2 ⟨rfl,b2⟩;have b2:=ab b2))
 exact ⟨rfl,rfl,H1.out.bl b2.out⟩
theorem wA (H:RX s X wx w0 g w h qs a c) (hf:h.full=true) (hl:h.objs.length<=100) :
  Calls Tryz.prog 199 #[.pointer (some ⟨g.hb,0,none⟩),int i64 k] w fun e w'=>e=aV 4 0 0/\RX s X wx w0 g w' h qs a c:=by
 have HH:=ab H
 have HF:=ab hf
 have HL:=ab hl
 clear H hf hl
 go_enter Tryz.func199,Tryz.ntmps199
 go_wp2_with (go_at_call 195;refine (zO s X wx w0 g h qs a c k _ HH.out HF.out HL.out).mono ?_;rintro e w1 ⟨rfl,H1⟩;have H1:=ab H1)
 exact ⟨rfl,rfl,H1.out⟩
end
def bM (h:Hp):Ending:=if h.full=true then aV 4 0 0 else wy (h.objs.length:Int)
theorem Bz (h:Hp) (k:Int) (ho:h.over=false):Om (if h.full=true then h else h.mk' k) (h.raise k):=by
 unfold Hp.raise Hp.new Hp.mk'
 by_cases hf:h.full=true
 ·rw [if_pos hf,if_pos hf,if_pos (by simp [Hp.fin,ho])];exact zN h 4
 ·rw [if_neg hf,if_neg hf,if_neg (by simp [ho])]
  exact ⟨rfl,rfl,rfl,rfl,rfl,rfl,rfl⟩
section
variable (s:Nat) (X:Nat->Prop) (wx w0:World) (g:Mg) (h:Hp) (qs:List Nat) (a:Mc) (c:aH)
theorem gy (k:Int) (w:World) (H:RX s X wx w0 g w h qs a c) (hl:h.objs.length<=100) (ho:h.over=false) :
  Calls Tryz.prog 199 #[.pointer (some ⟨g.hb,0,none⟩),int i64 k] w fun e w'=>e=bM h/\RX s X wx w0 g w' (h.raise k) qs a c:=by
 have e:=Bz h k ho
 unfold bM
 by_cases hf:h.full=true
 ·rw [if_pos hf] at e ⊢
  exact (wA s X wx w0 g h qs a c k w H hf hl).mono fun _ _ ⟨h1,h2⟩=>⟨h1,h2.eqv e⟩
 ·have Qd:h.full=false:=by simpa using hf
  rw [if_neg hf] at e ⊢
  exact (tt s X wx w0 g h qs a c k w H Qd).mono fun _ _ ⟨h1,h2⟩=>⟨h1,h2.eqv e⟩
theorem yx (v:Va) (w:World) (H:RX s X wx w0 g w h qs a c) (hl:h.objs.length<=100) (ho:h.over=false) (hk:v.kind=3) (hv:v.n=-1) :
  Calls Tryz.prog 156 #[.pointer (some ⟨g.hb,0,none⟩),cn (im v)] w fun e w'=>e=bM h/\RX s X wx w0 g w' (h.raise 1) qs a c:=by
 have HN:Hid (vB (im v)=true):=l6 hk hv
 have e:im v=⟨3,0⟩:=by rw [gp hk,hv];rfl
 rw [e] at HN ⊢
 have HB:Hid (Bl w (w.alloc (dL ⟨3,0⟩))):=(Bl.refl w).alloc _
 have HH:=ab H
 have HL:=ab (And.intro hl ho)
 obtain ⟨E,hE⟩:∃E,bM h=E:=⟨_,rfl⟩
 have HE:=ab hE
 rw [hE]
 have HX:Hid (∃ch,E=.panicked ch):=by
  rw [<-hE];unfold bM;split<;>exact ⟨_,rfl⟩
 clear hk hv e H hl ho hE
 obtain ⟨ch,rfl⟩:=HX.out
 go_enter Tryz.func156,Tryz.ntmps156
 go_wp2_with (first
  | (go_at_call 90;refine (bX ⟨3,0⟩ _).mono ?_;rintro e w2 ⟨he,b2⟩;rw [HN.out] at he;subst he;have b2:=ab b2)
  | (go_at_call 199;refine (gy s X wx w0 g h qs a c 1 _ (HH.out.bl (HB.out.trans b2.out)) HL.out.1 HL.out.2).mono ?_;rintro e w3 ⟨he,H3⟩;rw [HE.out] at he;subst he;have H3:=ab H3))
 exact ⟨rfl,rfl,H3.out⟩
end
end
structure cu (w:World) (b:Nat) (l:List Va):Prop where
 blk:w.heap[b]?=some (.cells (aL l).toArray 100 (0,0))
section
variable {w:World} {b:Nat} {l:List Va}
theorem cu.c0 (h:cu w b l) {i:Nat} (hi:i<l.length):w.cell? ⟨b,i*2,none⟩=some (int i64 (nth ag l i).kind):=by
 rw [aa h.blk];simpa using (fL l i hi).1
theorem cu.c1 (h:cu w b l) {i:Nat} (hi:i<l.length):w.cell? ⟨b,i*2+1,none⟩=some (int i64 (nth ag l i).n):=by
 rw [aa h.blk];simpa using (fL l i hi).2
end
theorem cu.bl {w w':World} {b:Nat} {l:List Va} (h:cu w b l) (hb:Bl w w'):cu w' b l:=⟨ai hb h.blk⟩
theorem cu.set {w:World} {b:Nat} {l:List Va} (h:cu w b l) {i:Nat} (hi:i<l.length) (v:Va):cu ((w.setCell ⟨b,i*2,none⟩ (int i64 v.kind)).setCell ⟨b,i*2+1,none⟩ (int i64 v.n)) b (l.set i v) :=
 ⟨by rw [ax (ax h.blk _),k8 l i v hi];simp⟩
section
variable (lb lc n:Nat) (l:List Va)
theorem Em (k:Int) (w:World) (B:cu w lb l) (hn:n<l.length) (hl:l.length<=1000) (hk:(nth ag l n).kind=k) (h2:k≠2) :
  Calls Tryz.prog 149 #[.slice (some ⟨lb,0,none⟩) l.length lc,int i64 (n:Int),int i64 k] w fun e w'=>e=.returned (cn (nth ag l n))/\Bl w w':=by
 have x0:=B.c0 hn
 have x1:=B.c1 hn
 have hlt:=af B.blk
 have kv:(0:Int)<=(n:Int):=by omega
 have kg:(n:Int)<(l.length:Int):=by omega
 have dB:(k==2)=false:=by simpa using h2
 have Vl:decide (k=2)=false:=decide_eq_false h2
 have HK:=ab hk
 have HL:=ab (aD w #[int i64 0,int i64 0] 100)
 have HB:Hid (Bl w (w.alloc eT)):=(Bl.refl w).alloc _
 generalize nth ag l n=u at *
 clear B hk h2
 go_enter Tryz.func149,Tryz.ntmps149
 go_wp2_with (go_at_call 144;refine (eI u k _ HK.out).mono ?_;rintro e w2 ⟨rfl,b2⟩;have q0:=ai b2 HL.out;have c4:=aK q0;have c5:=aI q0;have fz:=ay q0;have gJ:=af q0;replace b2:=ab b2;replace q0:=ab q0)
 refine bodyPost_ret (results_cell_row rfl _ _ w.heap.size _ _ _ _ rfl ((Below.heap_alloc _ _ _ (af (bQ q0.out))).trans (bQ q0.out)) Tryz.underlying100 rfl bK) rfl ?_
 exact ⟨rfl,(kB (HB.out.trans b2.out) (Nat.le_refl _) _ _).alloc _⟩
theorem BA (k:Int) (w:World) (B:cu w lb l) (hn:n<l.length) (hl:l.length<=1000) (hk:(nth ag l n).kind≠k) :
  Calls Tryz.prog 149 #[.slice (some ⟨lb,0,none⟩) l.length lc,int i64 (n:Int),int i64 k] w fun e w'=>e=aV 6 0 0/\Bl w w':=by
 have x0:=B.c0 hn
 have x1:=B.c1 hn
 have hlt:=af B.blk
 have kv:(0:Int)<=(n:Int):=by omega
 have kg:(n:Int)<(l.length:Int):=by omega
 have HK:=ab hk
 have HB:Hid (Bl w (w.alloc eT)):=(Bl.refl w).alloc _
 generalize nth ag l n=u at *
 clear B hk
 go_enter Tryz.func149,Tryz.ntmps149
 go_wp2_with (go_at_call 144;refine (lU u k _ HK.out).mono ?_;rintro e w2 ⟨rfl,b2⟩;replace b2:=ab b2)
 exact ⟨rfl,rfl,HB.out.trans b2.out⟩
theorem sr (v:Va) (w:World) (B:cu w lb l) (hn:n<l.length) (hl:l.length<=1000) (hk:v.kind≠2) :
  Calls Tryz.prog 84 #[.slice (some ⟨lb,0,none⟩) l.length lc,int i64 (n:Int),cn v] w fun e w'=>e=.returned (.tuple #[])/\cu w' lb (l.set n v)/\w.grownBy w' (some lb):=by
 have x0:=B.c0 hn
 have x1:=B.c1 hn
 have fz:=ay B.blk
 have hlt:=af B.blk
 have kv:(0:Int)<=(n:Int):=by omega
 have kg:(n:Int)<(l.length:Int):=by omega
 have dB:(v.kind==2)=false:=by simpa using hk
 have Vl:decide (v.kind=2)=false:=decide_eq_false hk
 have HB:=ab B
 have hne:lb≠w.heap.size:=by omega
 clear B hk
 go_enter Tryz.func84,Tryz.ntmps84
 go_wp2
 go_end0
 exact ⟨rfl,(HB.out.set hn v).bl ((Bl.refl _).alloc _),fT (fT (cQ lb _ _) (cQ lb _ _)) (World.grownBy_alloc _ _ _)⟩
end
end Go.Proofs.YtgiiapenmjollaaGreat
