import Derived.Test.YtgiiapenmjollaaGreatRraa
import Derived.Maps.OwnSet
import Derived.BigQuiet
import Derived.Laws.StructEq
import Derived.Deep.RegionHeld3
namespace Go.Proofs.YtgiiapenmjollaaGreat
set_option linter.all false
set_option maxHeartbeats 40000000
set_option maxRecDepth 100000
open Go.RowKit
open Tryz
section
open Go.Maps (Keyed has)
structure Mg where
 r:Nat
 hb:Nat
 mp:Nat
 A:Option Addr
 a:Nat
 M:Option Addr
 m:Nat
 I:Option Addr
 i:Nat
structure Qb where
 q:Nat
 bx:Nat
structure Mc where
 q:Nat
 lb:Nat
 lc:Nat
 P:Option Addr
 p:Nat
 C:Option Addr
 c:Nat
 K:Option Addr
 k:Nat
 bx:Nat
def Mc.qb (a:Mc):Qb:=⟨a.q,a.bx⟩
def gP (g:Mg) (h:Hp) (vc vx:Value):Array Value :=
 #[π g.hb 0,.slice g.M h.file.methods.length g.m,.func (.func 31) #[] #[],vc,.slice g.I h.input.length g.i,.int .i64 h.fuel,.int .i64 h.sh.steps,.int .i64 h.sh.used,vx]
def fA (g:Mg) (h:Hp) (vo:Value):Array Value:=#[.slice g.A h.file.classes.length g.a,vo,.map (some g.mp)]
def qg (g:Mg) (a:Mc) (c:aL) (vs:Value):Array Value :=
 #[π g.hb 0,π g.r 0,.slice a.P c.m.params.length a.p,.int .i64 c.m.ret.kind,.int .i64 c.m.ret.cls,.int .i64 c.m.stack,.int .i64 c.m.locs,.int .i64 c.m.regs,.slice a.C c.m.code.length a.c,.slice a.K c.m.hands.length a.k,
  .slice (some ⟨a.lb,0,none⟩) c.locs.length a.lc,.int .i64 c.pc,.int .i64 c.giv.kind,.int .i64 (im c.giv).n,.int .i64 c.cau.kind,.int .i64 (im c.cau).n]
def eN (q:Qb):List Value :=
 [.func (.func 70) #[π q.q 0] #[],.func (.func 69) #[] #[π q.bx 0],.func (.func 71) #[π q.q 0] #[]]
def ct:List Qb->List Value
 | []=>[]
 | q::l=>eN q++ct l
theorem gQ (l:List Qb):(ct l).length=l.length*3:=by
 induction l with
 | nil=>rfl
 | cons x l ih=>simp [ct,eN,ih];omega
theorem gR (l k:List Qb):ct (l++k)=ct l++ct k:=by
 induction l with
 | nil=>rfl
 | cons x l ih=>simp [ct,ih]
def fg (v:Value):Option (DataW Nat×List MemPlace):=match v with
 | .agg cs=>match cs.toList with
  | [.int .i64 k,.int .i64 n]=>some (.agg [.lit (.int .i64 k),.lit (.int .i64 n)],[])
  | _=>none
 | _=>none
def MK (v:Va):DataW Nat:=.agg [.lit (.int .i64 v.kind),.lit (.int .i64 v.n)]
theorem tq (v:Va):fg (cm v)=some (MK v,[]):=rfl
theorem qR {v:Value} {x:Va} {ps:List MemPlace} (h:fg v=some (MK x,ps)):v=cm x:=by
 unfold fg at h
 split at h
 ·rename_i cs
  split at h
  ·rename_i k n hc
   simp only [Option.some.injEq,Prod.mk.injEq,MK,DataW.agg.injEq,List.cons.injEq,DataW.lit.injEq,Lit.int.injEq,true_and,and_true] at h
   obtain ⟨⟨h1,h2⟩,-⟩:=h
   have:cs=#[.int .i64 k,.int .i64 n]:=by
    apply Array.ext'
    exact hc
   rw [this,h1,h2]
  ·cases h
 ·cases h
structure mF (s:Nat) (w:World) (mp:Nat) (h:Hp) (n:Nat) (D:DataW Nat):Prop where
 own:w.ownsMap Tryz.prog 265 fg mp n D
 few:(n:Int)+s<=h.sh.steps
 hit:∀(o:Nat) (c k:Int) (v:Va),o<h.objs.length->cJ c->cJ k->(∃x∈(nth cF h.objs o).held,x.cls=c/\x.fld=k/\x.v=v)->has D (jY (o+1) c k)=true->∀z,D.atKey (jY (o+1) c k) z=MK (im v)
 miss:∀(o:Nat) (c k:Int) (v:Va),o<h.objs.length->cJ c->cJ k->(∃x∈(nth cF h.objs o).held,x.cls=c/\x.fld=k/\x.v=v)->has D (jY (o+1) c k)=false->v=jb (bI h.file.classes c k)
 new:∀(o:Nat) (c k:Int),h.objs.length<=o->o<=100->cJ c->cJ k->has D (jY (o+1) c k)=false
 ks:∀(o:Nat),o<h.objs.length->(nth cF h.objs o).held.map (fun x=>(x.cls,x.fld))=(cZ h.file.classes (nth cF h.objs o).cls.toNat).map (fun x=>(x.cls,x.fld))
 kd:∀(o:Nat),o<h.objs.length->∀x∈(nth cF h.objs o).held,x.v.kind=(bI h.file.classes x.cls x.fld).kind
structure RH (s:Nat) (w0:World) (g:Mg) (w:World) (h:Hp) (qs:List Qb) (vc vo vx:Value):Prop where
 ownr:w0.heap.size<=g.r
 ownh:w0.heap.size<=g.hb
 ownm:w0.heap.size<=g.mp
 bl:Bl w0 w
 run:w.heap[g.r]?=some (.cells (gP g h vc vx) 90 (0,0))
 hp:w.heap[g.hb]?=some (.cells (fA g h vo) 171 (0,0))
 o:w.ownsRow w0.heap.size 2 1 vx h.sh.o.length (h.sh.o.map (Value.int .i64))
 obs:w.ownsRow w0.heap.size 3 1 vo h.objs.length (h.objs.map (fun o=>Value.int .i64 o.cls))
 calls:w.ownsRow w0.heap.size 85 3 vc qs.length (ct qs)
 fld:∃n D,mF s w g.mp h n D
structure CA (w0:World) (g:Mg) (w:World) (a:Mc) (c:aL) (l:List Va) (vs:Value):Prop where
 own:w0.heap.size<=a.q
 ownl:w0.heap.size<=a.lb
 ownb:w0.heap.size<=a.bx
 blk:w.heap[a.q]?=some (.cells (qg g a c vs) 143 (0,0))
 box:w.heap[a.bx]?=some (.cells #[π a.q 0] 139 (0,0))
 loc:w.heap[a.lb]?=some (.cells (bh l).toArray 100 (0,0))
 rel:mM c.locs l
 stk:w.ownsRow w0.heap.size 100 2 vs 0 []
 apart:vs.ownBlock≠some a.lb
 me:ku w0 c.m a.P a.C a.K
 short:c.locs.length<=1000
 kinds:(0<=c.giv.kind/\c.giv.kind<=3)/\(0<=c.cau.kind/\c.cau.kind<=3)
structure lj (g:Mg) (vc vo vx:Value) (b:Nat):Prop where
 r:b≠g.r
 h:b≠g.hb
 m:b≠g.mp
 c:vc.ownBlock≠some b
 o:vo.ownBlock≠some b
 x:vx.ownBlock≠some b
structure mq (a:Mc) (vs:Value) (b:Nat):Prop where
 q:b≠a.q
 l:b≠a.lb
 s:vs.ownBlock≠some b
 x:b≠a.bx
structure je (X:Nat->Prop) (wx w:World):Prop where
 size:wx.heap.size<=w.heap.size
 blk:∀b,X b->b<wx.heap.size/\w.heap[b]?=wx.heap[b]?
def HX (s:Nat) (X:Nat->Prop) (wx w0:World) (g:Mg) (w:World) (h:Hp) (qs:List Qb):Prop :=
 ∃vc vo vx,RH s w0 g w h qs vc vo vx/\(∀b,X b->lj g vc vo vx b)/\je X wx w
structure oI (s:Nat) (X:Nat->Prop) (wx w0:World) (g:Mg) (w:World) (h:Hp) (qs:List Qb) (a:Mc) (c:aL) (vc vo vx vs:Value) (l:List Va):Prop where
 rh:RH s w0 g w h qs vc vo vx
 ca:CA w0 g w a c l vs
 farr:∀b,X b->lj g vc vo vx b
 farc:∀b,X b->mq a vs b
 kept:je X wx w
def RX (s:Nat) (X:Nat->Prop) (wx w0:World) (g:Mg) (w:World) (h:Hp) (qs:List Qb) (a:Mc) (c:aL):Prop :=
 ∃vc vo vx vs l,oI s X wx w0 g w h qs a c vc vo vx vs l
section
variable {w:World}
theorem cC {b b':Nat} {cs cs':Array Value} {t t':TypeId} {f f':Nat×Nat} (h:w.heap[b]?=some (.cells cs t f)) (h':w.heap[b']?=some (.cells cs' t' f')) (ht:t≠t'):b≠b':=by
 rintro rfl
 rw [h] at h'
 simp at h'
 exact ht h'.2.1
theorem vh {base mC:Nat} {e e':TypeId} {size Bd n n':Nat} {v v':Value} {xs Sb:List Value} (h:w.ownsRow base e size v n xs) (h':w.ownsRow mC e' Bd v' n' Sb) (ht:e≠e'):v.ownBlock=none∨v.ownBlock≠v'.ownBlock:=by
 rcases h.2 with ⟨rfl,-⟩|⟨gb,cap,cur,rfl,h2,h3,h4⟩
 ·exact Or.inl rfl
 ·right
  intro hc
  have:=bg h' h3 ht
  exact this hc.symm
theorem iE {b mp n:Nat} {D:DataW Nat} {cs:Array Value} {t:TypeId} {f:Nat×Nat} (h:w.heap[b]?=some (.cells cs t f)) (hm:w.ownsMap Tryz.prog 265 fg mp n D):b≠mp:=by
 obtain ⟨es,ck,hb,-⟩:=hm
 rintro rfl
 rw [h] at hb
 simp at hb
theorem l4 {base:Nat} {e:TypeId} {size k:Nat} {v:Value} {xs:List Value} (h:w.ownsRow base e size v k xs) {mp n:Nat} {D:DataW Nat} (hm:w.ownsMap Tryz.prog 265 fg mp n D):v.ownBlock≠some mp:=by
 obtain ⟨es,ck,hb,-⟩:=hm
 intro hc
 rcases h.2 with ⟨rfl,-⟩|⟨gb,cap,cur,rfl,h2,h3,h4⟩
 ·simp [Value.ownBlock] at hc
 ·simp [Value.ownBlock] at hc
  subst hc
  rw [h3] at hb
  simp at hb
theorem df {w':World} (h:Bl w w') (row:Option Nat):w.grownBy w' row:=⟨h.os,h.tape,h.output,h.size,fun i hi _=>h.block i hi⟩
theorem aV {w':World} {row:Option Nat} (hg:w.grownBy w' row) {b:Nat} {o:Obj} (h:w.heap[b]?=some o) (hr:row≠some b):w'.heap[b]?=some o:=by
 rw [hg.block b (af h) (fun e=>hr e.symm)];exact h
end
theorem RH.kept {s:Nat} {w0 w w':World} {g:Mg} {h:Hp} {qs:List Qb} {vc vo vx:Value} (H:RH s w0 g w h qs vc vo vx) {row:Option Nat} (hg:w.grownBy w' row)
  (far:∀b,row=some b->w0.heap.size<=b/\lj g vc vo vx b):RH s w0 g w' h qs vc vo vx:=by
 have hne:∀v:Value,(∀b,row=some b->v.ownBlock≠some b)->(v.ownBlock=none∨v.ownBlock≠row):=by
  intro v hv
  cases hr:row with
  | none=>cases FK:v.ownBlock<;>simp
  | some b=>right;exact hv b hr
 refine ⟨H.ownr,H.ownh,H.ownm,Below.grown H.bl hg H.bl.size (fun k hk=>(far k hk).1),aV hg H.run (fun e=>(far _ e).2.r rfl),aV hg H.hp (fun e=>(far _ e).2.h rfl),
  H.o.kept hg (hne vx fun b e=>(far b e).2.x),H.obs.kept hg (hne vo fun b e=>(far b e).2.o),H.calls.kept hg (hne vc fun b e=>(far b e).2.c),?_⟩
 obtain ⟨n,D,F⟩:=H.fld
 exact ⟨n,D,F.own.kept hg (fun e=>(far _ e.symm).2.m rfl),F.few,F.hit,F.miss,F.new,F.ks,F.kd⟩
theorem CA.kept {w0 w w':World} {g:Mg} {a:Mc} {c:aL} {l:List Va} {vs:Value} (H:CA w0 g w a c l vs) {row:Option Nat} (hg:w.grownBy w' row)
  (far:∀b,row=some b->mq a vs b):CA w0 g w' a c l vs:=by
 refine ⟨H.own,H.ownl,H.ownb,aV hg H.blk (fun e=>(far _ e).q rfl),aV hg H.box (fun e=>(far _ e).x rfl),aV hg H.loc (fun e=>(far _ e).l rfl),H.rel,H.stk.kept hg ?_,H.apart,H.me,H.short,H.kinds⟩
 cases hr:row with
 | none=>cases FK:vs.ownBlock<;>simp
 | some b=>right;exact (far b hr).s
theorem je.kept {X:Nat->Prop} {wx w w':World} (H:je X wx w) {row:Option Nat} (hg:w.grownBy w' row) (far:∀b,row=some b->¬X b):je X wx w' :=
 ⟨Nat.le_trans H.size hg.size,fun b hb=>⟨(H.blk b hb).1,by
  rw [hg.block b (Nat.lt_of_lt_of_le (H.blk b hb).1 H.size) (fun e=>far b e.symm hb)];exact (H.blk b hb).2⟩⟩
section
variable {s:Nat} {w0 w:World} {g:Mg} {h:Hp}
theorem RH.far {qs:List Qb} {vc vo vx:Value} (H:RH s w0 g w h qs vc vo vx) {b:Nat} {cs:Array Value} {t:TypeId} {f:Nat×Nat} (hb:w.heap[b]?=some (.cells cs t f)) (h1:t≠90) (h2:t≠171) (h3:t≠85) (h4:t≠3) (h5:t≠2):lj g vc vo vx b:=by
 obtain ⟨n,D,F⟩:=H.fld
 exact ⟨cC hb H.run h1,cC hb H.hp h2,iE hb F.own,bg H.calls hb h3,bg H.obs hb h4,bg H.o hb h5⟩
theorem CA.far {qs:List Qb} {vc vo vx:Value} (H:RH s w0 g w h qs vc vo vx) {a:Mc} {c:aL} {l:List Va} {vs:Value} (K:CA w0 g w a c l vs) :
  lj g vc vo vx a.q/\lj g vc vo vx a.lb/\(∀b,vs.ownBlock=some b->lj g vc vo vx b)/\lj g vc vo vx a.bx:=by
 refine ⟨H.far K.blk (by decide) (by decide) (by decide) (by decide) (by decide),H.far K.loc (by decide) (by decide) (by decide) (by decide) (by decide),fun b hb=>?_,H.far K.box (by decide) (by decide) (by decide) (by decide) (by decide)⟩
 rcases K.stk.2 with ⟨rfl,-⟩|⟨gb,cap,cur,rfl,h2,h3,h4⟩
 ·simp [Value.ownBlock] at hb
 ·simp [Value.ownBlock] at hb
  subst hb
  exact H.far h3 (by decide) (by decide) (by decide) (by decide) (by decide)
theorem CA.farC {qs:List Qb} {vc vo vx:Value} (H:RH s w0 g w h qs vc vo vx) {a:Mc} {c:aL} {l:List Va} {vs:Value} (K:CA w0 g w a c l vs) :
  mq a vs g.r/\mq a vs g.hb/\mq a vs g.mp/\(∀b,vc.ownBlock=some b->mq a vs b)/\(∀b,vo.ownBlock=some b->mq a vs b)/\(∀b,vx.ownBlock=some b->mq a vs b):=by
 obtain ⟨f1,f2,f3,f4⟩:=K.far H
 refine ⟨⟨Ne.symm f1.r,Ne.symm f2.r,fun e=>(f3 _ e).r rfl,Ne.symm f4.r⟩,⟨Ne.symm f1.h,Ne.symm f2.h,fun e=>(f3 _ e).h rfl,Ne.symm f4.h⟩,⟨Ne.symm f1.m,Ne.symm f2.m,fun e=>(f3 _ e).m rfl,Ne.symm f4.m⟩,?_,?_,?_⟩
 ·exact fun b e=>⟨fun q=>f1.c (q▸e),fun q=>f2.c (q▸e),fun q=>(f3 _ q).c e,fun q=>f4.c (q▸e)⟩
 ·exact fun b e=>⟨fun q=>f1.o (q▸e),fun q=>f2.o (q▸e),fun q=>(f3 _ q).o e,fun q=>f4.o (q▸e)⟩
 ·exact fun b e=>⟨fun q=>f1.x (q▸e),fun q=>f2.x (q▸e),fun q=>(f3 _ q).x e,fun q=>f4.x (q▸e)⟩
end
section
variable {s:Nat} {X:Nat->Prop} {wx w0 w w':World} {g:Mg} {h:Hp}
theorem oI.bl {qs:List Qb} {a:Mc} {c:aL} {vc vo vx vs:Value} {l:List Va} (H:oI s X wx w0 g w h qs a c vc vo vx vs l) (hb:Bl w w'):oI s X wx w0 g w' h qs a c vc vo vx vs l :=
 ⟨H.rh.kept (df hb none) (fun b e=>by cases e),H.ca.kept (df hb none) (fun b e=>by cases e),H.farr,H.farc,H.kept.kept (df hb none) (fun b e=>by cases e)⟩
theorem RX.bl {qs:List Qb} {a:Mc} {c:aL} (H:RX s X wx w0 g w h qs a c) (hb:Bl w w'):RX s X wx w0 g w' h qs a c:=by
 obtain ⟨vc,vo,vx,vs,l,H⟩:=H
 exact ⟨vc,vo,vx,vs,l,H.bl hb⟩
theorem HX.bl {qs:List Qb} (H:HX s X wx w0 g w h qs) (hb:Bl w w'):HX s X wx w0 g w' h qs:=by
 obtain ⟨vc,vo,vx,H,f,k⟩:=H
 exact ⟨vc,vo,vx,H.kept (df hb none) (fun b e=>by cases e),f,k.kept (df hb none) (fun b e=>by cases e)⟩
end
structure Kp (n:Nat) (w w':World):Prop where
 size:w.heap.size<=w'.heap.size
 blk:∀b,n<=b->b<w.heap.size->w'.heap[b]?=w.heap[b]?
def Xp (X:Nat->Prop) (n m:Nat):Nat->Prop:=fun b=>X b∨(n<=b/\b<m)
theorem mO {w:World} {base:Nat} {e:TypeId} {size n:Nat} {v:Value} {xs:List Value} (h:w.ownsRow base e size v n xs) {b:Nat} (hb:v.ownBlock=some b):b<w.heap.size:=by
 rcases h.2 with ⟨rfl,-⟩|⟨gb,cap,cur,rfl,h2,h3,h4⟩
 ·simp [Value.ownBlock] at hb
 ·simp [Value.ownBlock] at hb;subst hb;exact af h3
theorem RH.farNew {s:Nat} {w0 w:World} {g:Mg} {h:Hp} {qs:List Qb} {vc vo vx:Value} (H:RH s w0 g w h qs vc vo vx) {b:Nat} (hb:w.heap.size<=b):lj g vc vo vx b:=by
 obtain ⟨n,D,F⟩:=H.fld
 have h1:=af H.run
 have h2:=af H.hp
 have h3:=F.own.lt
 exact ⟨by omega,by omega,by omega,fun e=>by have:=mO H.calls e;omega,fun e=>by have:=mO H.obs e;omega,fun e=>by have:=mO H.o e;omega⟩
theorem CA.farNew {w0 w:World} {g:Mg} {a:Mc} {c:aL} {l:List Va} {vs:Value} (K:CA w0 g w a c l vs) {b:Nat} (hb:w.heap.size<=b):mq a vs b:=by
 have h1:=af K.blk
 have h2:=af K.loc
 have h3:=af K.box
 exact ⟨by omega,by omega,fun e=>by have:=mO K.stk e;omega,by omega⟩
theorem RX.wide {s:Nat} {X:Nat->Prop} {wx w0 w w':World} {g:Mg} {h:Hp} {qs:List Qb} {a:Mc} {c:aL} (H:RX s X wx w0 g w h qs a c) (hb:Bl w w'):RX s (Xp X w.heap.size w'.heap.size) w' w0 g w' h qs a c:=by
 obtain ⟨vc,vo,vx,vs,l,H⟩:=H
 have H':=H.bl hb
 refine ⟨vc,vo,vx,vs,l,H'.rh,H'.ca,?_,?_,⟨Nat.le_refl _,fun b hx=>⟨?_,rfl⟩⟩⟩
 ·rintro b (hx|hx)
  ·exact H.farr b hx
  ·exact H.rh.farNew hx.1
 ·rintro b (hx|hx)
  ·exact H.farc b hx
  ·exact H.ca.farNew hx.1
 ·rcases hx with hx|hx
  ·have:=(H'.kept.blk b hx).1;have:=H'.kept.size;omega
  ·exact hx.2
theorem RX.back {s s':Nat} {X:Nat->Prop} {wx w0 w w' w2:World} {g:Mg} {h h':Hp} {qs wB:List Qb} {a a':Mc} {c c':aL} (H:RX s X wx w0 g w h qs a c) (hb:Bl w w') (H2:RX s' (Xp X w.heap.size w'.heap.size) w' w0 g w2 h' wB a' c') :
  RX s' X wx w0 g w2 h' wB a' c'/\Kp w.heap.size w' w2:=by
 obtain ⟨vc,vo,vx,vs,l,H⟩:=H
 obtain ⟨sS,wW,wX,JF,l',H2⟩:=H2
 have H':=H.bl hb
 refine ⟨⟨sS,wW,wX,JF,l',H2.rh,H2.ca,fun b hx=>H2.farr b (Or.inl hx),fun b hx=>H2.farc b (Or.inl hx),Nat.le_trans H'.kept.size H2.kept.size,fun b hx=>⟨(H.kept.blk b hx).1,?_⟩⟩,H2.kept.size,fun b h1 h2=>(H2.kept.blk b (Or.inr ⟨h1,h2⟩)).2⟩
 rw [(H2.kept.blk b (Or.inl hx)).2]
 exact (H'.kept.blk b hx).2
theorem RX.use {s:Nat} {X:Nat->Prop} {wx w0 w w':World} {g:Mg} {h:Hp} {qs:List Qb} {a:Mc} {c:aL} (H:RX s X wx w0 g w h qs a c) (hb:Bl w w') {f:FuncId} {args:Array Value} {Q:Ending->Prop} {s':Nat} {h':Hp} {wB:List Qb} {P:aL->Prop}
  (hc:∀X wx w,RX s X wx w0 g w h qs a c->χ f args w fun e w2=>Q e/\∃c',P c'/\RX s' X wx w0 g w2 h' wB a c') :
  χ f args w' fun e w2=>Q e/\(∃c',P c'/\RX s' X wx w0 g w2 h' wB a c')/\Kp w.heap.size w' w2:=by
 refine (hc _ _ _ (H.wide hb)).mono ?_
 rintro e w2 ⟨he,c',hp,H2⟩
 obtain ⟨h3,h4⟩:=H.back hb H2
 exact ⟨he,⟨c',hp,h3⟩,h4⟩
end
structure tr (g:Mg) (w:World) (a:Mc) (c:aL) (vs:Value):Prop where
 c0:w.cell? ⟨a.q,0,none⟩=some (π g.hb 0)
 c1:w.cell? ⟨a.q,1,none⟩=some (π g.r 0)
 c2:w.cell? ⟨a.q,2,none⟩=some (.slice a.P c.m.params.length a.p)
 c3:w.cell? ⟨a.q,3,none⟩=some (ι c.m.ret.kind)
 c4:w.cell? ⟨a.q,4,none⟩=some (ι c.m.ret.cls)
 c5:w.cell? ⟨a.q,5,none⟩=some (ι c.m.stack)
 c6:w.cell? ⟨a.q,6,none⟩=some (ι c.m.locs)
 c7:w.cell? ⟨a.q,7,none⟩=some (ι c.m.regs)
 c8:w.cell? ⟨a.q,8,none⟩=some (.slice a.C c.m.code.length a.c)
 c9:w.cell? ⟨a.q,9,none⟩=some (.slice a.K c.m.hands.length a.k)
 c10:w.cell? ⟨a.q,10,none⟩=some (.slice (some ⟨a.lb,0,none⟩) c.locs.length a.lc)
 c11:w.cell? ⟨a.q,11,none⟩=some (ι c.pc)
 c12:w.cell? ⟨a.q,12,none⟩=some (ι c.giv.kind)
 c13:w.cell? ⟨a.q,13,none⟩=some (ι (im c.giv).n)
 c14:w.cell? ⟨a.q,14,none⟩=some (ι c.cau.kind)
 c15:w.cell? ⟨a.q,15,none⟩=some (ι (im c.cau).n)
section
variable {w0 w:World} {g:Mg} {a:Mc} {c:aL} {l:List Va} {vs:Value}
theorem CA.cells (H:CA w0 g w a c l vs):tr g w a c vs:=by
 constructor<;>(rw [ab H.blk];rfl)
theorem CA.free (H:CA w0 g w a c l vs) (i:Nat):w.frozen? ⟨a.q,i,none⟩=false:=aA H.blk i
end
theorem oI.setQ {s:Nat} {X:Nat->Prop} {wx w0 w w':World} {g:Mg} {h:Hp} {qs:List Qb} {a:Mc} {c c':aL} {vc vo vx vs:Value} {l:List Va} (H:oI s X wx w0 g w h qs a c vc vo vx vs l)
  (hg:w.grownBy w' (some a.q)) (hblk:w'.heap[a.q]?=some (.cells (qg g a c' vs) 143 (0,0))) (hl:c'.locs=c.locs) (hm:c'.m=c.m)
  (hkd:(0<=c'.giv.kind/\c'.giv.kind<=3)/\(0<=c'.cau.kind/\c'.cau.kind<=3)):oI s X wx w0 g w' h qs a c' vc vo vx vs l:=by
 have hf:=(H.ca.far H.rh).1
 have dI:a.q≠a.lb:=cC H.ca.blk H.ca.loc (by decide)
 have VQ:a.q≠a.bx:=cC H.ca.blk H.ca.box (by decide)
 refine ⟨H.rh.kept hg (fun b e=>?_),⟨H.ca.own,H.ca.ownl,H.ca.ownb,hblk,?_,?_,by rw [hl];exact H.ca.rel,H.ca.stk.kept hg ?_,H.ca.apart,by rw [hm];exact H.ca.me,by rw [hl];exact H.ca.short,hkd⟩,H.farr,H.farc,H.kept.kept hg (fun b e hx=>?_)⟩
 ·cases e;exact ⟨H.ca.own,hf⟩
 ·exact aV hg H.ca.box (fun e=>VQ (Option.some.inj e))
 ·exact aV hg H.ca.loc (fun e=>dI (Option.some.inj e))
 ·right;exact bg H.ca.stk H.ca.blk (by decide)
 ·cases e;exact (H.farc a.q hx).q rfl
structure qh (w:World) (g:Mg) (h:Hp):Prop where
 A:w.cell? ⟨g.hb,0,none⟩=some (.slice g.A h.file.classes.length g.a)
 O:h.objs.length=0∨∃gb cap,w.cell? ⟨g.hb,1,none⟩=some (.slice (some ⟨gb,0,none⟩) h.objs.length cap)/\∀i,i<h.objs.length->w.cell? ⟨gb,i,none⟩=some (ι (nth cF h.objs i).cls)
 cls:bK w g.A h.file.classes
 may:dt h.file.classes=true
 few:h.objs.length<=100
theorem qh.bl {w w':World} {g:Mg} {h:Hp} (H:qh w g h) (hb:Bl w w'):qh w' g h:=by
 refine ⟨hb.cell H.A,?_,H.cls.bl hb,H.may,H.few⟩
 rcases H.O with h0|⟨gb,cap,h1,h2⟩
 ·exact Or.inl h0
 ·exact Or.inr ⟨gb,cap,hb.cell h1,fun i hi=>hb.cell (h2 i hi)⟩
structure Fix (w0:World) (g:Mg) (h:Hp):Prop where
 cls:bK w0 g.A h.file.classes
 mes:cz w0 g.M h.file.methods
 inp:aU w0 g.I h.input
 may:dt h.file.classes=true
theorem RH.rd {s:Nat} {w0 w:World} {g:Mg} {h:Hp} {qs:List Qb} {vc vo vx:Value} (H:RH s w0 g w h qs vc vo vx) (F:Fix w0 g h) (hf:h.objs.length<=100):qh w g h:=by
 refine ⟨by rw [ab H.hp];rfl,?_,F.cls.bl H.bl,F.may,hf⟩
 rcases H.obs.2 with ⟨h1,h0⟩|⟨gb,cap,cur,rfl,h2,h3,h4,h5,h6,h7⟩
 ·exact Or.inl h0
 ·refine Or.inr ⟨gb,cap,by rw [ab H.hp];rfl,fun i hi=>?_⟩
  have e:(h.objs.map (fun o=>Value.int .i64 o.cls))[i]?=some (ι (nth cF h.objs i).cls):=by
   rw [List.getElem?_map,List.getElem?_eq_getElem hi,cg hi];rfl
  rw [<-h7,List.getElem?_take,if_pos (by omega)] at e
  rw [ab h3]
  simpa using e
theorem RX.rd {s:Nat} {X:Nat->Prop} {wx w0 w:World} {g:Mg} {h:Hp} {qs:List Qb} {a:Mc} {c:aL} (H:RX s X wx w0 g w h qs a c) (F:Fix w0 g h) (hf:h.objs.length<=100):qh w g h:=by
 obtain ⟨vc,vo,vx,vs,l,H⟩:=H
 exact H.rh.rd F hf
theorem pC (w:World):χ 145 #[] w fun e w'=>e=.returned (cm ⟨3,0⟩)/\Bl w w':=by
 go_enter func145,ntmps145
 go_wp2
 refine bodyPost_ret (results_cell_row rfl _ _ w.heap.size _ _ _ _ rfl (aB _ _ _) underlying100 rfl au) rfl ?_
 exact ⟨rfl,(Bl.refl w).alloc _⟩
def wY (u:Va):Bool:=decide (u.kind=3)&&decide (u.n=0)
theorem CQ:Tryz.prog.underlying 100=some (.struct (Tryz.prog.fieldsOf 100)):=by kernel_rfl
theorem Km:Tryz.prog.stoodInHeld 100=false:=by kernel_rfl
theorem NH (a b c d:Int) (w:World):(binOp .eql 100 (.agg #[ι a,ι b]) (.agg #[ι c,ι d])).run Tryz.prog w=.ok (.bool (decide (a=c)&&decide (b=d))) w:=by
 rw [run_eql_struct,run_equalIn_agg w 9999 _ _ _ CQ Km]
 simp [go_sem,underlying100,underlying3,underlying2]
 by_cases h1:a=c<;>by_cases h2:b=d<;>simp [h1,h2]
theorem cB (u:Va) (w:World):χ 90 #[cm u] w fun e w'=>e=.returned (.bool (wY u))/\Bl w w':=by
 have HB:Θ (Bl w (w.alloc (.cells #[ι u.kind,ι u.n] 100))):=(Bl.refl w).alloc _
 have hq:=fun w=>NH u.kind u.n 3 0 w
 go_enter func90,ntmps90
 go_wp2
 have x0:∀x:pA (w.alloc (.cells #[ι u.kind,ι u.n] 100)),x.to.cell? ⟨w.heap.size,0,none⟩=some (ι u.kind):=aj (ai rfl)
 have x1:∀x:pA (w.alloc (.cells #[ι u.kind,ι u.n] 100)),x.to.cell? ⟨w.heap.size,1,none⟩=some (ι u.n):=aj (ai rfl)
 refine az (by kernel_rfl) (by kernel_rfl) fun hne=>?_
 repeat (go_big_quiet_step ((go_at_call 145;exact Calls.fut_eq _ (pC _) rfl)))
 refine wpQuiet_nil ?_
 rintro _ ⟨⟨w2,bX⟩,rfl⟩
 clear x0 x1 hne
 go_wp2
 go_ret
 exact ⟨rfl,HB.o.trans bX⟩
theorem pD (g:Mg) (h:Hp) (n:Nat) (w:World) (R:qh w g h) (hn:n<h.objs.length) :
  χ 103 #[π g.hb 0,cm ⟨3,(n:Int)+1⟩] w fun e w'=>e=.returned (ι (nth cF h.objs n).cls)/\Bl w w':=by
 rcases R.O with h0|⟨gb,cap,h1,h2⟩
 ·omega
 have h3:=h2 n hn
 have hf:=R.few
 have hq:=br h1
 have Tr:=br h3
 have hw:IntKind.i64.wrap (n:Int)=(n:Int):=by rw [IntKind.wrap_i64];omega
 have hs:((n:Int)+1-1)=(n:Int):=by omega
 have iw:(0:Int)<=(n:Int):=by omega
 have fT:(n:Int)<(h.objs.length:Int):=by omega
 clear R h2
 go_enter func103,ntmps103
 go_wp2
 go_quiet (fail)
 go_wp2
 go_ret
 exact ⟨rfl,by repeat (first|exact Bl.refl _|apply Bl.drew|apply aR|apply Bl.alloc)⟩
theorem l5 {v:Va} (hk:v.kind=3) (hv:v.n=-1):wY (im v)=true:=by rw [gp hk,hv];rfl
theorem lH {v:Va} (hk:v.kind=3) (hv:0<=v.n):wY (im v)=false:=by
 rw [gp hk]
 have:¬v.n+1=0:=by omega
 simp [wY,this]
theorem NI {l:List Cl} (h:dt l=true) (x y:Int):Fb l x y=fu l x y:=by unfold Fb fu;rw [h,Bool.true_and]
theorem jf (g:Mg) (h:Hp) (v:Va) (c:Int) (w:World) (R:qh w g h) (hk:v.kind=3) (hv:0<=v.n) (hn:v.n<h.objs.length) :
  χ 154 #[π g.hb 0,cm (im v),ι c] w fun e w'=>e=.returned (.bool (fu h.file.classes (h.obj v.n).cls c))/\Bl w w':=by
 have HN:Θ (wY (im v)=false):=lH hk hv
 obtain ⟨n,ig⟩:∃n:Nat,v.n=n:=⟨v.n.toNat,by omega⟩
 have pE:n<h.objs.length:=by omega
 have ho:h.obj v.n=nth cF h.objs n:=by unfold Hp.obj;rw [ig,Int.toNat_natCast]
 have e:im v=⟨3,(n:Int)+1⟩:=by rw [gp hk,ig]
 rw [ho]
 rw [e] at HN ⊢
 generalize hU:(n:Int)+1=u at HN
 have HB:Θ (Bl w (w.alloc (.cells #[ι 3,ι u] 100))):=(Bl.refl w).alloc _
 have HR:Θ (qh (w.alloc (.cells #[ι 3,ι u] 100)) g h):=R.bl HB.o
 have x2:∀x:pA (w.alloc (.cells #[ι 3,ι u] 100)),x.to.cell? ⟨g.hb,0,none⟩=some (.slice g.A h.file.classes.length g.a):=aj HR.o.A
 have HU:Θ ((n:Int)+1=u):=hU
 obtain ⟨O,hO⟩:∃O,(nth cF h.objs n).cls=O:=⟨_,rfl⟩
 have HO:Θ ((nth cF h.objs n).cls=O):=hO
 rw [hO]
 have HV:Θ (Fb h.file.classes O c=fu h.file.classes O c):=NI R.may O c
 obtain ⟨z,hz⟩:∃z,fu h.file.classes O c=z:=⟨_,rfl⟩
 rw [hz] at HV ⊢
 clear R hk hv hn ig ho e hU hO hz
 go_enter func154,ntmps154
 go_wp2
 have x0:∀x:pA (w.alloc (.cells #[ι 3,ι u] 100)),x.to.cell? ⟨w.heap.size,0,none⟩=some (ι 3):=aj (ai rfl)
 have x1:∀x:pA (w.alloc (.cells #[ι 3,ι u] 100)),x.to.cell? ⟨w.heap.size,1,none⟩=some (ι u):=aj (ai rfl)
 refine az (by kernel_rfl) (by kernel_rfl) fun hne=>?_
 repeat (go_big_quiet_step ((first
  | (go_at_call 90;exact Calls.fut_eq _ (cB ⟨3,u⟩ _) (congrArg Value.bool HN.o))
  | (go_at_call 103;rename_i xx;have hcc:=pD g h n xx.to (HR.o.bl xx.is) pE;rw [HU.o,HO.o] at hcc;exact Calls.fut_eq _ hcc rfl)
  | (go_at_call 198;rename_i xx;exact Calls.fut_eq _ (yQ _ _ _ _ _ _ (HR.o.cls.bl xx.is)) (congrArg Value.bool HV.o)))))
 refine wpQuiet_nil ?_
 rintro _ ⟨⟨w2,bX⟩,rfl⟩
 clear x0 x1 x2 hne
 go_wp2
 go_ret
 exact ⟨rfl,HB.o.trans bX⟩
theorem CR (g:Mg) (h:Hp) (v:Va) (c:Int) (w:World) (hk:v.kind=3) (hv:v.n=-1) :
  χ 154 #[π g.hb 0,cm (im v),ι c] w fun e w'=>e=.returned (.bool false)/\Bl w w':=by
 have HN:Θ (wY (im v)=true):=l5 hk hv
 have e:im v=⟨3,0⟩:=by rw [gp hk,hv];rfl
 rw [e] at HN ⊢
 have HB:Θ (Bl w (w.alloc (.cells #[ι 3,ι 0] 100))):=(Bl.refl w).alloc _
 clear hk hv e
 go_enter func154,ntmps154
 go_wp2
 have x0:∀x:pA (w.alloc (.cells #[ι 3,ι 0] 100)),x.to.cell? ⟨w.heap.size,0,none⟩=some (ι 3):=aj (ai rfl)
 have x1:∀x:pA (w.alloc (.cells #[ι 3,ι 0] 100)),x.to.cell? ⟨w.heap.size,1,none⟩=some (ι 0):=aj (ai rfl)
 refine az (by kernel_rfl) (by kernel_rfl) fun hne=>?_
 repeat (go_big_quiet_step ((go_at_call 90;exact Calls.fut_eq _ (cB ⟨3,0⟩ _) (congrArg Value.bool HN.o))))
 refine wpQuiet_nil ?_
 rintro _ ⟨⟨w2,bX⟩,rfl⟩
 clear x0 x1 hne
 go_wp2
 go_ret
 exact ⟨rfl,HB.o.trans bX⟩
theorem qT (g:Mg) (h:Hp) (v:Va) (c:Int) (w:World) (R:qh w g h) (hk:v.kind=3) (hv:-1<=v.n) (hn:v.n<h.objs.length) :
  χ 154 #[π g.hb 0,cm (im v),ι c] w fun e w'=>e=.returned (.bool (decide (0<=v.n)&&fu h.file.classes (h.obj v.n).cls c))/\Bl w w':=by
 by_cases h0:0<=v.n
 ·rw [decide_eq_true h0,Bool.true_and]
  exact jf g h v c w R hk h0 hn
 ·rw [decide_eq_false h0,Bool.false_and]
  exact CR g h v c w hk (by omega)
section
variable (g:Mg) (h:Hp) (v:Va) (t:Ty) (w:World)
theorem FL (R:qh w g h) (hk:v.kind=t.kind) (h3:t.kind≠3) :
  χ 191 #[π g.hb 0,cm (im v),iC t] w fun e w'=>e=.returned (cm (im v))/\Bl w w':=by
 obtain ⟨L0,L1,L2⟩:=dB w #[ι (im v).kind,ι (im v).n] #[ι t.kind,ι t.cls] #[ι 0,ι 0] 100 45 100
 have HB:Θ (Bl w (((w.alloc (eS (im v))).alloc (iv t)).alloc fa)):=(((Bl.refl w).alloc _).alloc _).alloc _
 have HR:Θ (qh w g h):=R
 obtain ⟨W,hW⟩:∃W,W=(((w.alloc (eS (im v))).alloc (iv t)).alloc fa):=⟨_,rfl⟩
 rw [<-hW] at HB L0 L1 L2
 have HW:Θ (W=(((w.alloc (eS (im v))).alloc (iv t)).alloc fa)):=hW
 have dK:Θ (W.heap[w.heap.size]?=some (.cells #[ι (im v).kind,ι (im v).n] 100 (0,0))):=L0
 have ey:Θ (W.heap[w.heap.size+1]?=some (.cells #[ι t.kind,ι t.cls] 45 (0,0))):=L1
 have wZ:Θ (W.heap[w.heap.size+1+1]?=some (.cells #[ι 0,ι 0] 100 (0,0))):=L2
 clear R L0 L1 L2 hW
 have Hk:Θ ((im v).kind=t.kind):=hk
 have hd:decide (t.kind=3)=false:=decide_eq_false h3
 have hb:(t.kind==3)=false:=by simpa using h3
 clear hk h3
 go_enter func191,ntmps191
 go_wp2_with (go_at_call 144;rw [<-HW.o];refine (dZ (im v) t.kind _ Hk.o).mono ?_;rintro e w1 ⟨rfl,b1⟩;have q0:=ax b1 dK.o;have q1:=ax b1 ey.o;have q2:=ax b1 wZ.o;have c0:=aO q0;have c1:=aJ q0;have c2:=aO q1;have c3:=aJ q1;have c4:=aO q2;have c5:=aJ q2;have fz:=aA q2;replace q0:=ae q0;replace q1:=ae q1;replace q2:=ae q2;replace b1:=ae b1)
 refine bodyPost_ret (results_cell_row rfl _ _ (w.heap.size+1+1) _ _ _ _ rfl (ba q2.o) underlying100 rfl au) rfl ?_
 exact ⟨rfl,cT (HB.o.trans b1.o) (by omega) _ _⟩
theorem FM (R:qh w g h) (hk:v.kind=3) (h3:t.kind=3) (hv:v.n=-1) :
  χ 191 #[π g.hb 0,cm (im v),iC t] w fun e w'=>e=.returned (cm (im v))/\Bl w w':=by
 obtain ⟨L0,L1,L2⟩:=dB w #[ι (im v).kind,ι (im v).n] #[ι t.kind,ι t.cls] #[ι 0,ι 0] 100 45 100
 have HB:Θ (Bl w (((w.alloc (eS (im v))).alloc (iv t)).alloc fa)):=(((Bl.refl w).alloc _).alloc _).alloc _
 have HR:Θ (qh w g h):=R
 obtain ⟨W,hW⟩:∃W,W=(((w.alloc (eS (im v))).alloc (iv t)).alloc fa):=⟨_,rfl⟩
 rw [<-hW] at HB L0 L1 L2
 have HW:Θ (W=(((w.alloc (eS (im v))).alloc (iv t)).alloc fa)):=hW
 have dK:Θ (W.heap[w.heap.size]?=some (.cells #[ι (im v).kind,ι (im v).n] 100 (0,0))):=L0
 have ey:Θ (W.heap[w.heap.size+1]?=some (.cells #[ι t.kind,ι t.cls] 45 (0,0))):=L1
 have wZ:Θ (W.heap[w.heap.size+1+1]?=some (.cells #[ι 0,ι 0] 100 (0,0))):=L2
 clear R L0 L1 L2 hW
 have Hk:Θ ((im v).kind=t.kind):=by rw [h3];exact hk
 have HN:Θ (wY (im v)=true):=l5 hk hv
 have hd:decide (t.kind=3)=true:=decide_eq_true h3
 have hb:(t.kind==3)=true:=by simpa using h3
 clear hk h3
 go_enter func191,ntmps191
 go_wp2_with (first|(go_at_call 144;rw [<-HW.o];refine (dZ (im v) t.kind _ Hk.o).mono ?_;rintro e w1 ⟨rfl,b1⟩;have q0:=ax b1 dK.o;have q1:=ax b1 ey.o;have q2:=ax b1 wZ.o;have c0:=aO q0;have c1:=aJ q0;have c2:=aO q1;have c3:=aJ q1;have c4:=aO q2;have c5:=aJ q2;have fz:=aA q2;replace q0:=ae q0;replace q1:=ae q1;replace q2:=ae q2;replace b1:=ae b1)|(go_at_call 90;refine (cB (im v) _).mono ?_;rintro e w2 ⟨he,b2⟩;rw [HN.o] at he;subst he;replace q0:=ae (ax b2 q0.o);replace q1:=ae (ax b2 q1.o);replace q2:=ae (ax b2 q2.o);replace b1:=ae (b1.o.trans b2);clear c0 c1 c2 c3 c4 c5 fz;have c0:=aO q0.o;have c1:=aJ q0.o;have c2:=aO q1.o;have c3:=aJ q1.o;have c4:=aO q2.o;have c5:=aJ q2.o;have fz:=aA q2.o))
 refine bodyPost_ret (results_cell_row rfl _ _ (w.heap.size+1+1) _ _ _ _ rfl (ba q2.o) underlying100 rfl au) rfl ?_
 exact ⟨rfl,cT (HB.o.trans b1.o) (by omega) _ _⟩
theorem FN (R:qh w g h) (hk:v.kind=3) (h3:t.kind=3) (hv:0<=v.n) (hn:v.n<h.objs.length) (hz:fu h.file.classes (h.obj v.n).cls t.cls=true) :
  χ 191 #[π g.hb 0,cm (im v),iC t] w fun e w'=>e=.returned (cm (im v))/\Bl w w':=by
 obtain ⟨L0,L1,L2⟩:=dB w #[ι (im v).kind,ι (im v).n] #[ι t.kind,ι t.cls] #[ι 0,ι 0] 100 45 100
 have HB:Θ (Bl w (((w.alloc (eS (im v))).alloc (iv t)).alloc fa)):=(((Bl.refl w).alloc _).alloc _).alloc _
 have HR:Θ (qh w g h):=R
 obtain ⟨W,hW⟩:∃W,W=(((w.alloc (eS (im v))).alloc (iv t)).alloc fa):=⟨_,rfl⟩
 rw [<-hW] at HB L0 L1 L2
 have HW:Θ (W=(((w.alloc (eS (im v))).alloc (iv t)).alloc fa)):=hW
 have dK:Θ (W.heap[w.heap.size]?=some (.cells #[ι (im v).kind,ι (im v).n] 100 (0,0))):=L0
 have ey:Θ (W.heap[w.heap.size+1]?=some (.cells #[ι t.kind,ι t.cls] 45 (0,0))):=L1
 have wZ:Θ (W.heap[w.heap.size+1+1]?=some (.cells #[ι 0,ι 0] 100 (0,0))):=L2
 clear R L0 L1 L2 hW
 have Hk:Θ ((im v).kind=t.kind):=by rw [h3];exact hk
 have HV:Θ (v.kind=3/\0<=v.n/\v.n<h.objs.length):=⟨hk,hv,hn⟩
 have HN:Θ (wY (im v)=false):=lH hk hv
 have HZ:Θ (fu h.file.classes (h.obj v.n).cls t.cls=true):=hz
 have hd:decide (t.kind=3)=true:=decide_eq_true h3
 have hb:(t.kind==3)=true:=by simpa using h3
 clear hk h3 hv hn hz
 go_enter func191,ntmps191
 go_wp2_with (first|(go_at_call 144;rw [<-HW.o];refine (dZ (im v) t.kind _ Hk.o).mono ?_;rintro e w1 ⟨rfl,b1⟩;have q0:=ax b1 dK.o;have q1:=ax b1 ey.o;have q2:=ax b1 wZ.o;have c0:=aO q0;have c1:=aJ q0;have c2:=aO q1;have c3:=aJ q1;have c4:=aO q2;have c5:=aJ q2;have fz:=aA q2;replace q0:=ae q0;replace q1:=ae q1;replace q2:=ae q2;replace b1:=ae b1)|(go_at_call 90;refine (cB (im v) _).mono ?_;rintro e w2 ⟨he,b2⟩;rw [HN.o] at he;subst he;replace q0:=ae (ax b2 q0.o);replace q1:=ae (ax b2 q1.o);replace q2:=ae (ax b2 q2.o);replace b1:=ae (b1.o.trans b2);clear c0 c1 c2 c3 c4 c5 fz;have c0:=aO q0.o;have c1:=aJ q0.o;have c2:=aO q1.o;have c3:=aJ q1.o;have c4:=aO q2.o;have c5:=aJ q2.o;have fz:=aA q2.o)|(go_at_call 154;refine (jf g h v t.cls _ (HR.o.bl (HB.o.trans b1.o)) HV.o.1 HV.o.2.1 HV.o.2.2).mono ?_;rintro e w3 ⟨he,b3⟩;rw [HZ.o] at he;subst he;replace q0:=ae (ax b3 q0.o);replace q1:=ae (ax b3 q1.o);replace q2:=ae (ax b3 q2.o);replace b1:=ae (b1.o.trans b3);clear c0 c1 c2 c3 c4 c5 fz;have c0:=aO q0.o;have c1:=aJ q0.o;have c2:=aO q1.o;have c3:=aJ q1.o;have c4:=aO q2.o;have c5:=aJ q2.o;have fz:=aA q2.o))
 refine bodyPost_ret (results_cell_row rfl _ _ (w.heap.size+1+1) _ _ _ _ rfl (ba q2.o) underlying100 rfl au) rfl ?_
 exact ⟨rfl,cT (HB.o.trans b1.o) (by omega) _ _⟩
theorem FO (R:qh w g h) (hk:v.kind=3) (h3:t.kind=3) (hv:0<=v.n) (hn:v.n<h.objs.length) (hz:fu h.file.classes (h.obj v.n).cls t.cls=false) :
  χ 191 #[π g.hb 0,cm (im v),iC t] w fun e w'=>e=bF 6 0 0/\Bl w w':=by
 obtain ⟨L0,L1,L2⟩:=dB w #[ι (im v).kind,ι (im v).n] #[ι t.kind,ι t.cls] #[ι 0,ι 0] 100 45 100
 have HB:Θ (Bl w (((w.alloc (eS (im v))).alloc (iv t)).alloc fa)):=(((Bl.refl w).alloc _).alloc _).alloc _
 have HR:Θ (qh w g h):=R
 obtain ⟨W,hW⟩:∃W,W=(((w.alloc (eS (im v))).alloc (iv t)).alloc fa):=⟨_,rfl⟩
 rw [<-hW] at HB L0 L1 L2
 have HW:Θ (W=(((w.alloc (eS (im v))).alloc (iv t)).alloc fa)):=hW
 have dK:Θ (W.heap[w.heap.size]?=some (.cells #[ι (im v).kind,ι (im v).n] 100 (0,0))):=L0
 have ey:Θ (W.heap[w.heap.size+1]?=some (.cells #[ι t.kind,ι t.cls] 45 (0,0))):=L1
 have wZ:Θ (W.heap[w.heap.size+1+1]?=some (.cells #[ι 0,ι 0] 100 (0,0))):=L2
 clear R L0 L1 L2 hW
 have Hk:Θ ((im v).kind=t.kind):=by rw [h3];exact hk
 have HV:Θ (v.kind=3/\0<=v.n/\v.n<h.objs.length):=⟨hk,hv,hn⟩
 have HN:Θ (wY (im v)=false):=lH hk hv
 have HZ:Θ (fu h.file.classes (h.obj v.n).cls t.cls=false):=hz
 have hd:decide (t.kind=3)=true:=decide_eq_true h3
 have hb:(t.kind==3)=true:=by simpa using h3
 clear hk h3 hv hn hz
 go_enter func191,ntmps191
 go_wp2_with (first|(go_at_call 144;rw [<-HW.o];refine (dZ (im v) t.kind _ Hk.o).mono ?_;rintro e w1 ⟨rfl,b1⟩;have q0:=ax b1 dK.o;have q1:=ax b1 ey.o;have q2:=ax b1 wZ.o;have c0:=aO q0;have c1:=aJ q0;have c2:=aO q1;have c3:=aJ q1;have c4:=aO q2;have c5:=aJ q2;have fz:=aA q2;replace q0:=ae q0;replace q1:=ae q1;replace q2:=ae q2;replace b1:=ae b1)|(go_at_call 90;refine (cB (im v) _).mono ?_;rintro e w2 ⟨he,b2⟩;rw [HN.o] at he;subst he;replace q0:=ae (ax b2 q0.o);replace q1:=ae (ax b2 q1.o);replace q2:=ae (ax b2 q2.o);replace b1:=ae (b1.o.trans b2);clear c0 c1 c2 c3 c4 c5 fz;have c0:=aO q0.o;have c1:=aJ q0.o;have c2:=aO q1.o;have c3:=aJ q1.o;have c4:=aO q2.o;have c5:=aJ q2.o;have fz:=aA q2.o)|(go_at_call 154;refine (jf g h v t.cls _ (HR.o.bl (HB.o.trans b1.o)) HV.o.1 HV.o.2.1 HV.o.2.2).mono ?_;rintro e w3 ⟨he,b3⟩;rw [HZ.o] at he;subst he;replace q0:=ae (ax b3 q0.o);replace q1:=ae (ax b3 q1.o);replace q2:=ae (ax b3 q2.o);replace b1:=ae (b1.o.trans b3);clear c0 c1 c2 c3 c4 c5 fz;have c0:=aO q0.o;have c1:=aJ q0.o;have c2:=aO q1.o;have c3:=aJ q1.o;have c4:=aO q2.o;have c5:=aJ q2.o;have fz:=aA q2.o)|(go_at_call 86;refine (mL _).mono ?_;rintro e w4 ⟨rfl,hw⟩;rw [hw];clear hw w4))
 exact ⟨rfl,rfl,HB.o.trans b1.o⟩
theorem CS (R:qh w g h) (hk:v.kind≠t.kind) :
  χ 191 #[π g.hb 0,cm (im v),iC t] w fun e w'=>e=bF 6 0 0/\Bl w w':=by
 obtain ⟨L0,L1,L2⟩:=dB w #[ι (im v).kind,ι (im v).n] #[ι t.kind,ι t.cls] #[ι 0,ι 0] 100 45 100
 have HB:Θ (Bl w (((w.alloc (eS (im v))).alloc (iv t)).alloc fa)):=(((Bl.refl w).alloc _).alloc _).alloc _
 have HR:Θ (qh w g h):=R
 obtain ⟨W,hW⟩:∃W,W=(((w.alloc (eS (im v))).alloc (iv t)).alloc fa):=⟨_,rfl⟩
 rw [<-hW] at HB L0 L1 L2
 have HW:Θ (W=(((w.alloc (eS (im v))).alloc (iv t)).alloc fa)):=hW
 have dK:Θ (W.heap[w.heap.size]?=some (.cells #[ι (im v).kind,ι (im v).n] 100 (0,0))):=L0
 have ey:Θ (W.heap[w.heap.size+1]?=some (.cells #[ι t.kind,ι t.cls] 45 (0,0))):=L1
 have wZ:Θ (W.heap[w.heap.size+1+1]?=some (.cells #[ι 0,ι 0] 100 (0,0))):=L2
 clear R L0 L1 L2 hW
 have Hk:Θ ((im v).kind≠t.kind):=hk
 clear hk
 go_enter func191,ntmps191
 go_wp2_with (go_at_call 144;rw [<-HW.o];refine (jV (im v) t.kind _ Hk.o).mono ?_;rintro e w1 ⟨rfl,b1⟩;have q0:=ax b1 dK.o;have q1:=ax b1 ey.o;have q2:=ax b1 wZ.o;have c0:=aO q0;have c1:=aJ q0;have c2:=aO q1;have c3:=aJ q1;have c4:=aO q2;have c5:=aJ q2;have fz:=aA q2;replace q0:=ae q0;replace q1:=ae q1;replace q2:=ae q2;replace b1:=ae b1)
 exact ⟨rfl,rfl,HB.o.trans b1.o⟩
theorem FP (R:qh w g h) (hv:v.kind=3->-1<=v.n/\v.n<h.objs.length) (ho:h.of v t=true) :
  χ 191 #[π g.hb 0,cm (im v),iC t] w fun e w'=>e=.returned (cm (im v))/\Bl w w':=by
 unfold Hp.of at ho
 rw [Bool.and_eq_true,Bool.or_eq_true,Bool.or_eq_true] at ho
 obtain ⟨h1,h2⟩:=ho
 have hk:=of_decide_eq_true h1
 by_cases h3:t.kind=3
 ·have pZ:v.kind=3:=hk.trans h3
  obtain ⟨v1,v2⟩:=hv pZ
  by_cases hn:v.n=-1
  ·exact FM g h v t w R pZ h3 hn
  ·refine FN g h v t w R pZ h3 (by omega) v2 ?_
   rcases h2 with h2|h2|h2
   ·exact absurd h3 (of_decide_eq_true h2)
   ·have:=of_decide_eq_true h2;omega
   ·exact h2
 ·exact FL g h v t w R hk h3
theorem Kn (R:qh w g h) (hv:v.kind=3->-1<=v.n/\v.n<h.objs.length) (ho:h.of v t=false) :
  χ 191 #[π g.hb 0,cm (im v),iC t] w fun e w'=>e=bF 6 0 0/\Bl w w':=by
 by_cases hk:v.kind=t.kind
 ·unfold Hp.of at ho
  rw [decide_eq_true hk,Bool.true_and,Bool.or_eq_false_iff,Bool.or_eq_false_iff] at ho
  obtain ⟨h1,h2,h3⟩:=ho
  have ht:t.kind=3:=by simpa using h1
  have pZ:v.kind=3:=hk.trans ht
  have hn:¬v.n<0:=of_decide_eq_false h2
  exact FO g h v t w R pZ ht (by omega) (hv pZ).2 h3
 ·exact CS g h v t w R hk
end
def dz (s:Nat) (X Y:Nat->Prop) (wx w0:World) (g:Mg) (w:World) (h:Hp) (qs:List Qb) (a:Mc) (c:aL):Prop :=
 ∃vc vo vx vs l,oI s X wx w0 g w h qs a c vc vo vx vs l/\∀b,Y b->b<w.heap.size/\w0.heap.size<=b/\¬X b/\lj g vc vo vx b/\mq a vs b
def Ko:Nat->Prop:=fun _=>False
section
variable {s:Nat} {X:Nat->Prop}
theorem RX.y {wx w0 w:World} {g:Mg} {h:Hp} {qs:List Qb} {a:Mc} {c:aL} (H:RX s X wx w0 g w h qs a c):dz s X Ko wx w0 g w h qs a c:=by
 obtain ⟨vc,vo,vx,vs,l,H⟩:=H
 exact ⟨vc,vo,vx,vs,l,H,fun b hb=>absurd hb (fun x=>x)⟩
theorem dz.x {Y:Nat->Prop} {wx w0 w:World} {g:Mg} {h:Hp} {qs:List Qb} {a:Mc} {c:aL} (H:dz s X Y wx w0 g w h qs a c):RX s X wx w0 g w h qs a c:=by
 obtain ⟨vc,vo,vx,vs,l,H,-⟩:=H
 exact ⟨vc,vo,vx,vs,l,H⟩
theorem dz.size {Y:Nat->Prop} {wx w0 w:World} {g:Mg} {h:Hp} {qs:List Qb} {a:Mc} {c:aL} (H:dz s X Y wx w0 g w h qs a c):w0.heap.size<=w.heap.size:=by
 obtain ⟨vc,vo,vx,vs,l,H,-⟩:=H
 exact H.rh.bl.size
theorem RX.size {wx w0 w:World} {g:Mg} {h:Hp} {qs:List Qb} {a:Mc} {c:aL} (H:RX s X wx w0 g w h qs a c):w0.heap.size<=w.heap.size:=H.y.size
theorem dz.bl {Y:Nat->Prop} {wx w0 w w':World} {g:Mg} {h:Hp} {qs:List Qb} {a:Mc} {c:aL} (H:dz s X Y wx w0 g w h qs a c) (hb:Bl w w'):dz s X (Xp Y w.heap.size w'.heap.size) wx w0 g w' h qs a c:=by
 have hs:=H.size
 obtain ⟨vc,vo,vx,vs,l,H,F⟩:=H
 refine ⟨vc,vo,vx,vs,l,H.bl hb,fun b hy=>?_⟩
 have hsz:=hb.size
 rcases hy with hy|hy
 ·obtain ⟨h1,h2,h3,h4,h5⟩:=F b hy
  exact ⟨by omega,h2,h3,h4,h5⟩
 ·refine ⟨hy.2,by omega,fun hx=>?_,H.rh.farNew hy.1,H.ca.farNew hy.1⟩
  have:=(H.kept.blk b hx).1
  have:=H.kept.size
  omega
theorem dz.less {Y Z:Nat->Prop} {wx w0 w:World} {g:Mg} {h:Hp} {qs:List Qb} {a:Mc} {c:aL} (H:dz s X Y wx w0 g w h qs a c) (hz:∀b,Z b->Y b):dz s X Z wx w0 g w h qs a c:=by
 obtain ⟨vc,vo,vx,vs,l,H,F⟩:=H
 exact ⟨vc,vo,vx,vs,l,H,fun b hb=>F b (hz b hb)⟩
theorem dz.set {Y:Nat->Prop} {wx w0 w:World} {g:Mg} {h:Hp} {qs:List Qb} {a:Mc} {c:aL} (H:dz s X Y wx w0 g w h qs a c) {b:Nat} (hb:Y b) (i:Nat) (v:Value):dz s X Y wx w0 g (w.setCell ⟨b,i,none⟩ v) h qs a c:=by
 obtain ⟨vc,vo,vx,vs,l,H,F⟩:=H
 obtain ⟨h1,h2,h3,h4,h5⟩:=F b hb
 have hg:=cD (w:=w) b i v
 refine ⟨vc,vo,vx,vs,l,⟨H.rh.kept hg (fun x e=>?_),H.ca.kept hg (fun x e=>?_),H.farr,H.farc,H.kept.kept hg (fun x e hx=>?_)⟩,fun x hx=>?_⟩
 ·cases e;exact ⟨h2,h4⟩
 ·cases e;exact h5
 ·cases e;exact h3 hx
 ·obtain ⟨y1,y2⟩:=F x hx
  exact ⟨by simpa [World.setCell] using y1,y2⟩
end
structure sL (Y:Nat->Prop) (w w':World):Prop where
 size:w.heap.size<=w'.heap.size
 blk:∀b,Y b->w'.heap[b]?=w.heap[b]?
section
variable {Y:Nat->Prop} {w w':World}
theorem sL.at (h:sL Y w w') {b:Nat} {o:Obj} (hb:Y b) (ho:w.heap[b]?=some o):w'.heap[b]?=some o:=(h.blk b hb).trans ho
theorem sL.to {w2:World} (h:sL Y w w') (hb:Bl w' w2) (hs:∀b,Y b->b<w.heap.size):sL Y w w2 :=
 ⟨Nat.le_trans h.size hb.size,fun b hy=>(hb.block b (Nat.lt_of_lt_of_le (hs b hy) h.size)).trans (h.blk b hy)⟩
end
theorem dz.wide {s:Nat} {X Y:Nat->Prop} {wx w0 w w':World} {g:Mg} {h:Hp} {qs:List Qb} {a:Mc} {c:aL} (H:dz s X Y wx w0 g w h qs a c) (hb:Bl w w'):RX s (fun b=>X b∨Xp Y w.heap.size w'.heap.size b) w' w0 g w' h qs a c:=by
 obtain ⟨vc,vo,vx,vs,l,H,F⟩:=H.bl hb
 refine ⟨vc,vo,vx,vs,l,H.rh,H.ca,?_,?_,Nat.le_refl _,fun b hx=>⟨?_,rfl⟩⟩
 ·rintro b (hx|hx)
  ·exact H.farr b hx
  ·exact (F b hx).2.2.2.1
 ·rintro b (hx|hx)
  ·exact H.farc b hx
  ·exact (F b hx).2.2.2.2
 ·rcases hx with hx|hx
  ·have:=(H.kept.blk b hx).1;have:=H.kept.size;omega
  ·exact (F b hx).1
theorem dz.back {s s':Nat} {X Y:Nat->Prop} {wx w0 w w' w2:World} {g:Mg} {h h':Hp} {qs wB:List Qb} {a a':Mc} {c c':aL} (H:dz s X Y wx w0 g w h qs a c) (hb:Bl w w') (H2:RX s' (fun b=>X b∨Xp Y w.heap.size w'.heap.size b) w' w0 g w2 h' wB a' c') :
  dz s' X (Xp Y w.heap.size w'.heap.size) wx w0 g w2 h' wB a' c'/\sL (Xp Y w.heap.size w'.heap.size) w' w2:=by
 obtain ⟨vc,vo,vx,vs,l,H,F⟩:=H.bl hb
 obtain ⟨sS,wW,wX,JF,l',H2⟩:=H2
 refine ⟨⟨sS,wW,wX,JF,l',⟨H2.rh,H2.ca,fun b hx=>H2.farr b (Or.inl hx),fun b hx=>H2.farc b (Or.inl hx),Nat.le_trans H.kept.size H2.kept.size,fun b hx=>⟨(H.kept.blk b hx).1,?_⟩⟩,fun b hy=>?_⟩,H2.kept.size,fun b hy=>(H2.kept.blk b (Or.inr hy)).2⟩
 ·rw [(H2.kept.blk b (Or.inl hx)).2]
  exact (H.kept.blk b hx).2
 ·obtain ⟨h1,h2,h3,h4,h5⟩:=F b hy
  exact ⟨Nat.lt_of_lt_of_le h1 H2.kept.size,h2,h3,H2.farr b (Or.inr hy),H2.farc b (Or.inr hy)⟩
def RS (s:Nat) (X:Nat->Prop) (wx w0:World) (g:Mg) (w:World) (h:Hp) (qs:List Qb) (a:Mc) (c:aL):Prop:=∃c':aL,c'.m=c.m/\(c'.pc=c.pc/\c'.locs=c.locs)/\RX s X wx w0 g w h qs a c'
section
variable {s:Nat} {X:Nat->Prop}
theorem RX.rs {wx w0 w:World} {g:Mg} {h:Hp} {qs:List Qb} {a:Mc} {c:aL} (H:RX s X wx w0 g w h qs a c):RS s X wx w0 g w h qs a c:=⟨c,rfl,⟨rfl,rfl⟩,H⟩
theorem dz.rs {Y:Nat->Prop} {wx w0 w:World} {g:Mg} {h:Hp} {qs:List Qb} {a:Mc} {c:aL} (H:dz s X Y wx w0 g w h qs a c):RS s X wx w0 g w h qs a c:=H.x.rs
theorem RS.of {wx w0 w:World} {g:Mg} {h:Hp} {qs:List Qb} {a:Mc} {c c':aL} (H:RS s X wx w0 g w h qs a c) (h1:c.m=c'.m) (h2:c.pc=c'.pc/\c.locs=c'.locs):RS s X wx w0 g w h qs a c':=by
 obtain ⟨d,e1,e2,H⟩:=H
 exact ⟨d,e1.trans h1,⟨e2.1.trans h2.1,e2.2.trans h2.2⟩,H⟩
theorem RS.bl {wx w0 w w':World} {g:Mg} {h:Hp} {qs:List Qb} {a:Mc} {c:aL} (H:RS s X wx w0 g w h qs a c) (hb:Bl w w'):RS s X wx w0 g w' h qs a c:=by
 obtain ⟨d,e1,e2,H⟩:=H
 exact ⟨d,e1,e2,H.bl hb⟩
theorem dz.useY {Y:Nat->Prop} {wx w0 w w':World} {g:Mg} {h:Hp} {qs:List Qb} {a:Mc} {c:aL} (H:dz s X Y wx w0 g w h qs a c) (hb:Bl w w') {f:FuncId} {args:Array Value} {E:Ending} {s':Nat} {h':Hp} {wB:List Qb} {a':Mc} {c':aL} (hc:∀X wx w,RX s X wx w0 g w h qs a c->χ f args w fun e w2=>e=E/\RX s' X wx w0 g w2 h' wB a' c') :
  χ f args w' fun e w2=>e=E/\dz s' X (Xp Y w.heap.size w'.heap.size) wx w0 g w2 h' wB a' c'/\sL (Xp Y w.heap.size w'.heap.size) w' w2:=by
 refine (hc _ _ _ (H.wide hb)).mono ?_
 rintro e w2 ⟨he,H2⟩
 obtain ⟨h3,h4⟩:=H.back hb H2
 exact ⟨he,h3,h4⟩
theorem dz.useN {Y:Nat->Prop} {wx w0 w w':World} {g:Mg} {h:Hp} {qs:List Qb} {a:Mc} {c:aL} (H:dz s X Y wx w0 g w h qs a c) (hb:Bl w w') {f:FuncId} {args:Array Value} {E:Ending} {s':Nat} {h':Hp} {wB:List Qb} {a':Mc} {c':aL} (hc:∀X wx w,RX s X wx w0 g w h qs a c->χ f args w fun e w2=>e=E/\RS s' X wx w0 g w2 h' wB a' c') :
  χ f args w' fun e w2=>e=E/\RS s' X wx w0 g w2 h' wB a' c':=by
 refine (hc _ _ _ (H.wide hb)).mono ?_
 rintro e w2 ⟨he,d,e1,e2,H2⟩
 exact ⟨he,d,e1,e2,(H.back hb H2).1.x⟩
end
section
variable {Y:Nat->Prop} {n m b:Nat}
theorem Xp.new (h1:n<=b) (h2:b<m):Xp Y n m b:=Or.inr ⟨h1,h2⟩
theorem Xp.old (h:Y b):Xp Y n m b:=Or.inl h
end

section
open Go.Maps (Keyed has)
theorem j7 (n:Int) (w:World):χ 101 #[ι n] w fun e w'=>e=.returned (cm ⟨1,n⟩)/\Bl w w':=by
 go_enter func101,ntmps101
 go_wp2
 refine bodyPost_ret (results_cell_row rfl _ _ w.heap.size _ _ _ _ rfl (aB _ _ _) underlying100 rfl au) rfl ?_
 exact ⟨rfl,(Bl.refl w).alloc _⟩
theorem j8 (n:Int) (w:World):χ 100 #[ι n] w fun e w'=>e=.returned (cm ⟨2,n⟩)/\Bl w w':=by
 go_enter func100,ntmps100
 go_wp2
 refine bodyPost_ret (results_cell_row rfl _ _ w.heap.size _ _ _ _ rfl (aB _ _ _) underlying100 rfl au) rfl ?_
 exact ⟨rfl,(Bl.refl w).alloc _⟩
theorem CT (b:Bool) (w:World):χ 197 #[.bool b] w fun e w'=>e=.returned (cm ⟨1,if b=true then 1 else 0⟩)/\Bl w w':=by
 have HB:Θ (Bl w (w.alloc fa)):=(Bl.refl w).alloc _
 have HL:=ae (aB w #[ι 0,ι 0] 100)
 cases b
 ·go_enter func197,ntmps197
  go_wp2_with (go_at_call 101;refine (j7 0 _).mono ?_;rintro e w1 ⟨rfl,b1⟩;have q0:=ax b1 HL.o;have c4:=aO q0;have c5:=aJ q0;have fz:=aA q0;have b1:=ae b1;have q0:=ae q0)
  refine bodyPost_ret (results_cell_row rfl _ _ w.heap.size _ _ _ _ rfl (ba q0.o) underlying100 rfl au) rfl ?_
  exact ⟨rfl,cT (HB.o.trans b1.o) (Nat.le_refl _) _ _⟩
 ·go_enter func197,ntmps197
  go_wp2_with (go_at_call 101;refine (j7 1 _).mono ?_;rintro e w1 ⟨rfl,b1⟩;have q0:=ax b1 HL.o;have c4:=aO q0;have c5:=aJ q0;have fz:=aA q0;have b1:=ae b1;have q0:=ae q0)
  refine bodyPost_ret (results_cell_row rfl _ _ w.heap.size _ _ _ _ rfl (ba q0.o) underlying100 rfl au) rfl ?_
  exact ⟨rfl,cT (HB.o.trans b1.o) (Nat.le_refl _) _ _⟩
theorem FQ:(Tryz.prog.info? 45).map (·.size)=some 2:=by kernel_rfl
theorem fB (n:Int) (w:World):χ 185 #[ι n] w fun e w'=>e=.returned (iC ⟨3,n⟩)/\Bl w w':=by
 go_enter func185,ntmps185
 go_wp2
 refine bodyPost_ret (results_cell_row rfl _ _ w.heap.size _ _ _ _ rfl (aB _ _ _) underlying45 rfl FQ) rfl ?_
 exact ⟨rfl,(Bl.refl w).alloc _⟩
theorem CU:(Tryz.prog.info? 3).map (fun i=>(i.zero,i.size,i.bytes))=some (some (ι 0),1,8):=by kernel_rfl
structure Qj (h h':Hp):Prop where
 file:h'.file=h.file
 objs:h'.objs=h.objs
 input:h'.input=h.input
 fuel:h'.fuel=h.fuel
 o:h'.sh.o=h.sh.o
 used:h'.sh.used=h.sh.used
 steps:h'.sh.steps=h.sh.steps
theorem RH.eqv {s:Nat} {w0 w:World} {g:Mg} {h h':Hp} {qs:List Qb} {vc vo vx:Value} (H:RH s w0 g w h qs vc vo vx) (e:Qj h h'):RH s w0 g w h' qs vc vo vx:=by
 have e1:gP g h' vc vx=gP g h vc vx:=by unfold gP;rw [e.file,e.input,e.fuel,e.steps,e.used]
 have e2:fA g h' vo=fA g h vo:=by unfold fA;rw [e.file]
 refine ⟨H.ownr,H.ownh,H.ownm,H.bl,by rw [e1];exact H.run,by rw [e2];exact H.hp,by rw [e.o];exact H.o,by rw [e.objs];exact H.obs,H.calls,?_⟩
 obtain ⟨n,D,F⟩:=H.fld
 exact ⟨n,D,F.own,by rw [e.steps];exact F.few,by rw [e.objs];exact F.hit,by rw [e.objs,e.file];exact F.miss,by rw [e.objs];exact F.new,by rw [e.objs,e.file];exact F.ks,by rw [e.objs,e.file];exact F.kd⟩
section
variable {s:Nat} {X:Nat->Prop} {wx w0 w:World} {g:Mg} {h h':Hp}
theorem RX.eqv {qs:List Qb} {a:Mc} {c:aL} (H:RX s X wx w0 g w h qs a c) (e:Qj h h'):RX s X wx w0 g w h' qs a c:=by
 obtain ⟨vc,vo,vx,vs,l,H⟩:=H
 exact ⟨vc,vo,vx,vs,l,H.rh.eqv e,H.ca,H.farr,H.farc,H.kept⟩
theorem RS.eqv {qs:List Qb} {a:Mc} {c:aL} (H:RS s X wx w0 g w h qs a c) (e:Qj h h'):RS s X wx w0 g w h' qs a c:=by
 obtain ⟨d,e1,e2,H⟩:=H
 exact ⟨d,e1,e2,H.eqv e⟩
end
theorem vi (h:Hp) (e:Int):Qj h (h.fin e):=by unfold Hp.fin;split<;>exact ⟨rfl,rfl,rfl,rfl,rfl,rfl,rfl⟩
def Hp.mk' (h:Hp) (c:Int):Hp:={ h with objs:=h.objs++[⟨c,cZ h.file.classes c.toNat⟩] }
theorem nL {cs:List Cl} {c:Nat} {x:pO} (hx:x∈cZ cs c):x.v=jb (bI cs x.cls x.fld):=by
 unfold cZ at hx
 rw [List.mem_flatMap] at hx
 obtain ⟨d,-,hd⟩:=hx
 unfold gL at hd
 split at hd
 ·rw [List.mem_map] at hd
  obtain ⟨k,-,rfl⟩:=hd
  unfold bI
  simp
 ·simp at hd
theorem qU {α:Type} {d:α} {l:List α} {x:α}:nth d (l++[x]) l.length=x:=by simp [nth]
theorem l6 {α:Type} {d:α} {l:List α} {x:α} {i:Nat} (h:i<l.length):nth d (l++[x]) i=nth d l i:=by simp [nth,List.getD,List.getElem?_append_left h]
theorem mF.push {s:Nat} {w:World} {mp:Nat} {h:Hp} {n:Nat} {D:DataW Nat} (F:mF s w mp h n D) (c:Int) (ML:h.objs.length<=100):mF s w mp (h.mk' c) n D:=by
 have hl:(h.mk' c).objs.length=h.objs.length+1:=by simp [Hp.mk']
 refine ⟨F.own,F.few,fun o cc k v ho ic ik hx hh=>?_,fun o cc k v ho ic ik hx hh=>?_,fun o cc k ho Kq ic ik=>F.new o cc k (by omega) Kq ic ik,fun o ho=>?_,fun o ho x hx=>?_⟩
 ·by_cases e:o<h.objs.length
  ·have e1:nth cF (h.mk' c).objs o=nth cF h.objs o:=l6 e
   rw [e1] at hx
   exact F.hit o cc k v e ic ik hx hh
  ·rw [F.new o cc k (by omega) (by omega) ic ik] at hh
   exact absurd hh (by decide)
 ·by_cases e:o<h.objs.length
  ·have e1:nth cF (h.mk' c).objs o=nth cF h.objs o:=l6 e
   rw [e1] at hx
   exact F.miss o cc k v e ic ik hx hh
  ·have e0:o=h.objs.length:=by omega
   subst e0
   have e1:nth cF (h.mk' c).objs h.objs.length=⟨c,cZ h.file.classes c.toNat⟩:=qU
   rw [e1] at hx
   obtain ⟨x,mP,rfl,rfl,rfl⟩:=hx
   exact nL mP
 ·by_cases e:o<h.objs.length
  ·have e1:nth cF (h.mk' c).objs o=nth cF h.objs o:=l6 e
   rw [e1]
   exact F.ks o e
  ·have e0:o=h.objs.length:=by omega
   subst e0
   have e1:nth cF (h.mk' c).objs h.objs.length=⟨c,cZ h.file.classes c.toNat⟩:=qU
   rw [e1]
   rfl
 ·by_cases e:o<h.objs.length
  ·have e1:nth cF (h.mk' c).objs o=nth cF h.objs o:=l6 e
   rw [e1] at hx
   exact F.kd o e x hx
  ·have e0:o=h.objs.length:=by omega
   subst e0
   have e1:nth cF (h.mk' c).objs h.objs.length=⟨c,cZ h.file.classes c.toNat⟩:=qU
   rw [e1] at hx
   rw [nL hx]
   rfl
theorem oI.objs {s:Nat} {X:Nat->Prop} {wx w0 w w2:World} {g:Mg} {h:Hp} {qs:List Qb} {a:Mc} {c:aL} {vc vo vx vs v':Value} {l:List Va} (H:oI s X wx w0 g w h qs a c vc vo vx vs l) (hg:w.grownBy w2 vo.ownBlock) {k:Int}
  (ho:w2.ownsRow w0.heap.size 3 1 v' (h.objs.length+1) (h.objs.map (fun o=>Value.int .i64 o.cls)++[ι k])) (hat:v'.ownBlock=vo.ownBlock∨∀b,v'.ownBlock=some b->w.heap.size<=b) (ML:h.objs.length<=100) :
  oI s X wx w0 g (w2.setCell ⟨g.hb,1,none⟩ v') (h.mk' k) qs a c vc v' vx vs l:=by
 have R:=H.rh
 obtain ⟨n,D,F⟩:=R.fld
 obtain ⟨fr,fh,fm,fc,fo,fx⟩:=H.ca.farC R
 have hrow:∀b,vo.ownBlock=some b->w0.heap.size<=b:=fun b e=>(R.obs.lt b e).1
 have n1:vo.ownBlock≠some g.r:=bg R.obs R.run (by decide)
 have n2:vo.ownBlock≠some g.hb:=bg R.obs R.hp (by decide)
 have n3:vo.ownBlock≠some g.mp:=l4 R.obs F.own
 have pF:=aV hg R.hp n2
 have eF:=cD (w:=w2) g.hb 1 v'
 have Qk:(some g.hb:Option Nat)≠some g.r:=fun e=>cC R.hp R.run (by decide) (Option.some.inj e)
 have hne:∀(vv:Value) {b e sz nn xs},w.ownsRow b e sz vv nn xs->e≠3->vv.ownBlock=none∨vv.ownBlock≠vo.ownBlock:=fun vv b e sz nn xs hr he=>vh hr R.obs he
 have C2:=H.ca.kept hg (fun b e=>fo b e)
 have tt:w.heap.size<=w2.heap.size:=hg.size
 have NJ:∀b,X b->lj g vc v' vx b:=fun b hx=>⟨(H.farr b hx).r,(H.farr b hx).h,(H.farr b hx).m,(H.farr b hx).c,fun e=>by
  rcases hat with q|q
  ·rw [q] at e;exact (H.farr b hx).o e
  ·have:=q b e;have:=(H.kept.blk b hx).1;have:=H.kept.size;omega,(H.farr b hx).x⟩
 refine ⟨⟨R.ownr,R.ownh,R.ownm,?_,?_,?_,?_,?_,?_,n,D,?_⟩,?_,NJ,H.farc,?_⟩
 ·exact Below.setCell (Below.grown R.bl hg R.bl.size hrow) R.ownh _
 ·exact aV eF (aV hg R.run n1) Qk
 ·rw [ay pF];rfl
 ·exact (R.o.kept hg (hne vx R.o (by decide))).kept eF (Or.inr (bg (R.o.kept hg (hne vx R.o (by decide))) pF (by decide)))
 ·have:=ho.kept eF (Or.inr (bg ho pF (by decide)))
  simpa [Hp.mk'] using this
 ·exact (R.calls.kept hg (hne vc R.calls (by decide))).kept eF (Or.inr (bg (R.calls.kept hg (hne vc R.calls (by decide))) pF (by decide)))
 ·have F2:mF s (w2.setCell ⟨g.hb,1,none⟩ v') g.mp h n D:=⟨(F.own.kept hg (fun e=>n3 e.symm)).kept eF (fun e=>cC pF pF (by intro;exact absurd (iE pF (F.own.kept hg (fun e=>n3 e.symm))) (fun q=>q (Option.some.inj e).symm)) rfl),F.few,F.hit,F.miss,F.new,F.ks,F.kd⟩
  exact F2.push k ML
 ·exact C2.kept eF (fun b e=>by cases e;exact ⟨fh.q,fh.l,fh.s,fh.x⟩)
 ·exact (H.kept.kept hg (fun b e hx=>(H.farr b hx).o e)).kept eF (fun b e hx=>by cases e;exact (H.farr _ hx).h rfl)
end
section
open Go.Maps (Keyed has)
theorem MM (w:World) (o:Obj):(w.alloc o).heap.size=w.heap.size+1:=by simp
theorem qV {w:World} {b b' i:Nat} {o:Obj} (h:w.heap[b]?=some o) (hb:b≠b') (v:Value):(w.setCell ⟨b',i,none⟩ v).heap[b]?=some o:=by rw [ak hb];exact h
theorem jg {w:World} {base:Nat} {e:TypeId} {size n:Nat} {v:Value} {xs:List Value} (h:w.ownsRow base e size v n xs):∃A cap,v=.slice A n cap/\n<=cap/\cap<=maxLen:=by
 rcases h.2 with ⟨rfl,rfl⟩|⟨gb,cap,cur,rfl,h2,h3,h4,h5,h6⟩
 ·exact ⟨none,0,rfl,Nat.le_refl _,by unfold maxLen;omega⟩
 ·exact ⟨_,cap,rfl,h4,h5⟩
theorem RH.heapCells {s:Nat} {w0 w:World} {g:Mg} {h:Hp} {qs:List Qb} {vc vo vx:Value} (H:RH s w0 g w h qs vc vo vx):w.cell? ⟨g.hb,0,none⟩=some (.slice g.A h.file.classes.length g.a)/\w.cell? ⟨g.hb,1,none⟩=some vo/\w.cell? ⟨g.hb,2,none⟩=some (.map (some g.mp)):=by
 refine ⟨?_,?_,?_⟩<;>(rw [ab H.hp];rfl)
section
variable (s:Nat) (X:Nat->Prop) (wx w0:World) (g:Mg) (h:Hp)
theorem Bh (qs:List Qb) (a:Mc) (c:aL) (k:Int) (w:World) (H:RX s X wx w0 g w h qs a c) (hf:h.full=true) (hl:h.objs.length<=100) :
  χ 195 #[π g.hb 0,ι k] w fun e w'=>e=bF 4 0 0/\RX s X wx w0 g w' h qs a c:=by
 have HH:Θ (RX s X wx w0 g w h qs a c):=H
 obtain ⟨vc,vo,vx,vs,l,H⟩:=H
 obtain ⟨A,cap,rfl,h1,h2⟩:=jg H.rh.obs
 have c1:=H.rh.heapCells.2.1
 have hq:=af H.rh.hp
 have Ya:(100:Int)<=(h.objs.length:Int):=by unfold Hp.full at hf;have:=of_decide_eq_true hf;omega
 clear H hf
 go_enter func195,ntmps195
 go_wp2_with (go_at_call 99;refine (ly 4 _).mono ?_;rintro e w1 ⟨rfl,hw⟩;rw [hw];clear hw w1)
 exact ⟨rfl,rfl,HH.o.bl ((Bl.refl w).alloc _)⟩
theorem wu (qs:List Qb) (a:Mc) (c:aL) (k:Int) (w:World) (H:RX s X wx w0 g w h qs a c) (hf:h.full=false) :
  χ 195 #[π g.hb 0,ι k] w fun e w'=>e=.returned (cm ⟨3,(h.objs.length:Int)+1⟩)/\RX s X wx w0 g w' (h.mk' k) qs a c:=by
 obtain ⟨i0,wC,vl,wD,wE⟩:=info_parts CU
 have dX:=H.size
 obtain ⟨vc,vo,vx,vs,l,H⟩:=H
 have HH:=ae (H.bl ((Bl.refl w).alloc fa))
 have HL:=ae (aB w #[ι 0,ι 0] 100)
 have hlt:(h.objs.length:Int)<100:=by unfold Hp.full at hf;have:=of_decide_eq_false hf;omega
 obtain ⟨A,cap,nt,h1,h2⟩:=jg H.rh.obs
 subst nt
 have PF:=H.rh.obs
 have c1:=H.rh.heapCells.2.1
 have fz:=aA H.rh.hp 1
 have hq:=af H.rh.hp
 have HO:=ae HH.o.rh.obs
 have HP:=ae (HH.o.rh.hp)
 have PG:Θ ((Value.slice A h.objs.length cap).ownBlock≠some w.heap.size):=fun e=>by have:=mO PF e;omega
 have Ts:=ae (bg HO.o HP.o (by decide))
 have yZ:=ae (H.rh.farNew (Nat.le_refl _))
 have NK:=ae (H.ca.farNew (Nat.le_refl _))
 have Tt:Θ (¬X w.heap.size):=fun hx=>by have:=(H.kept.blk _ hx).1;have:=H.kept.size;omega
 have Yb:Θ (∀b,(Value.slice A h.objs.length cap).ownBlock=some b->b≠w.heap.size):=fun b e=>by have:=mO PF e;omega
 clear H hf PF
 go_enter func195,ntmps195
 go_wp2_with (at_builtin;refine wpList_append_lies _ rfl (.tmp 16) (.tmp 18) 53 rfl w0.heap.size 3 i0 _ 1 8 underlying53 wC vl wD wE rfl (by omega) (.slice A h.objs.length cap) h.objs.length (h.objs.map (fun o=>Value.int .i64 o.cls)) (by rfl) (by exact HO.o.alloc _) ⟨w.heap.size+1,0,none⟩ 1 1 [ι k] (by rfl) (by rfl) (World.news_of_block (cs:=#[ι k]) (t:=3) (fr:=(0,0)) (by rw [<-MM w fa];exact aB _ _ _)) (by simp [Value.oneCell']) (by omega) (by unfold maxLen;omega) (by omega) (by simp;omega) _ rfl ?_;intro gb cp w1 kH bO hat vm;have pF:=aV bO ((Below.heap_alloc _ _ _ (af HP.o)).trans HP.o) Ts.o;have dQ:=aV bO ((Below.heap_alloc _ _ _ (af HL.o)).trans HL.o) PG.o;have q1:w1.cell? ⟨g.hb,1,none⟩=some (.slice A h.objs.length cap):=(ab pF).trans rfl;have z1:=aA pF 1;have r0:=aO dQ;have r1:=aJ dQ;have rz:=aA dQ;have Yc:=af pF;have hbl:=af dQ;have hne:g.hb≠w.heap.size:=(by omega);have kH:=ae kH;have bO:=ae bO;have hat:=ae hat;have pF:=ae pF;have dQ:=ae dQ)
 refine bodyPost_ret (results_cell_row rfl _ _ w.heap.size _ _ _ _ rfl (ba (qV dQ.o (fun e=>hne e.symm) _)) underlying100 rfl au) rfl ?_
 have HA:=oI.objs (HH.o.bl ((Bl.refl _).alloc _)) bO.o kH.o (hat.o.elim (fun e=>Or.inl e.symm) (fun e=>Or.inr fun b hb=>Nat.le_of_eq (e.symm.trans (by simpa [Value.ownBlock] using hb)))) (by omega)
 refine ⟨rfl,dz.x (dz.set (Y:=fun b=>b=w.heap.size) (b:=w.heap.size) (dz.set (Y:=fun b=>b=w.heap.size) (b:=w.heap.size) ⟨vc,_,vx,vs,l,HA,fun b hb=>?_⟩ rfl 0 _) rfl 1 _)⟩
 subst hb
 refine ⟨by simpa [World.setCell] using hbl,dX,Tt.o,⟨yZ.o.r,yZ.o.h,yZ.o.m,yZ.o.c,fun e=>?_,yZ.o.x⟩,NK.o⟩
 simp [Value.ownBlock] at e
 rcases hat.o with q|q
 ·exact Yb.o gb q e
 ·simp at q;omega
end
abbrev vp (n:Int):Ending:=bF 2 3 (n+1)
theorem mQ (hb:Nat) (v:Va) (hk:v.kind=3) (hv:0<=v.n) (w:World) :
  χ 156 #[π hb 0,cm (im v)] w fun e w'=>e=vp v.n/\Bl w w':=by
 have HN:Θ (wY (im v)=false):=lH hk hv
 have e:im v=⟨3,v.n+1⟩:=gp hk
 rw [e] at HN ⊢
 have HL:=ae (aB w #[ι 3,ι (v.n+1)] 100)
 have HB:Θ (Bl w (w.alloc (eS ⟨3,v.n+1⟩))):=(Bl.refl w).alloc _
 clear hk hv e
 go_enter func156,ntmps156
 go_wp2_with (go_at_call 90;refine (cB ⟨3,v.n+1⟩ _).mono ?_;rintro e w2 ⟨he,b2⟩;rw [HN.o] at he;subst he;have q0:=ax b2 HL.o;have c0:=aO q0;have c1:=aJ q0;have b2:=ae b2;have q0:=ae q0)
 exact ⟨rfl,rfl,HB.o.trans b2.o⟩
section
variable (s:Nat) (X:Nat->Prop) (wx w0:World) (g:Mg) (h:Hp)
theorem vq (qs:List Qb) (a:Mc) (c:aL) (k:Int) (w:World) (H:RX s X wx w0 g w h qs a c) (hf:h.full=false) :
  χ 199 #[π g.hb 0,ι k] w fun e w'=>e=vp (h.objs.length:Int)/\RX s X wx w0 g w' (h.mk' k) qs a c:=by
 have HH:=ae H
 have HF:=ae hf
 clear H hf
 have HT:Θ (∀w,χ 156 #[π g.hb 0,cm ⟨3,(h.objs.length:Int)+1⟩] w fun e w'=>e=vp (h.objs.length:Int)/\Bl w w'):=fun w=>mQ g.hb ⟨3,(h.objs.length:Int)⟩ rfl (by simp) w
 go_enter func199,ntmps199
 go_wp2_with (first
  | (go_at_call 195;refine (wu s X wx w0 g h qs a c k _ HH.o HF.o).mono ?_;rintro e w1 ⟨rfl,H1⟩;have H1:=ae H1)
  | (go_at_call 156;refine (HT.o _).mono ?_;rintro e w2 ⟨rfl,b2⟩;have b2:=ae b2))
 exact ⟨rfl,rfl,H1.o.bl b2.o⟩
theorem w8 (qs:List Qb) (a:Mc) (c:aL) (k:Int) (w:World) (H:RX s X wx w0 g w h qs a c) (hf:h.full=true) (hl:h.objs.length<=100) :
  χ 199 #[π g.hb 0,ι k] w fun e w'=>e=bF 4 0 0/\RX s X wx w0 g w' h qs a c:=by
 have HH:=ae H
 have HF:=ae hf
 have HL:=ae hl
 clear H hf hl
 go_enter func199,ntmps199
 go_wp2_with (go_at_call 195;refine (Bh s X wx w0 g h qs a c k _ HH.o HF.o HL.o).mono ?_;rintro e w1 ⟨rfl,H1⟩;have H1:=ae H1)
 exact ⟨rfl,rfl,H1.o⟩
end
def cU (h:Hp):Ending:=if h.full=true then bF 4 0 0 else vp (h.objs.length:Int)
theorem CV (h:Hp) (k:Int) (ho:h.over=false):Qj (if h.full=true then h else h.mk' k) (h.raise k):=by
 unfold Hp.raise Hp.new Hp.mk'
 by_cases hf:h.full=true
 ·rw [if_pos hf,if_pos hf,if_pos (by simp [Hp.fin,ho])];exact vi h 4
 ·rw [if_neg hf,if_neg hf,if_neg (by simp [ho])]
  exact ⟨rfl,rfl,rfl,rfl,rfl,rfl,rfl⟩
section
variable (s:Nat) (X:Nat->Prop) (wx w0:World) (g:Mg) (h:Hp)
theorem gy (qs:List Qb) (a:Mc) (c:aL) (k:Int) (w:World) (H:RX s X wx w0 g w h qs a c) (hl:h.objs.length<=100) (ho:h.over=false) :
  χ 199 #[π g.hb 0,ι k] w fun e w'=>e=cU h/\RX s X wx w0 g w' (h.raise k) qs a c:=by
 have e:=CV h k ho
 unfold cU
 by_cases hf:h.full=true
 ·rw [if_pos hf] at e ⊢
  exact (w8 s X wx w0 g h qs a c k w H hf hl).mono fun _ _ ⟨h1,h2⟩=>⟨h1,h2.eqv e⟩
 ·have Si:h.full=false:=by simpa using hf
  rw [if_neg hf] at e ⊢
  exact (vq s X wx w0 g h qs a c k w H Si).mono fun _ _ ⟨h1,h2⟩=>⟨h1,h2.eqv e⟩
theorem yu (qs:List Qb) (a:Mc) (c:aL) (v:Va) (w:World) (H:RX s X wx w0 g w h qs a c) (hl:h.objs.length<=100) (ho:h.over=false) (hk:v.kind=3) (hv:v.n=-1) :
  χ 156 #[π g.hb 0,cm (im v)] w fun e w'=>e=cU h/\RX s X wx w0 g w' (h.raise 1) qs a c:=by
 have HN:Θ (wY (im v)=true):=l5 hk hv
 have e:im v=⟨3,0⟩:=by rw [gp hk,hv];rfl
 rw [e] at HN ⊢
 have HB:Θ (Bl w (w.alloc (eS ⟨3,0⟩))):=(Bl.refl w).alloc _
 have HH:=ae H
 have HL:=ae (And.intro hl ho)
 obtain ⟨E,hE⟩:∃E,cU h=E:=⟨_,rfl⟩
 have HE:=ae hE
 rw [hE]
 have HX:Θ (∃ch,E=.panicked ch):=by
  rw [<-hE];unfold cU;split<;>exact ⟨_,rfl⟩
 clear hk hv e H hl ho hE
 obtain ⟨ch,rfl⟩:=HX.o
 go_enter func156,ntmps156
 go_wp2_with (first
  | (go_at_call 90;refine (cB ⟨3,0⟩ _).mono ?_;rintro e w2 ⟨he,b2⟩;rw [HN.o] at he;subst he;have b2:=ae b2)
  | (go_at_call 199;refine (gy s X wx w0 g h qs a c 1 _ (HH.o.bl (HB.o.trans b2.o)) HL.o.1 HL.o.2).mono ?_;rintro e w3 ⟨he,H3⟩;rw [HE.o] at he;subst he;have H3:=ae H3))
 exact ⟨rfl,rfl,H3.o⟩
end
end
structure cu (w:World) (b:Nat) (l:List Va):Prop where
 blk:w.heap[b]?=some (.cells (bh l).toArray 100 (0,0))
section
variable {w:World} {b:Nat} {l:List Va}
theorem cu.c0 (h:cu w b l) {i:Nat} (hi:i<l.length):w.cell? ⟨b,i*2,none⟩=some (ι (nth aE l i).kind):=by
 rw [ab h.blk];simpa using (jX l i hi).1
theorem cu.c1 (h:cu w b l) {i:Nat} (hi:i<l.length):w.cell? ⟨b,i*2+1,none⟩=some (ι (nth aE l i).n):=by
 rw [ab h.blk];simpa using (jX l i hi).2
end
theorem cu.bl {w w':World} {b:Nat} {l:List Va} (h:cu w b l) (hb:Bl w w'):cu w' b l:=⟨ax hb h.blk⟩
theorem cu.set {w:World} {b:Nat} {l:List Va} (h:cu w b l) {i:Nat} (hi:i<l.length) (v:Va):cu ((w.setCell ⟨b,i*2,none⟩ (ι v.kind)).setCell ⟨b,i*2+1,none⟩ (ι v.n)) b (l.set i v) :=
 ⟨by rw [ay (ay h.blk _),lA l i v hi];simp⟩
section
variable (lb lc n:Nat) (l:List Va)
theorem FT (k:Int) (w:World) (B:cu w lb l) (hn:n<l.length) (hl:l.length<=1000) (hk:(nth aE l n).kind=k) (h2:k≠2) :
  χ 149 #[.slice (some ⟨lb,0,none⟩) l.length lc,ι (n:Int),ι k] w fun e w'=>e=.returned (cm (nth aE l n))/\Bl w w':=by
 have x0:=B.c0 hn
 have x1:=B.c1 hn
 have hlt:=af B.blk
 have iw:(0:Int)<=(n:Int):=by omega
 have fT:(n:Int)<(l.length:Int):=by omega
 have dQ:(k==2)=false:=by simpa using h2
 have Ql:decide (k=2)=false:=decide_eq_false h2
 have HK:=ae hk
 have HL:=ae (aB w #[ι 0,ι 0] 100)
 have HB:Θ (Bl w (w.alloc fa)):=(Bl.refl w).alloc _
 generalize nth aE l n=u at *
 clear B hk h2
 go_enter func149,ntmps149
 go_wp2_with (go_at_call 144;refine (dZ u k _ HK.o).mono ?_;rintro e w2 ⟨rfl,b2⟩;have q0:=ax b2 HL.o;have c4:=aO q0;have c5:=aJ q0;have fz:=aA q0;have VR:=af q0;replace b2:=ae b2;replace q0:=ae q0)
 refine bodyPost_ret (results_cell_row rfl _ _ w.heap.size _ _ _ _ rfl ((Below.heap_alloc _ _ _ (af (ba q0.o))).trans (ba q0.o)) underlying100 rfl au) rfl ?_
 exact ⟨rfl,(cT (HB.o.trans b2.o) (Nat.le_refl _) _ _).alloc _⟩
theorem CW (k:Int) (w:World) (B:cu w lb l) (hn:n<l.length) (hl:l.length<=1000) (hk:(nth aE l n).kind≠k) :
  χ 149 #[.slice (some ⟨lb,0,none⟩) l.length lc,ι (n:Int),ι k] w fun e w'=>e=bF 6 0 0/\Bl w w':=by
 have x0:=B.c0 hn
 have x1:=B.c1 hn
 have hlt:=af B.blk
 have iw:(0:Int)<=(n:Int):=by omega
 have fT:(n:Int)<(l.length:Int):=by omega
 have HK:=ae hk
 have HB:Θ (Bl w (w.alloc fa)):=(Bl.refl w).alloc _
 generalize nth aE l n=u at *
 clear B hk
 go_enter func149,ntmps149
 go_wp2_with (go_at_call 144;refine (jV u k _ HK.o).mono ?_;rintro e w2 ⟨rfl,b2⟩;replace b2:=ae b2)
 exact ⟨rfl,rfl,HB.o.trans b2.o⟩
theorem tv (v:Va) (w:World) (B:cu w lb l) (hn:n<l.length) (hl:l.length<=1000) (hk:v.kind≠2) :
  χ 84 #[.slice (some ⟨lb,0,none⟩) l.length lc,ι (n:Int),cm v] w fun e w'=>e=.returned (.tuple #[])/\cu w' lb (l.set n v)/\w.grownBy w' (some lb):=by
 have x0:=B.c0 hn
 have x1:=B.c1 hn
 have fz:=aA B.blk
 have hlt:=af B.blk
 have iw:(0:Int)<=(n:Int):=by omega
 have fT:(n:Int)<(l.length:Int):=by omega
 have dQ:(v.kind==2)=false:=by simpa using hk
 have Ql:decide (v.kind=2)=false:=decide_eq_false hk
 have HB:=ae B
 have hne:lb≠w.heap.size:=by omega
 clear B hk
 go_enter func84,ntmps84
 go_wp2
 go_end0
 exact ⟨rfl,(HB.o.set hn v).bl ((Bl.refl _).alloc _),dy (dy (cD lb _ _) (cD lb _ _)) (World.grownBy_alloc _ _ _)⟩
end
theorem CX (lb lc n:Nat) (l:List Va) (w:World) (B:cu w lb l) (hn:n+1<l.length) (hl:l.length<=1000) (hk:(nth aE l n).kind=2) (h4:(nth aE l (n+1)).kind=4) :
  χ 149 #[.slice (some ⟨lb,0,none⟩) l.length lc,ι (n:Int),ι 2] w fun e w'=>e=.returned (cm (nth aE l n))/\Bl w w':=by
 have x0:=B.c0 (i:=n) (by omega)
 have x1:=B.c1 (i:=n) (by omega)
 have Tv:=ae (B.c0 (i:=n+1) hn)
 have Tw:=ae (B.c1 (i:=n+1) hn)
 have hlt:=af B.blk
 have iw:(0:Int)<=(n:Int):=by omega
 have fT:(n:Int)<(l.length:Int):=by omega
 have lv:(0:Int)<=(n:Int)+1:=by omega
 have VS:(n:Int)+1<(l.length:Int):=by omega
 have HK:=ae hk
 have Tx:=ae h4
 have HL:=ae (aB w #[ι 0,ι 0] 100)
 have HB:Θ (Bl w (w.alloc fa)):=(Bl.refl w).alloc _
 generalize nth aE l n=u at *
 generalize nth aE l (n+1)=u' at *
 clear B hk h4
 go_enter func149,ntmps149
 go_wp2_with (go_at_call 144;first
  | (refine (dZ u 2 _ HK.o).mono ?_;rintro e w2 ⟨rfl,b2⟩;have q0:=ax b2 HL.o;have y2:=b2.cell (Bl.cell HB.o Tv.o);have y3:=b2.cell (Bl.cell HB.o Tw.o);have VR:=af q0;have sM:=br y2;replace b2:=ae b2;replace q0:=ae q0)
  | (refine (dZ u' 4 _ Tx.o).mono ?_;rintro e w3 ⟨rfl,b3⟩;replace q0:=ae (ax b3 ((Below.heap_alloc _ _ _ (af q0.o)).trans q0.o));have r0:=b3.cell (ai (w:=w2) (cs:=#[ι u.kind,ι u.n]) (t:=100) (o:=0) rfl);have r1:=b3.cell (ai (w:=w2) (cs:=#[ι u.kind,ι u.n]) (t:=100) (o:=1) rfl);have c4:=aO q0.o;have c5:=aJ q0.o;have fz:=aA q0.o;replace b3:=ae b3))
 refine bodyPost_ret (results_cell_row rfl _ _ w.heap.size _ _ _ _ rfl (ba q0.o) underlying100 rfl au) rfl ?_
 exact ⟨rfl,cT ((HB.o.trans (b2.o.alloc _)).trans b3.o) (Nat.le_refl _) _ _⟩
end Go.Proofs.YtgiiapenmjollaaGreat
