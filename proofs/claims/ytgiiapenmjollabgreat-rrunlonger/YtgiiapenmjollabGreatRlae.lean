import Derived.Test.YtgiiapenmjollabGreatRlac
import Derived.Maps.OwnSet
import Derived.BigQuiet
import Derived.Laws.StructEq
import Derived.Deep.RegionHeld3
namespace Go.Proofs.YtgiiapenmjollabGreat
set_option linter.all false
set_option maxHeartbeats 40000000
set_option maxRecDepth 100000
open Go.RowKit
section
open Go.Maps (Keyed has)
structure Mg where
 r:Nat
 hb:Nat
 mp:Nat
 A:Option Addr
 a:Nat
 M:Option Addr
 m:Nat
 I:Option Addr
 i:Nat
structure Qb where
 q:Nat
 bx:Nat
structure Mc where
 q:Nat
 lb:Nat
 lc:Nat
 P:Option Addr
 p:Nat
 C:Option Addr
 c:Nat
 K:Option Addr
 k:Nat
 bx:Nat
def Mc.qb (a:Mc):Qb:=⟨a.q,a.bx⟩
def runRow (g:Mg) (h:Hp) (vc vx:Value):Array Value :=
 #[.pointer (some ⟨g.hb,0,none⟩),.slice g.M h.file.methods.length g.m,.func (.func 31) #[] #[],vc,.slice g.I h.input.length g.i,.int .i64 h.fuel,.int .i64 h.sh.steps,.int .i64 h.sh.used,vx]
def heapRow (g:Mg) (h:Hp) (vo:Value):Array Value:=#[.slice g.A h.file.classes.length g.a,vo,.map (some g.mp)]
def callRow (g:Mg) (a:Mc) (c:Cal) (vs:Value):Array Value :=
 #[.pointer (some ⟨g.hb,0,none⟩),.pointer (some ⟨g.r,0,none⟩),.slice a.P c.m.params.length a.p,.int .i64 c.m.ret.kind,.int .i64 c.m.ret.cls,.int .i64 c.m.stack,.int .i64 c.m.locs,.int .i64 c.m.regs,.slice a.C c.m.code.length a.c,.slice a.K c.m.hands.length a.k,
  .slice (some ⟨a.lb,0,none⟩) c.locs.length a.lc,.int .i64 c.pc,.int .i64 c.giv.kind,.int .i64 (im c.giv).n,.int .i64 c.cau.kind,.int .i64 (im c.cau).n]
def funs (q:Qb):List Value :=
 [.func (.func 67) #[.pointer (some ⟨q.q,0,none⟩)] #[],.func (.func 66) #[] #[.pointer (some ⟨q.bx,0,none⟩)],.func (.func 68) #[.pointer (some ⟨q.q,0,none⟩)] #[]]
def callCells:List Qb→List Value
 | []=>[]
 | q::l=>funs q++callCells l
theorem callCells_length (l:List Qb):(callCells l).length=l.length*3:=by
 induction l with
 | nil=>rfl
 | cons x l ih=>simp [callCells,funs,ih];omega
theorem callCells_append (l k:List Qb):callCells (l++k)=callCells l++callCells k:=by
 induction l with
 | nil=>rfl
 | cons x l ih=>simp [callCells,ih]
def mvElem (v:Value):Option (DataW Nat×List MemPlace):=match v with
 | .agg cs=>match cs.toList with
  | [.int .i64 k,.int .i64 n]=>some (.agg [.lit (.int .i64 k),.lit (.int .i64 n)],[])
  | _=>none
 | _=>none
def mvD (v:Va):DataW Nat:=.agg [.lit (.int .i64 v.kind),.lit (.int .i64 v.n)]
theorem mvElem_mk (v:Va):mvElem (mvV v)=some (mvD v,[]):=rfl
theorem mvElem_inv {v:Value} {x:Va} {ps:List MemPlace} (h:mvElem v=some (mvD x,ps)):v=mvV x:=by
 unfold mvElem at h
 split at h
 ·rename_i cs
  split at h
  ·rename_i k n hc
   simp only [Option.some.injEq,Prod.mk.injEq,mvD,DataW.agg.injEq,List.cons.injEq,DataW.lit.injEq,Lit.int.injEq,true_and,and_true] at h
   obtain ⟨⟨h1,h2⟩,-⟩:=h
   have:cs=#[.int .i64 k,.int .i64 n]:=by
    apply Array.ext'
    exact hc
   rw [this,h1,h2]
  ·cases h
 ·cases h
structure FldAt (s:Nat) (w:World) (mp:Nat) (h:Hp) (n:Nat) (D:DataW Nat):Prop where
 own:w.ownsMap Tryz.prog 303 mvElem mp n D
 few:(n:Int)+s≤h.sh.steps
 hit:∀(o:Nat) (c k:Int) (v:Va),o<h.objs.length→I64 c→I64 k→(∃x∈(nth ob0 h.objs o).held,x.cls=c∧x.fld=k∧x.v=v)→has D (keyM (o+1) c k)=true→∀z,D.atKey (keyM (o+1) c k) z=mvD (im v)
 miss:∀(o:Nat) (c k:Int) (v:Va),o<h.objs.length→I64 c→I64 k→(∃x∈(nth ob0 h.objs o).held,x.cls=c∧x.fld=k∧x.v=v)→has D (keyM (o+1) c k)=false→v=initV (fieldT h.file.classes c k)
 new:∀(o:Nat) (c k:Int),h.objs.length≤o→o≤100→I64 c→I64 k→has D (keyM (o+1) c k)=false
 ks:∀(o:Nat),o<h.objs.length→(nth ob0 h.objs o).held.map (fun x=>(x.cls,x.fld))=(newHeld h.file.classes (nth ob0 h.objs o).cls.toNat).map (fun x=>(x.cls,x.fld))
 kd:∀(o:Nat),o<h.objs.length→∀x∈(nth ob0 h.objs o).held,x.v.kind=(fieldT h.file.classes x.cls x.fld).kind
structure RH (s:Nat) (w0:World) (g:Mg) (w:World) (h:Hp) (qs:List Qb) (vc vo vx:Value):Prop where
 ownr:w0.heap.size≤g.r
 ownh:w0.heap.size≤g.hb
 ownm:w0.heap.size≤g.mp
 bl:Bl w0 w
 run:w.heap[g.r]?=some (.cells (runRow g h vc vx) 112 (0,0))
 hp:w.heap[g.hb]?=some (.cells (heapRow g h vo) 217 (0,0))
 out:w.ownsRow w0.heap.size 2 1 vx h.sh.out.length (h.sh.out.map (Value.int .i64))
 obs:w.ownsRow w0.heap.size 3 1 vo h.objs.length (h.objs.map (fun o=>Value.int .i64 o.cls))
 calls:w.ownsRow w0.heap.size 107 3 vc qs.length (callCells qs)
 fld:∃n D,FldAt s w g.mp h n D
structure CA (w0:World) (g:Mg) (w:World) (a:Mc) (c:Cal) (l:List Va) (vs:Value):Prop where
 own:w0.heap.size≤a.q
 ownl:w0.heap.size≤a.lb
 ownb:w0.heap.size≤a.bx
 blk:w.heap[a.q]?=some (.cells (callRow g a c vs) 119 (0,0))
 box:w.heap[a.bx]?=some (.cells #[.pointer (some ⟨a.q,0,none⟩)] 108 (0,0))
 loc:w.heap[a.lb]?=some (.cells (vaCells l).toArray 115 (0,0))
 rel:LRel c.locs l
 stk:w.ownsRow w0.heap.size 115 2 vs 0 []
 apart:vs.ownBlock≠some a.lb
 me:MeAt w0 c.m a.P a.C a.K
 short:c.locs.length≤1000
 kinds:(0≤c.giv.kind∧c.giv.kind≤3)∧(0≤c.cau.kind∧c.cau.kind≤3)
structure FarR (g:Mg) (vc vo vx:Value) (b:Nat):Prop where
 r:b≠g.r
 h:b≠g.hb
 m:b≠g.mp
 c:vc.ownBlock≠some b
 o:vo.ownBlock≠some b
 x:vx.ownBlock≠some b
structure FarC (a:Mc) (vs:Value) (b:Nat):Prop where
 q:b≠a.q
 l:b≠a.lb
 s:vs.ownBlock≠some b
 x:b≠a.bx
structure KeptX (X:Nat→Prop) (wx w:World):Prop where
 size:wx.heap.size≤w.heap.size
 blk:∀b,X b→b<wx.heap.size∧w.heap[b]?=wx.heap[b]?
def HX (s:Nat) (X:Nat→Prop) (wx w0:World) (g:Mg) (w:World) (h:Hp) (qs:List Qb):Prop :=
 ∃vc vo vx,RH s w0 g w h qs vc vo vx∧(∀b,X b→FarR g vc vo vx b)∧KeptX X wx w
structure RXA (s:Nat) (X:Nat→Prop) (wx w0:World) (g:Mg) (w:World) (h:Hp) (qs:List Qb) (a:Mc) (c:Cal) (vc vo vx vs:Value) (l:List Va):Prop where
 rh:RH s w0 g w h qs vc vo vx
 ca:CA w0 g w a c l vs
 farr:∀b,X b→FarR g vc vo vx b
 farc:∀b,X b→FarC a vs b
 kept:KeptX X wx w
def RX (s:Nat) (X:Nat→Prop) (wx w0:World) (g:Mg) (w:World) (h:Hp) (qs:List Qb) (a:Mc) (c:Cal):Prop :=
 ∃vc vo vx vs l,RXA s X wx w0 g w h qs a c vc vo vx vs l
theorem blk_ne {w:World} {b b':Nat} {cs cs':Array Value} {t t':TypeId} {f f':Nat×Nat} (h:w.heap[b]?=some (.cells cs t f)) (h':w.heap[b']?=some (.cells cs' t' f')) (ht:t≠t'):b≠b':=by
 rintro rfl
 rw [h] at h'
 simp at h'
 exact ht h'.2.1
theorem row_ne {w:World} {base base':Nat} {e e':TypeId} {size size' n n':Nat} {v v':Value} {xs xs':List Value} (h:w.ownsRow base e size v n xs) (h':w.ownsRow base' e' size' v' n' xs') (ht:e≠e'):v.ownBlock=none∨v.ownBlock≠v'.ownBlock:=by
 rcases h.2 with ⟨rfl,-⟩|⟨gb,cap,cur,rfl,h2,h3,h4⟩
 ·exact Or.inl rfl
 ·right
  intro hc
  have:=own_far h' h3 ht
  exact this hc.symm
theorem map_ne {w:World} {b mp n:Nat} {D:DataW Nat} {cs:Array Value} {t:TypeId} {f:Nat×Nat} (h:w.heap[b]?=some (.cells cs t f)) (hm:w.ownsMap Tryz.prog 303 mvElem mp n D):b≠mp:=by
 obtain ⟨es,ck,hb,-⟩:=hm
 rintro rfl
 rw [h] at hb
 simp at hb
theorem map_row {w:World} {base:Nat} {e:TypeId} {size k:Nat} {v:Value} {xs:List Value} (h:w.ownsRow base e size v k xs) {mp n:Nat} {D:DataW Nat} (hm:w.ownsMap Tryz.prog 303 mvElem mp n D):v.ownBlock≠some mp:=by
 obtain ⟨es,ck,hb,-⟩:=hm
 intro hc
 rcases h.2 with ⟨rfl,-⟩|⟨gb,cap,cur,rfl,h2,h3,h4⟩
 ·simp [Value.ownBlock] at hc
 ·simp [Value.ownBlock] at hc
  subst hc
  rw [h3] at hb
  simp at hb
theorem grown_bl {w w':World} (h:Bl w w') (row:Option Nat):w.grownBy w' row:=⟨h.os,h.tape,h.output,h.size,fun i hi _=>h.block i hi⟩
theorem grown_blk {w w':World} {row:Option Nat} (hg:w.grownBy w' row) {b:Nat} {o:Obj} (h:w.heap[b]?=some o) (hr:row≠some b):w'.heap[b]?=some o:=by
 rw [hg.block b (lt_some h) (fun e=>hr e.symm)];exact h
theorem RH.kept {s:Nat} {w0 w w':World} {g:Mg} {h:Hp} {qs:List Qb} {vc vo vx:Value} (H:RH s w0 g w h qs vc vo vx) {row:Option Nat} (hg:w.grownBy w' row)
  (far:∀b,row=some b→w0.heap.size≤b∧FarR g vc vo vx b):RH s w0 g w' h qs vc vo vx:=by
 have hne:∀v:Value,(∀b,row=some b→v.ownBlock≠some b)→(v.ownBlock=none∨v.ownBlock≠row):=by
  intro v hv
  cases hr:row with
  | none=>cases hv':v.ownBlock<;>simp
  | some b=>right;exact hv b hr
 refine ⟨H.ownr,H.ownh,H.ownm,Below.grown H.bl hg H.bl.size (fun k hk=>(far k hk).1),grown_blk hg H.run (fun e=>(far _ e).2.r rfl),grown_blk hg H.hp (fun e=>(far _ e).2.h rfl),
  H.out.kept hg (hne vx fun b e=>(far b e).2.x),H.obs.kept hg (hne vo fun b e=>(far b e).2.o),H.calls.kept hg (hne vc fun b e=>(far b e).2.c),?_⟩
 obtain ⟨n,D,F⟩:=H.fld
 exact ⟨n,D,F.own.kept hg (fun e=>(far _ e.symm).2.m rfl),F.few,F.hit,F.miss,F.new,F.ks,F.kd⟩
theorem CA.kept {w0 w w':World} {g:Mg} {a:Mc} {c:Cal} {l:List Va} {vs:Value} (H:CA w0 g w a c l vs) {row:Option Nat} (hg:w.grownBy w' row)
  (far:∀b,row=some b→FarC a vs b):CA w0 g w' a c l vs:=by
 refine ⟨H.own,H.ownl,H.ownb,grown_blk hg H.blk (fun e=>(far _ e).q rfl),grown_blk hg H.box (fun e=>(far _ e).x rfl),grown_blk hg H.loc (fun e=>(far _ e).l rfl),H.rel,H.stk.kept hg ?_,H.apart,H.me,H.short,H.kinds⟩
 cases hr:row with
 | none=>cases hv':vs.ownBlock<;>simp
 | some b=>right;exact (far b hr).s
theorem KeptX.kept {X:Nat→Prop} {wx w w':World} (H:KeptX X wx w) {row:Option Nat} (hg:w.grownBy w' row) (far:∀b,row=some b→¬X b):KeptX X wx w' :=
 ⟨Nat.le_trans H.size hg.size,fun b hb=>⟨(H.blk b hb).1,by
  rw [hg.block b (Nat.lt_of_lt_of_le (H.blk b hb).1 H.size) (fun e=>far b e.symm hb)];exact (H.blk b hb).2⟩⟩
theorem RH.far {s:Nat} {w0 w:World} {g:Mg} {h:Hp} {qs:List Qb} {vc vo vx:Value} (H:RH s w0 g w h qs vc vo vx) {b:Nat} {cs:Array Value} {t:TypeId} {f:Nat×Nat} (hb:w.heap[b]?=some (.cells cs t f))
  (h1:t≠112) (h2:t≠217) (h3:t≠107) (h4:t≠3) (h5:t≠2):FarR g vc vo vx b:=by
 obtain ⟨n,D,F⟩:=H.fld
 exact ⟨blk_ne hb H.run h1,blk_ne hb H.hp h2,map_ne hb F.own,own_far H.calls hb h3,own_far H.obs hb h4,own_far H.out hb h5⟩
theorem CA.far {s:Nat} {w0 w:World} {g:Mg} {h:Hp} {qs:List Qb} {vc vo vx:Value} (H:RH s w0 g w h qs vc vo vx) {a:Mc} {c:Cal} {l:List Va} {vs:Value} (K:CA w0 g w a c l vs) :
  FarR g vc vo vx a.q∧FarR g vc vo vx a.lb∧(∀b,vs.ownBlock=some b→FarR g vc vo vx b)∧FarR g vc vo vx a.bx:=by
 refine ⟨H.far K.blk (by decide) (by decide) (by decide) (by decide) (by decide),H.far K.loc (by decide) (by decide) (by decide) (by decide) (by decide),fun b hb=>?_,H.far K.box (by decide) (by decide) (by decide) (by decide) (by decide)⟩
 rcases K.stk.2 with ⟨rfl,-⟩|⟨gb,cap,cur,rfl,h2,h3,h4⟩
 ·simp [Value.ownBlock] at hb
 ·simp [Value.ownBlock] at hb
  subst hb
  exact H.far h3 (by decide) (by decide) (by decide) (by decide) (by decide)
theorem CA.farC {s:Nat} {w0 w:World} {g:Mg} {h:Hp} {qs:List Qb} {vc vo vx:Value} (H:RH s w0 g w h qs vc vo vx) {a:Mc} {c:Cal} {l:List Va} {vs:Value} (K:CA w0 g w a c l vs) :
  FarC a vs g.r∧FarC a vs g.hb∧FarC a vs g.mp∧(∀b,vc.ownBlock=some b→FarC a vs b)∧(∀b,vo.ownBlock=some b→FarC a vs b)∧(∀b,vx.ownBlock=some b→FarC a vs b):=by
 obtain ⟨f1,f2,f3,f4⟩:=K.far H
 refine ⟨⟨Ne.symm f1.r,Ne.symm f2.r,fun e=>(f3 _ e).r rfl,Ne.symm f4.r⟩,⟨Ne.symm f1.h,Ne.symm f2.h,fun e=>(f3 _ e).h rfl,Ne.symm f4.h⟩,⟨Ne.symm f1.m,Ne.symm f2.m,fun e=>(f3 _ e).m rfl,Ne.symm f4.m⟩,?_,?_,?_⟩
 ·exact fun b e=>⟨fun q=>f1.c (q▸e),fun q=>f2.c (q▸e),fun q=>(f3 _ q).c e,fun q=>f4.c (q▸e)⟩
 ·exact fun b e=>⟨fun q=>f1.o (q▸e),fun q=>f2.o (q▸e),fun q=>(f3 _ q).o e,fun q=>f4.o (q▸e)⟩
 ·exact fun b e=>⟨fun q=>f1.x (q▸e),fun q=>f2.x (q▸e),fun q=>(f3 _ q).x e,fun q=>f4.x (q▸e)⟩
theorem RXA.bl {s:Nat} {X:Nat→Prop} {wx w0 w w':World} {g:Mg} {h:Hp} {qs:List Qb} {a:Mc} {c:Cal} {vc vo vx vs:Value} {l:List Va} (H:RXA s X wx w0 g w h qs a c vc vo vx vs l) (hb:Bl w w'):RXA s X wx w0 g w' h qs a c vc vo vx vs l :=
 ⟨H.rh.kept (grown_bl hb none) (fun b e=>by cases e),H.ca.kept (grown_bl hb none) (fun b e=>by cases e),H.farr,H.farc,H.kept.kept (grown_bl hb none) (fun b e=>by cases e)⟩
theorem RX.bl {s:Nat} {X:Nat→Prop} {wx w0 w w':World} {g:Mg} {h:Hp} {qs:List Qb} {a:Mc} {c:Cal} (H:RX s X wx w0 g w h qs a c) (hb:Bl w w'):RX s X wx w0 g w' h qs a c:=by
 obtain ⟨vc,vo,vx,vs,l,H⟩:=H
 exact ⟨vc,vo,vx,vs,l,H.bl hb⟩
theorem HX.bl {s:Nat} {X:Nat→Prop} {wx w0 w w':World} {g:Mg} {h:Hp} {qs:List Qb} (H:HX s X wx w0 g w h qs) (hb:Bl w w'):HX s X wx w0 g w' h qs:=by
 obtain ⟨vc,vo,vx,H,f,k⟩:=H
 exact ⟨vc,vo,vx,H.kept (grown_bl hb none) (fun b e=>by cases e),f,k.kept (grown_bl hb none) (fun b e=>by cases e)⟩
structure Kp (n:Nat) (w w':World):Prop where
 size:w.heap.size≤w'.heap.size
 blk:∀b,n≤b→b<w.heap.size→w'.heap[b]?=w.heap[b]?
def Xp (X:Nat→Prop) (n m:Nat):Nat→Prop:=fun b=>X b∨(n≤b∧b<m)
theorem row_lt {w:World} {base:Nat} {e:TypeId} {size n:Nat} {v:Value} {xs:List Value} (h:w.ownsRow base e size v n xs) {b:Nat} (hb:v.ownBlock=some b):b<w.heap.size:=by
 rcases h.2 with ⟨rfl,-⟩|⟨gb,cap,cur,rfl,h2,h3,h4⟩
 ·simp [Value.ownBlock] at hb
 ·simp [Value.ownBlock] at hb;subst hb;exact lt_some h3
theorem RH.farNew {s:Nat} {w0 w:World} {g:Mg} {h:Hp} {qs:List Qb} {vc vo vx:Value} (H:RH s w0 g w h qs vc vo vx) {b:Nat} (hb:w.heap.size≤b):FarR g vc vo vx b:=by
 obtain ⟨n,D,F⟩:=H.fld
 have h1:=lt_some H.run
 have h2:=lt_some H.hp
 have h3:=F.own.lt
 exact ⟨by omega,by omega,by omega,fun e=>by have:=row_lt H.calls e;omega,fun e=>by have:=row_lt H.obs e;omega,fun e=>by have:=row_lt H.out e;omega⟩
theorem CA.farNew {w0 w:World} {g:Mg} {a:Mc} {c:Cal} {l:List Va} {vs:Value} (K:CA w0 g w a c l vs) {b:Nat} (hb:w.heap.size≤b):FarC a vs b:=by
 have h1:=lt_some K.blk
 have h2:=lt_some K.loc
 have h3:=lt_some K.box
 exact ⟨by omega,by omega,fun e=>by have:=row_lt K.stk e;omega,by omega⟩
theorem RX.wide {s:Nat} {X:Nat→Prop} {wx w0 w w':World} {g:Mg} {h:Hp} {qs:List Qb} {a:Mc} {c:Cal} (H:RX s X wx w0 g w h qs a c) (hb:Bl w w'):RX s (Xp X w.heap.size w'.heap.size) w' w0 g w' h qs a c:=by
 obtain ⟨vc,vo,vx,vs,l,H⟩:=H
 have H':=H.bl hb
 refine ⟨vc,vo,vx,vs,l,H'.rh,H'.ca,?_,?_,⟨Nat.le_refl _,fun b hx=>⟨?_,rfl⟩⟩⟩
 ·rintro b (hx|hx)
  ·exact H.farr b hx
  ·exact H.rh.farNew hx.1
 ·rintro b (hx|hx)
  ·exact H.farc b hx
  ·exact H.ca.farNew hx.1
 ·rcases hx with hx|hx
  ·have:=(H'.kept.blk b hx).1;have:=H'.kept.size;omega
  ·exact hx.2
theorem RX.back {s s':Nat} {X:Nat→Prop} {wx w0 w w' w2:World} {g:Mg} {h h':Hp} {qs qs':List Qb} {a a':Mc} {c c':Cal} (H:RX s X wx w0 g w h qs a c) (hb:Bl w w') (H2:RX s' (Xp X w.heap.size w'.heap.size) w' w0 g w2 h' qs' a' c') :
  RX s' X wx w0 g w2 h' qs' a' c'∧Kp w.heap.size w' w2:=by
 obtain ⟨vc,vo,vx,vs,l,H⟩:=H
 obtain ⟨vc',vo',vx',vs',l',H2⟩:=H2
 have H':=H.bl hb
 refine ⟨⟨vc',vo',vx',vs',l',H2.rh,H2.ca,fun b hx=>H2.farr b (Or.inl hx),fun b hx=>H2.farc b (Or.inl hx),Nat.le_trans H'.kept.size H2.kept.size,fun b hx=>⟨(H.kept.blk b hx).1,?_⟩⟩,H2.kept.size,fun b h1 h2=>(H2.kept.blk b (Or.inr ⟨h1,h2⟩)).2⟩
 rw [(H2.kept.blk b (Or.inl hx)).2]
 exact (H'.kept.blk b hx).2
theorem RX.use {s:Nat} {X:Nat→Prop} {wx w0 w w':World} {g:Mg} {h:Hp} {qs:List Qb} {a:Mc} {c:Cal} (H:RX s X wx w0 g w h qs a c) (hb:Bl w w') {f:FuncId} {args:Array Value} {Q:Ending→Prop} {s':Nat} {h':Hp} {qs':List Qb} {P:Cal→Prop}
  (hc:∀X wx w,RX s X wx w0 g w h qs a c→Calls Tryz.prog f args w fun e w2=>Q e∧∃c',P c'∧RX s' X wx w0 g w2 h' qs' a c') :
  Calls Tryz.prog f args w' fun e w2=>Q e∧(∃c',P c'∧RX s' X wx w0 g w2 h' qs' a c')∧Kp w.heap.size w' w2:=by
 refine (hc _ _ _ (H.wide hb)).mono ?_
 rintro e w2 ⟨he,c',hp,H2⟩
 obtain ⟨h3,h4⟩:=H.back hb H2
 exact ⟨he,⟨c',hp,h3⟩,h4⟩
end
structure CallCells (g:Mg) (w:World) (a:Mc) (c:Cal) (vs:Value):Prop where
 c0:w.cell? ⟨a.q,0,none⟩=some (.pointer (some ⟨g.hb,0,none⟩))
 c1:w.cell? ⟨a.q,1,none⟩=some (.pointer (some ⟨g.r,0,none⟩))
 c2:w.cell? ⟨a.q,2,none⟩=some (.slice a.P c.m.params.length a.p)
 c3:w.cell? ⟨a.q,3,none⟩=some (.int .i64 c.m.ret.kind)
 c4:w.cell? ⟨a.q,4,none⟩=some (.int .i64 c.m.ret.cls)
 c5:w.cell? ⟨a.q,5,none⟩=some (.int .i64 c.m.stack)
 c6:w.cell? ⟨a.q,6,none⟩=some (.int .i64 c.m.locs)
 c7:w.cell? ⟨a.q,7,none⟩=some (.int .i64 c.m.regs)
 c8:w.cell? ⟨a.q,8,none⟩=some (.slice a.C c.m.code.length a.c)
 c9:w.cell? ⟨a.q,9,none⟩=some (.slice a.K c.m.hands.length a.k)
 c10:w.cell? ⟨a.q,10,none⟩=some (.slice (some ⟨a.lb,0,none⟩) c.locs.length a.lc)
 c11:w.cell? ⟨a.q,11,none⟩=some (.int .i64 c.pc)
 c12:w.cell? ⟨a.q,12,none⟩=some (.int .i64 c.giv.kind)
 c13:w.cell? ⟨a.q,13,none⟩=some (.int .i64 (im c.giv).n)
 c14:w.cell? ⟨a.q,14,none⟩=some (.int .i64 c.cau.kind)
 c15:w.cell? ⟨a.q,15,none⟩=some (.int .i64 (im c.cau).n)
theorem CA.cells {w0 w:World} {g:Mg} {a:Mc} {c:Cal} {l:List Va} {vs:Value} (H:CA w0 g w a c l vs):CallCells g w a c vs:=by
 constructor<;>(rw [cell_blk H.blk];rfl)
theorem CA.free {w0 w:World} {g:Mg} {a:Mc} {c:Cal} {l:List Va} {vs:Value} (H:CA w0 g w a c l vs) (i:Nat):w.frozen? ⟨a.q,i,none⟩=false:=free_blk H.blk i
theorem RXA.setQ {s:Nat} {X:Nat→Prop} {wx w0 w w':World} {g:Mg} {h:Hp} {qs:List Qb} {a:Mc} {c c':Cal} {vc vo vx vs:Value} {l:List Va} (H:RXA s X wx w0 g w h qs a c vc vo vx vs l)
  (hg:w.grownBy w' (some a.q)) (hblk:w'.heap[a.q]?=some (.cells (callRow g a c' vs) 119 (0,0))) (hl:c'.locs=c.locs) (hm:c'.m=c.m)
  (hkd:(0≤c'.giv.kind∧c'.giv.kind≤3)∧(0≤c'.cau.kind∧c'.cau.kind≤3)):RXA s X wx w0 g w' h qs a c' vc vo vx vs l:=by
 have hf:=(H.ca.far H.rh).1
 have hql:a.q≠a.lb:=blk_ne H.ca.blk H.ca.loc (by decide)
 have hqb:a.q≠a.bx:=blk_ne H.ca.blk H.ca.box (by decide)
 refine ⟨H.rh.kept hg (fun b e=>?_),⟨H.ca.own,H.ca.ownl,H.ca.ownb,hblk,?_,?_,by rw [hl];exact H.ca.rel,H.ca.stk.kept hg ?_,H.ca.apart,by rw [hm];exact H.ca.me,by rw [hl];exact H.ca.short,hkd⟩,H.farr,H.farc,H.kept.kept hg (fun b e hx=>?_)⟩
 ·cases e;exact ⟨H.ca.own,hf⟩
 ·exact grown_blk hg H.ca.box (fun e=>hqb (Option.some.inj e))
 ·exact grown_blk hg H.ca.loc (fun e=>hql (Option.some.inj e))
 ·right;exact own_far H.ca.stk H.ca.blk (by decide)
 ·cases e;exact (H.farc a.q hx).q rfl
structure HRd (w:World) (g:Mg) (h:Hp):Prop where
 A:w.cell? ⟨g.hb,0,none⟩=some (.slice g.A h.file.classes.length g.a)
 O:h.objs.length=0∨∃gb cap,w.cell? ⟨g.hb,1,none⟩=some (.slice (some ⟨gb,0,none⟩) h.objs.length cap)∧∀i,i<h.objs.length→w.cell? ⟨gb,i,none⟩=some (.int .i64 (nth ob0 h.objs i).cls)
 cls:ClsAt w g.A h.file.classes
 may:mayB h.file.classes=true
 few:h.objs.length≤100
theorem HRd.bl {w w':World} {g:Mg} {h:Hp} (H:HRd w g h) (hb:Bl w w'):HRd w' g h:=by
 refine ⟨hb.cell H.A,?_,H.cls.bl hb,H.may,H.few⟩
 rcases H.O with h0|⟨gb,cap,h1,h2⟩
 ·exact Or.inl h0
 ·exact Or.inr ⟨gb,cap,hb.cell h1,fun i hi=>hb.cell (h2 i hi)⟩
structure Fix (w0:World) (g:Mg) (h:Hp):Prop where
 cls:ClsAt w0 g.A h.file.classes
 mes:MesAt w0 g.M h.file.methods
 inp:IntsAt w0 g.I h.input
 may:mayB h.file.classes=true
theorem RH.rd {s:Nat} {w0 w:World} {g:Mg} {h:Hp} {qs:List Qb} {vc vo vx:Value} (H:RH s w0 g w h qs vc vo vx) (F:Fix w0 g h) (hf:h.objs.length≤100):HRd w g h:=by
 refine ⟨by rw [cell_blk H.hp];rfl,?_,F.cls.bl H.bl,F.may,hf⟩
 rcases H.obs.2 with ⟨h1,h0⟩|⟨gb,cap,cur,rfl,h2,h3,h4,h5,h6,h7⟩
 ·exact Or.inl h0
 ·refine Or.inr ⟨gb,cap,by rw [cell_blk H.hp];rfl,fun i hi=>?_⟩
  have e:(h.objs.map (fun o=>Value.int .i64 o.cls))[i]?=some (.int .i64 (nth ob0 h.objs i).cls):=by
   rw [List.getElem?_map,List.getElem?_eq_getElem hi,nth_get hi];rfl
  rw [←h7,List.getElem?_take,if_pos (by omega)] at e
  rw [cell_blk h3]
  simpa using e
theorem RX.rd {s:Nat} {X:Nat→Prop} {wx w0 w:World} {g:Mg} {h:Hp} {qs:List Qb} {a:Mc} {c:Cal} (H:RX s X wx w0 g w h qs a c) (F:Fix w0 g h) (hf:h.objs.length≤100):HRd w g h:=by
 obtain ⟨vc,vo,vx,vs,l,H⟩:=H
 exact H.rh.rd F hf
theorem nothing_any (w:World):Calls Tryz.prog 200 #[] w fun e w'=>e=.returned (mvV ⟨3,0⟩)∧Bl w w':=by
 go_enter Tryz.func200,Tryz.ntmps200
 go_wp2
 refine bodyPost_ret (results_cell_row rfl _ _ w.heap.size _ _ _ _ rfl (blk_new _ _ _) Tryz.underlying115 rfl info_mv) rfl ?_
 exact ⟨rfl,(Bl.refl w).alloc _⟩
def isN (u:Va):Bool:=decide (u.kind=3)&&decide (u.n=0)
theorem mv_fields:Tryz.prog.underlying 115=some (.struct (Tryz.prog.fieldsOf 115)):=by kernel_rfl
theorem mv_held:Tryz.prog.stoodInHeld 115=false:=by kernel_rfl
theorem eql_mv (a b c d:Int) (w:World):(binOp .eql 115 (.agg #[.int .i64 a,.int .i64 b]) (.agg #[.int .i64 c,.int .i64 d])).run Tryz.prog w=.ok (.bool (decide (a=c)&&decide (b=d))) w:=by
 rw [run_eql_struct,run_equalIn_agg w 9999 _ _ _ mv_fields mv_held]
 simp [go_sem,Tryz.underlying115,Tryz.underlying3,Tryz.underlying2]
 by_cases h1:a=c<;>by_cases h2:b=d<;>simp [h1,h2]
theorem isNothing_any (u:Va) (w:World):Calls Tryz.prog 138 #[mvV u] w fun e w'=>e=.returned (.bool (isN u))∧Bl w w':=by
 have HB:Hid (Bl w (w.alloc (.cells #[.int .i64 u.kind,.int .i64 u.n] 115))):=(Bl.refl w).alloc _
 have hq:=fun w=>eql_mv u.kind u.n 3 0 w
 go_enter Tryz.func138,Tryz.ntmps138
 go_wp2
 have x0:∀x:Fut (w.alloc (.cells #[.int .i64 u.kind,.int .i64 u.n] 115)),x.to.cell? ⟨w.heap.size,0,none⟩=some (.int .i64 u.kind):=fut_cell (cell_of_new rfl)
 have x1:∀x:Fut (w.alloc (.cells #[.int .i64 u.kind,.int .i64 u.n] 115)),x.to.cell? ⟨w.heap.size,1,none⟩=some (.int .i64 u.n):=fut_cell (cell_of_new rfl)
 refine wp_region_fut (by kernel_rfl) (by kernel_rfl) fun hne=>?_
 repeat (go_big_quiet_step ((go_at_call 200;exact Calls.fut_eq _ (nothing_any _) rfl)))
 refine wpQuiet_nil ?_
 rintro _ ⟨⟨w2,hw2⟩,rfl⟩
 clear x0 x1 hne
 go_wp2
 go_ret
 exact ⟨rfl,HB.out.trans hw2⟩
theorem classOf_any (g:Mg) (h:Hp) (n:Nat) (w:World) (R:HRd w g h) (hn:n<h.objs.length) :
  Calls Tryz.prog 150 #[.pointer (some ⟨g.hb,0,none⟩),mvV ⟨3,(n:Int)+1⟩] w fun e w'=>e=.returned (.int .i64 (nth ob0 h.objs n).cls)∧Bl w w':=by
 rcases R.O with h0|⟨gb,cap,h1,h2⟩
 ·omega
 have h3:=h2 n hn
 have hf:=R.few
 have hq:=cell_lt h1
 have hgb:=cell_lt h3
 have hw:IntKind.i64.wrap (n:Int)=(n:Int):=by rw [IntKind.wrap_i64];omega
 have hs:((n:Int)+1-1)=(n:Int):=by omega
 have hn0:(0:Int)≤(n:Int):=by omega
 have hn1:(n:Int)<(h.objs.length:Int):=by omega
 clear R h2
 go_enter Tryz.func150,Tryz.ntmps150
 go_wp2
 go_quiet (fail)
 go_wp2
 go_ret
 exact ⟨rfl,by repeat (first|exact Bl.refl _|apply Bl.drew|apply bl_drewN|apply Bl.alloc)⟩
theorem isN_yes {v:Va} (hk:v.kind=3) (hv:v.n=-1):isN (im v)=true:=by rw [im_ref hk,hv];rfl
theorem isN_no {v:Va} (hk:v.kind=3) (hv:0≤v.n):isN (im v)=false:=by
 rw [im_ref hk]
 have:¬v.n+1=0:=by omega
 simp [isN,this]
theorem belI_V {l:List Cl} (h:mayB l=true) (x y:Int):belV l x y=belI l x y:=by unfold belV belI;rw [h,Bool.true_and]
theorem mbelow_yes (g:Mg) (h:Hp) (v:Va) (c:Int) (w:World) (R:HRd w g h) (hk:v.kind=3) (hv:0≤v.n) (hn:v.n<h.objs.length) :
  Calls Tryz.prog 210 #[.pointer (some ⟨g.hb,0,none⟩),mvV (im v),.int .i64 c] w fun e w'=>e=.returned (.bool (belI h.file.classes (h.obj v.n).cls c))∧Bl w w':=by
 have HN:Hid (isN (im v)=false):=isN_no hk hv
 obtain ⟨n,hn'⟩:∃n:Nat,v.n=n:=⟨v.n.toNat,by omega⟩
 have hnl:n<h.objs.length:=by omega
 have ho:h.obj v.n=nth ob0 h.objs n:=by unfold Hp.obj;rw [hn',Int.toNat_natCast]
 have e:im v=⟨3,(n:Int)+1⟩:=by rw [im_ref hk,hn']
 rw [ho]
 rw [e] at HN ⊢
 generalize hU:(n:Int)+1=u at HN
 have HB:Hid (Bl w (w.alloc (.cells #[.int .i64 3,.int .i64 u] 115))):=(Bl.refl w).alloc _
 have HR:Hid (HRd (w.alloc (.cells #[.int .i64 3,.int .i64 u] 115)) g h):=R.bl HB.out
 have x2:∀x:Fut (w.alloc (.cells #[.int .i64 3,.int .i64 u] 115)),x.to.cell? ⟨g.hb,0,none⟩=some (.slice g.A h.file.classes.length g.a):=fut_cell HR.out.A
 have HU:Hid ((n:Int)+1=u):=hU
 obtain ⟨O,hO⟩:∃O,(nth ob0 h.objs n).cls=O:=⟨_,rfl⟩
 have HO:Hid ((nth ob0 h.objs n).cls=O):=hO
 rw [hO]
 have HV:Hid (belV h.file.classes O c=belI h.file.classes O c):=belI_V R.may O c
 obtain ⟨z,hz⟩:∃z,belI h.file.classes O c=z:=⟨_,rfl⟩
 rw [hz] at HV ⊢
 clear R hk hv hn hn' ho e hU hO hz
 go_enter Tryz.func210,Tryz.ntmps210
 go_wp2
 have x0:∀x:Fut (w.alloc (.cells #[.int .i64 3,.int .i64 u] 115)),x.to.cell? ⟨w.heap.size,0,none⟩=some (.int .i64 3):=fut_cell (cell_of_new rfl)
 have x1:∀x:Fut (w.alloc (.cells #[.int .i64 3,.int .i64 u] 115)),x.to.cell? ⟨w.heap.size,1,none⟩=some (.int .i64 u):=fut_cell (cell_of_new rfl)
 refine wp_region_fut (by kernel_rfl) (by kernel_rfl) fun hne=>?_
 repeat (go_big_quiet_step ((first
  | (go_at_call 138;exact Calls.fut_eq _ (isNothing_any ⟨3,u⟩ _) (congrArg Value.bool HN.out))
  | (go_at_call 150;rename_i xx;have hcc:=classOf_any g h n xx.to (HR.out.bl xx.is) hnl;rw [HU.out,HO.out] at hcc;exact Calls.fut_eq _ hcc rfl)
  | (go_at_call 270;rename_i xx;exact Calls.fut_eq _ (hbelow_any _ _ _ _ _ _ (HR.out.cls.bl xx.is)) (congrArg Value.bool HV.out)))))
 refine wpQuiet_nil ?_
 rintro _ ⟨⟨w2,hw2⟩,rfl⟩
 clear x0 x1 x2 hne
 go_wp2
 go_ret
 exact ⟨rfl,HB.out.trans hw2⟩
theorem mbelow_no (g:Mg) (h:Hp) (v:Va) (c:Int) (w:World) (hk:v.kind=3) (hv:v.n=-1) :
  Calls Tryz.prog 210 #[.pointer (some ⟨g.hb,0,none⟩),mvV (im v),.int .i64 c] w fun e w'=>e=.returned (.bool false)∧Bl w w':=by
 have HN:Hid (isN (im v)=true):=isN_yes hk hv
 have e:im v=⟨3,0⟩:=by rw [im_ref hk,hv];rfl
 rw [e] at HN ⊢
 have HB:Hid (Bl w (w.alloc (.cells #[.int .i64 3,.int .i64 0] 115))):=(Bl.refl w).alloc _
 clear hk hv e
 go_enter Tryz.func210,Tryz.ntmps210
 go_wp2
 have x0:∀x:Fut (w.alloc (.cells #[.int .i64 3,.int .i64 0] 115)),x.to.cell? ⟨w.heap.size,0,none⟩=some (.int .i64 3):=fut_cell (cell_of_new rfl)
 have x1:∀x:Fut (w.alloc (.cells #[.int .i64 3,.int .i64 0] 115)),x.to.cell? ⟨w.heap.size,1,none⟩=some (.int .i64 0):=fut_cell (cell_of_new rfl)
 refine wp_region_fut (by kernel_rfl) (by kernel_rfl) fun hne=>?_
 repeat (go_big_quiet_step ((go_at_call 138;exact Calls.fut_eq _ (isNothing_any ⟨3,0⟩ _) (congrArg Value.bool HN.out))))
 refine wpQuiet_nil ?_
 rintro _ ⟨⟨w2,hw2⟩,rfl⟩
 clear x0 x1 hne
 go_wp2
 go_ret
 exact ⟨rfl,HB.out.trans hw2⟩
theorem mbelow_any (g:Mg) (h:Hp) (v:Va) (c:Int) (w:World) (R:HRd w g h) (hk:v.kind=3) (hv:-1≤v.n) (hn:v.n<h.objs.length) :
  Calls Tryz.prog 210 #[.pointer (some ⟨g.hb,0,none⟩),mvV (im v),.int .i64 c] w fun e w'=>e=.returned (.bool (decide (0≤v.n)&&belI h.file.classes (h.obj v.n).cls c))∧Bl w w':=by
 by_cases h0:0≤v.n
 ·rw [decide_eq_true h0,Bool.true_and]
  exact mbelow_yes g h v c w R hk h0 hn
 ·rw [decide_eq_false h0,Bool.false_and]
  exact mbelow_no g h v c w hk (by omega)
theorem mfit_num (g:Mg) (h:Hp) (v:Va) (t:Ty) (w:World) (R:HRd w g h) (hk:v.kind=t.kind) (h3:t.kind≠3) :
  Calls Tryz.prog 262 #[.pointer (some ⟨g.hb,0,none⟩),mvV (im v),tyMV t] w fun e w'=>e=.returned (mvV (im v))∧Bl w w':=by
 obtain ⟨L0,L1,L2⟩:=three_lie w #[.int .i64 (im v).kind,.int .i64 (im v).n] #[.int .i64 t.kind,.int .i64 t.cls] #[.int .i64 0,.int .i64 0] 115 46 115
 have HB:Hid (Bl w (((w.alloc (mvO (im v))).alloc (tyMO t)).alloc mvZ)):=(((Bl.refl w).alloc _).alloc _).alloc _
 have HR:Hid (HRd w g h):=R
 obtain ⟨W,hW⟩:∃W,W=(((w.alloc (mvO (im v))).alloc (tyMO t)).alloc mvZ):=⟨_,rfl⟩
 rw [←hW] at HB L0 L1 L2
 have HW:Hid (W=(((w.alloc (mvO (im v))).alloc (tyMO t)).alloc mvZ)):=hW
 have HL0:Hid (W.heap[w.heap.size]?=some (.cells #[.int .i64 (im v).kind,.int .i64 (im v).n] 115 (0,0))):=L0
 have HL1:Hid (W.heap[w.heap.size+1]?=some (.cells #[.int .i64 t.kind,.int .i64 t.cls] 46 (0,0))):=L1
 have HL2:Hid (W.heap[w.heap.size+1+1]?=some (.cells #[.int .i64 0,.int .i64 0] 115 (0,0))):=L2
 clear R L0 L1 L2 hW
 have Hk:Hid ((im v).kind=t.kind):=hk
 have hd:decide (t.kind=3)=false:=decide_eq_false h3
 have hb:(t.kind==3)=false:=by simpa using h3
 clear hk h3
 go_enter Tryz.func262,Tryz.ntmps262
 go_wp2_with (go_at_call 261;rw [←HW.out];refine (mustbe_yes (im v) t.kind _ Hk.out).mono ?_;rintro e w1 ⟨rfl,b1⟩;have q0:=bl_blk b1 HL0.out;have q1:=bl_blk b1 HL1.out;have q2:=bl_blk b1 HL2.out;have c0:=c0_of q0;have c1:=c1_of q0;have c2:=c0_of q1;have c3:=c1_of q1;have c4:=c0_of q2;have c5:=c1_of q2;have fz:=free_blk q2;replace q0:=hid q0;replace q1:=hid q1;replace q2:=hid q2;replace b1:=hid b1)
 refine bodyPost_ret (results_cell_row rfl _ _ (w.heap.size+1+1) _ _ _ _ rfl (set_two q2.out) Tryz.underlying115 rfl info_mv) rfl ?_
 exact ⟨rfl,bl_two (HB.out.trans b1.out) (by omega) _ _⟩
theorem mfit_nil (g:Mg) (h:Hp) (v:Va) (t:Ty) (w:World) (R:HRd w g h) (hk:v.kind=3) (h3:t.kind=3) (hv:v.n=-1) :
  Calls Tryz.prog 262 #[.pointer (some ⟨g.hb,0,none⟩),mvV (im v),tyMV t] w fun e w'=>e=.returned (mvV (im v))∧Bl w w':=by
 obtain ⟨L0,L1,L2⟩:=three_lie w #[.int .i64 (im v).kind,.int .i64 (im v).n] #[.int .i64 t.kind,.int .i64 t.cls] #[.int .i64 0,.int .i64 0] 115 46 115
 have HB:Hid (Bl w (((w.alloc (mvO (im v))).alloc (tyMO t)).alloc mvZ)):=(((Bl.refl w).alloc _).alloc _).alloc _
 have HR:Hid (HRd w g h):=R
 obtain ⟨W,hW⟩:∃W,W=(((w.alloc (mvO (im v))).alloc (tyMO t)).alloc mvZ):=⟨_,rfl⟩
 rw [←hW] at HB L0 L1 L2
 have HW:Hid (W=(((w.alloc (mvO (im v))).alloc (tyMO t)).alloc mvZ)):=hW
 have HL0:Hid (W.heap[w.heap.size]?=some (.cells #[.int .i64 (im v).kind,.int .i64 (im v).n] 115 (0,0))):=L0
 have HL1:Hid (W.heap[w.heap.size+1]?=some (.cells #[.int .i64 t.kind,.int .i64 t.cls] 46 (0,0))):=L1
 have HL2:Hid (W.heap[w.heap.size+1+1]?=some (.cells #[.int .i64 0,.int .i64 0] 115 (0,0))):=L2
 clear R L0 L1 L2 hW
 have Hk:Hid ((im v).kind=t.kind):=by rw [h3];exact hk
 have HN:Hid (isN (im v)=true):=isN_yes hk hv
 have hd:decide (t.kind=3)=true:=decide_eq_true h3
 have hb:(t.kind==3)=true:=by simpa using h3
 clear hk h3
 go_enter Tryz.func262,Tryz.ntmps262
 go_wp2_with (first|(go_at_call 261;rw [←HW.out];refine (mustbe_yes (im v) t.kind _ Hk.out).mono ?_;rintro e w1 ⟨rfl,b1⟩;have q0:=bl_blk b1 HL0.out;have q1:=bl_blk b1 HL1.out;have q2:=bl_blk b1 HL2.out;have c0:=c0_of q0;have c1:=c1_of q0;have c2:=c0_of q1;have c3:=c1_of q1;have c4:=c0_of q2;have c5:=c1_of q2;have fz:=free_blk q2;replace q0:=hid q0;replace q1:=hid q1;replace q2:=hid q2;replace b1:=hid b1)|(go_at_call 138;refine (isNothing_any (im v) _).mono ?_;rintro e w2 ⟨he,b2⟩;rw [HN.out] at he;subst he;replace q0:=hid (bl_blk b2 q0.out);replace q1:=hid (bl_blk b2 q1.out);replace q2:=hid (bl_blk b2 q2.out);replace b1:=hid (b1.out.trans b2);clear c0 c1 c2 c3 c4 c5 fz;have c0:=c0_of q0.out;have c1:=c1_of q0.out;have c2:=c0_of q1.out;have c3:=c1_of q1.out;have c4:=c0_of q2.out;have c5:=c1_of q2.out;have fz:=free_blk q2.out))
 refine bodyPost_ret (results_cell_row rfl _ _ (w.heap.size+1+1) _ _ _ _ rfl (set_two q2.out) Tryz.underlying115 rfl info_mv) rfl ?_
 exact ⟨rfl,bl_two (HB.out.trans b1.out) (by omega) _ _⟩
theorem mfit_ref (g:Mg) (h:Hp) (v:Va) (t:Ty) (w:World) (R:HRd w g h) (hk:v.kind=3) (h3:t.kind=3) (hv:0≤v.n) (hn:v.n<h.objs.length) (hz:belI h.file.classes (h.obj v.n).cls t.cls=true) :
  Calls Tryz.prog 262 #[.pointer (some ⟨g.hb,0,none⟩),mvV (im v),tyMV t] w fun e w'=>e=.returned (mvV (im v))∧Bl w w':=by
 obtain ⟨L0,L1,L2⟩:=three_lie w #[.int .i64 (im v).kind,.int .i64 (im v).n] #[.int .i64 t.kind,.int .i64 t.cls] #[.int .i64 0,.int .i64 0] 115 46 115
 have HB:Hid (Bl w (((w.alloc (mvO (im v))).alloc (tyMO t)).alloc mvZ)):=(((Bl.refl w).alloc _).alloc _).alloc _
 have HR:Hid (HRd w g h):=R
 obtain ⟨W,hW⟩:∃W,W=(((w.alloc (mvO (im v))).alloc (tyMO t)).alloc mvZ):=⟨_,rfl⟩
 rw [←hW] at HB L0 L1 L2
 have HW:Hid (W=(((w.alloc (mvO (im v))).alloc (tyMO t)).alloc mvZ)):=hW
 have HL0:Hid (W.heap[w.heap.size]?=some (.cells #[.int .i64 (im v).kind,.int .i64 (im v).n] 115 (0,0))):=L0
 have HL1:Hid (W.heap[w.heap.size+1]?=some (.cells #[.int .i64 t.kind,.int .i64 t.cls] 46 (0,0))):=L1
 have HL2:Hid (W.heap[w.heap.size+1+1]?=some (.cells #[.int .i64 0,.int .i64 0] 115 (0,0))):=L2
 clear R L0 L1 L2 hW
 have Hk:Hid ((im v).kind=t.kind):=by rw [h3];exact hk
 have HV:Hid (v.kind=3∧0≤v.n∧v.n<h.objs.length):=⟨hk,hv,hn⟩
 have HN:Hid (isN (im v)=false):=isN_no hk hv
 have HZ:Hid (belI h.file.classes (h.obj v.n).cls t.cls=true):=hz
 have hd:decide (t.kind=3)=true:=decide_eq_true h3
 have hb:(t.kind==3)=true:=by simpa using h3
 clear hk h3 hv hn hz
 go_enter Tryz.func262,Tryz.ntmps262
 go_wp2_with (first|(go_at_call 261;rw [←HW.out];refine (mustbe_yes (im v) t.kind _ Hk.out).mono ?_;rintro e w1 ⟨rfl,b1⟩;have q0:=bl_blk b1 HL0.out;have q1:=bl_blk b1 HL1.out;have q2:=bl_blk b1 HL2.out;have c0:=c0_of q0;have c1:=c1_of q0;have c2:=c0_of q1;have c3:=c1_of q1;have c4:=c0_of q2;have c5:=c1_of q2;have fz:=free_blk q2;replace q0:=hid q0;replace q1:=hid q1;replace q2:=hid q2;replace b1:=hid b1)|(go_at_call 138;refine (isNothing_any (im v) _).mono ?_;rintro e w2 ⟨he,b2⟩;rw [HN.out] at he;subst he;replace q0:=hid (bl_blk b2 q0.out);replace q1:=hid (bl_blk b2 q1.out);replace q2:=hid (bl_blk b2 q2.out);replace b1:=hid (b1.out.trans b2);clear c0 c1 c2 c3 c4 c5 fz;have c0:=c0_of q0.out;have c1:=c1_of q0.out;have c2:=c0_of q1.out;have c3:=c1_of q1.out;have c4:=c0_of q2.out;have c5:=c1_of q2.out;have fz:=free_blk q2.out)|(go_at_call 210;refine (mbelow_yes g h v t.cls _ (HR.out.bl (HB.out.trans b1.out)) HV.out.1 HV.out.2.1 HV.out.2.2).mono ?_;rintro e w3 ⟨he,b3⟩;rw [HZ.out] at he;subst he;replace q0:=hid (bl_blk b3 q0.out);replace q1:=hid (bl_blk b3 q1.out);replace q2:=hid (bl_blk b3 q2.out);replace b1:=hid (b1.out.trans b3);clear c0 c1 c2 c3 c4 c5 fz;have c0:=c0_of q0.out;have c1:=c1_of q0.out;have c2:=c0_of q1.out;have c3:=c1_of q1.out;have c4:=c0_of q2.out;have c5:=c1_of q2.out;have fz:=free_blk q2.out))
 refine bodyPost_ret (results_cell_row rfl _ _ (w.heap.size+1+1) _ _ _ _ rfl (set_two q2.out) Tryz.underlying115 rfl info_mv) rfl ?_
 exact ⟨rfl,bl_two (HB.out.trans b1.out) (by omega) _ _⟩
theorem mfit_bad (g:Mg) (h:Hp) (v:Va) (t:Ty) (w:World) (R:HRd w g h) (hk:v.kind=3) (h3:t.kind=3) (hv:0≤v.n) (hn:v.n<h.objs.length) (hz:belI h.file.classes (h.obj v.n).cls t.cls=false) :
  Calls Tryz.prog 262 #[.pointer (some ⟨g.hb,0,none⟩),mvV (im v),tyMV t] w fun e w'=>e=stopE 6 0 0∧Bl w w':=by
 obtain ⟨L0,L1,L2⟩:=three_lie w #[.int .i64 (im v).kind,.int .i64 (im v).n] #[.int .i64 t.kind,.int .i64 t.cls] #[.int .i64 0,.int .i64 0] 115 46 115
 have HB:Hid (Bl w (((w.alloc (mvO (im v))).alloc (tyMO t)).alloc mvZ)):=(((Bl.refl w).alloc _).alloc _).alloc _
 have HR:Hid (HRd w g h):=R
 obtain ⟨W,hW⟩:∃W,W=(((w.alloc (mvO (im v))).alloc (tyMO t)).alloc mvZ):=⟨_,rfl⟩
 rw [←hW] at HB L0 L1 L2
 have HW:Hid (W=(((w.alloc (mvO (im v))).alloc (tyMO t)).alloc mvZ)):=hW
 have HL0:Hid (W.heap[w.heap.size]?=some (.cells #[.int .i64 (im v).kind,.int .i64 (im v).n] 115 (0,0))):=L0
 have HL1:Hid (W.heap[w.heap.size+1]?=some (.cells #[.int .i64 t.kind,.int .i64 t.cls] 46 (0,0))):=L1
 have HL2:Hid (W.heap[w.heap.size+1+1]?=some (.cells #[.int .i64 0,.int .i64 0] 115 (0,0))):=L2
 clear R L0 L1 L2 hW
 have Hk:Hid ((im v).kind=t.kind):=by rw [h3];exact hk
 have HV:Hid (v.kind=3∧0≤v.n∧v.n<h.objs.length):=⟨hk,hv,hn⟩
 have HN:Hid (isN (im v)=false):=isN_no hk hv
 have HZ:Hid (belI h.file.classes (h.obj v.n).cls t.cls=false):=hz
 have hd:decide (t.kind=3)=true:=decide_eq_true h3
 have hb:(t.kind==3)=true:=by simpa using h3
 clear hk h3 hv hn hz
 go_enter Tryz.func262,Tryz.ntmps262
 go_wp2_with (first|(go_at_call 261;rw [←HW.out];refine (mustbe_yes (im v) t.kind _ Hk.out).mono ?_;rintro e w1 ⟨rfl,b1⟩;have q0:=bl_blk b1 HL0.out;have q1:=bl_blk b1 HL1.out;have q2:=bl_blk b1 HL2.out;have c0:=c0_of q0;have c1:=c1_of q0;have c2:=c0_of q1;have c3:=c1_of q1;have c4:=c0_of q2;have c5:=c1_of q2;have fz:=free_blk q2;replace q0:=hid q0;replace q1:=hid q1;replace q2:=hid q2;replace b1:=hid b1)|(go_at_call 138;refine (isNothing_any (im v) _).mono ?_;rintro e w2 ⟨he,b2⟩;rw [HN.out] at he;subst he;replace q0:=hid (bl_blk b2 q0.out);replace q1:=hid (bl_blk b2 q1.out);replace q2:=hid (bl_blk b2 q2.out);replace b1:=hid (b1.out.trans b2);clear c0 c1 c2 c3 c4 c5 fz;have c0:=c0_of q0.out;have c1:=c1_of q0.out;have c2:=c0_of q1.out;have c3:=c1_of q1.out;have c4:=c0_of q2.out;have c5:=c1_of q2.out;have fz:=free_blk q2.out)|(go_at_call 210;refine (mbelow_yes g h v t.cls _ (HR.out.bl (HB.out.trans b1.out)) HV.out.1 HV.out.2.1 HV.out.2.2).mono ?_;rintro e w3 ⟨he,b3⟩;rw [HZ.out] at he;subst he;replace q0:=hid (bl_blk b3 q0.out);replace q1:=hid (bl_blk b3 q1.out);replace q2:=hid (bl_blk b3 q2.out);replace b1:=hid (b1.out.trans b3);clear c0 c1 c2 c3 c4 c5 fz;have c0:=c0_of q0.out;have c1:=c1_of q0.out;have c2:=c0_of q1.out;have c3:=c1_of q1.out;have c4:=c0_of q2.out;have c5:=c1_of q2.out;have fz:=free_blk q2.out)|(go_at_call 134;refine (mstuck_any _).mono ?_;rintro e w4 ⟨rfl,hw⟩;rw [hw];clear hw w4))
 exact ⟨rfl,rfl,HB.out.trans b1.out⟩
theorem mfit_kind (g:Mg) (h:Hp) (v:Va) (t:Ty) (w:World) (R:HRd w g h) (hk:v.kind≠t.kind) :
  Calls Tryz.prog 262 #[.pointer (some ⟨g.hb,0,none⟩),mvV (im v),tyMV t] w fun e w'=>e=stopE 6 0 0∧Bl w w':=by
 obtain ⟨L0,L1,L2⟩:=three_lie w #[.int .i64 (im v).kind,.int .i64 (im v).n] #[.int .i64 t.kind,.int .i64 t.cls] #[.int .i64 0,.int .i64 0] 115 46 115
 have HB:Hid (Bl w (((w.alloc (mvO (im v))).alloc (tyMO t)).alloc mvZ)):=(((Bl.refl w).alloc _).alloc _).alloc _
 have HR:Hid (HRd w g h):=R
 obtain ⟨W,hW⟩:∃W,W=(((w.alloc (mvO (im v))).alloc (tyMO t)).alloc mvZ):=⟨_,rfl⟩
 rw [←hW] at HB L0 L1 L2
 have HW:Hid (W=(((w.alloc (mvO (im v))).alloc (tyMO t)).alloc mvZ)):=hW
 have HL0:Hid (W.heap[w.heap.size]?=some (.cells #[.int .i64 (im v).kind,.int .i64 (im v).n] 115 (0,0))):=L0
 have HL1:Hid (W.heap[w.heap.size+1]?=some (.cells #[.int .i64 t.kind,.int .i64 t.cls] 46 (0,0))):=L1
 have HL2:Hid (W.heap[w.heap.size+1+1]?=some (.cells #[.int .i64 0,.int .i64 0] 115 (0,0))):=L2
 clear R L0 L1 L2 hW
 have Hk:Hid ((im v).kind≠t.kind):=hk
 clear hk
 go_enter Tryz.func262,Tryz.ntmps262
 go_wp2_with (go_at_call 261;rw [←HW.out];refine (mustbe_no (im v) t.kind _ Hk.out).mono ?_;rintro e w1 ⟨rfl,b1⟩;have q0:=bl_blk b1 HL0.out;have q1:=bl_blk b1 HL1.out;have q2:=bl_blk b1 HL2.out;have c0:=c0_of q0;have c1:=c1_of q0;have c2:=c0_of q1;have c3:=c1_of q1;have c4:=c0_of q2;have c5:=c1_of q2;have fz:=free_blk q2;replace q0:=hid q0;replace q1:=hid q1;replace q2:=hid q2;replace b1:=hid b1)
 exact ⟨rfl,rfl,HB.out.trans b1.out⟩
theorem mfit_yes (g:Mg) (h:Hp) (v:Va) (t:Ty) (w:World) (R:HRd w g h) (hv:v.kind=3→-1≤v.n∧v.n<h.objs.length) (ho:h.of v t=true) :
  Calls Tryz.prog 262 #[.pointer (some ⟨g.hb,0,none⟩),mvV (im v),tyMV t] w fun e w'=>e=.returned (mvV (im v))∧Bl w w':=by
 unfold Hp.of at ho
 rw [Bool.and_eq_true,Bool.or_eq_true,Bool.or_eq_true] at ho
 obtain ⟨h1,h2⟩:=ho
 have hk:=of_decide_eq_true h1
 by_cases h3:t.kind=3
 ·have hk3:v.kind=3:=hk.trans h3
  obtain ⟨v1,v2⟩:=hv hk3
  by_cases hn:v.n=-1
  ·exact mfit_nil g h v t w R hk3 h3 hn
  ·refine mfit_ref g h v t w R hk3 h3 (by omega) v2 ?_
   rcases h2 with h2|h2|h2
   ·exact absurd h3 (of_decide_eq_true h2)
   ·have:=of_decide_eq_true h2;omega
   ·exact h2
 ·exact mfit_num g h v t w R hk h3
theorem mfit_no (g:Mg) (h:Hp) (v:Va) (t:Ty) (w:World) (R:HRd w g h) (hv:v.kind=3→-1≤v.n∧v.n<h.objs.length) (ho:h.of v t=false) :
  Calls Tryz.prog 262 #[.pointer (some ⟨g.hb,0,none⟩),mvV (im v),tyMV t] w fun e w'=>e=stopE 6 0 0∧Bl w w':=by
 by_cases hk:v.kind=t.kind
 ·unfold Hp.of at ho
  rw [decide_eq_true hk,Bool.true_and,Bool.or_eq_false_iff,Bool.or_eq_false_iff] at ho
  obtain ⟨h1,h2,h3⟩:=ho
  have ht:t.kind=3:=by simpa using h1
  have hk3:v.kind=3:=hk.trans ht
  have hn:¬v.n<0:=of_decide_eq_false h2
  exact mfit_bad g h v t w R hk3 ht (by omega) (hv hk3).2 h3
 ·exact mfit_kind g h v t w R hk
end Go.Proofs.YtgiiapenmjollabGreat
