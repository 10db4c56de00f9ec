import Derived.Test.YtimjmdfokicbkaaSlaa
import Derived.Test.YtimjmdfokicbkaaSlab
import Derived.Test.YtimjmdfokicbkaaSlae
import Derived.Test.YtimjmdfokicbkaaSlaf
import Derived.Maps.OwnSet
import Derived.Test.YtimjmdfokicbkaaChecked
import Derived.Handy
namespace Go.Proofs.Ytimjmdfokicbkaa
set_option linter.unusedVariables false
set_option linter.unusedSimpArgs false
set_option maxHeartbeats 40000000
open Go.RowKit
section
open Go.Maps (Keyed has)
structure Mg where
 r:Nat
 hb:Nat
 mp:Nat
 A:Option Addr
 a:Nat
 M:Option Addr
 m:Nat
 I:Option Addr
 i:Nat
structure Mc where
 q:Nat
 lb:Nat
 lc:Nat
 P:Option Addr
 p:Nat
 C:Option Addr
 c:Nat
 K:Option Addr
 k:Nat
def runRow (g:Mg) (h:Hp) (vc vx:Value):Array Value :=
 #[.pointer (some ⟨g.hb,0,none⟩),.slice g.M h.file.methods.length g.m,.func (.func 51) #[] #[],vc,.slice g.I h.input.length g.i,.int .i64 h.fuel,.int .i64 h.sh.steps,.int .i64 h.sh.used,vx]
def heapRow (g:Mg) (h:Hp) (vo:Value):Array Value:=#[.slice g.A h.file.classes.length g.a,vo,.map (some g.mp)]
def callRow (g:Mg) (a:Mc) (c:Cal) (vs:Value):Array Value :=
 #[.pointer (some ⟨g.hb,0,none⟩),.pointer (some ⟨g.r,0,none⟩),.slice a.P c.m.params.length a.p,.int .i64 c.m.ret.kind,.int .i64 c.m.ret.cls,.int .i64 c.m.stack,.int .i64 c.m.locs,.int .i64 c.m.regs,.slice a.C c.m.code.length a.c,.slice a.K c.m.hands.length a.k,
  .int .i64 c.pc,.slice (some ⟨a.lb,0,none⟩) c.locs.length a.lc,vs]
def funs (q:Nat):List Value :=
 [.func (.func 66) #[.pointer (some ⟨q,0,none⟩)] #[],.func (.func 67) #[.pointer (some ⟨q,0,none⟩)] #[],.func (.func 68) #[.pointer (some ⟨q,0,none⟩)] #[]]
def callCells:List Nat→List Value
 | []=>[]
 | q::l=>funs q++callCells l
theorem callCells_length (l:List Nat):(callCells l).length=l.length*3:=by
 induction l with
 | nil=>rfl
 | cons x l ih=>simp [callCells,funs,ih];omega
theorem callCells_append (l k:List Nat):callCells (l++k)=callCells l++callCells k:=by
 induction l with
 | nil=>rfl
 | cons x l ih=>simp [callCells,ih]
def mvElem (v:Value):Option (DataW Nat×List MemPlace):=match v with
 | .agg cs=>match cs.toList with
  | [.int .i64 k,.int .i64 n]=>some (.agg [.lit (.int .i64 k),.lit (.int .i64 n)],[])
  | _=>none
 | _=>none
def mvD (v:Va):DataW Nat:=.agg [.lit (.int .i64 v.kind),.lit (.int .i64 v.n)]
theorem mvElem_mk (v:Va):mvElem (mvV v)=some (mvD v,[]):=rfl
theorem mvElem_inv {v:Value} {x:Va} {ps:List MemPlace} (h:mvElem v=some (mvD x,ps)):v=mvV x:=by
 unfold mvElem at h
 split at h
 ·rename_i cs
  split at h
  ·rename_i k n hc
   simp only [Option.some.injEq,Prod.mk.injEq,mvD,DataW.agg.injEq,List.cons.injEq,DataW.lit.injEq,Lit.int.injEq,true_and,and_true] at h
   obtain ⟨⟨h1,h2⟩,-⟩:=h
   have:cs=#[.int .i64 k,.int .i64 n]:=by
    apply Array.ext'
    exact hc
   rw [this,h1,h2]
  ·cases h
 ·cases h
structure FldAt (s:Nat) (w:World) (mp:Nat) (h:Hp) (n:Nat) (D:DataW Nat):Prop where
 own:w.ownsMap Try.prog 159 mvElem mp n D
 few:(n:Int)+s≤h.sh.steps
 hit:∀(o:Nat) (c k:Int) (v:Va),o<h.objs.length→I64 c→I64 k→(∃x∈(nth ob0 h.objs o).held,x.cls=c∧x.fld=k∧x.v=v)→has D (keyM (o+1) c k)=true→∀z,D.atKey (keyM (o+1) c k) z=mvD (im v)
 miss:∀(o:Nat) (c k:Int) (v:Va),o<h.objs.length→I64 c→I64 k→(∃x∈(nth ob0 h.objs o).held,x.cls=c∧x.fld=k∧x.v=v)→has D (keyM (o+1) c k)=false→v=initV (fieldT h.file.classes c k)
 new:∀(o:Nat) (c k:Int),h.objs.length≤o→o≤100→I64 c→I64 k→has D (keyM (o+1) c k)=false
 ks:∀(o:Nat),o<h.objs.length→(nth ob0 h.objs o).held.map (fun x=>(x.cls,x.fld))=(newHeld h.file.classes (nth ob0 h.objs o).cls.toNat).map (fun x=>(x.cls,x.fld))
 kd:∀(o:Nat),o<h.objs.length→∀x∈(nth ob0 h.objs o).held,x.v.kind=(fieldT h.file.classes x.cls x.fld).kind
structure RH (s:Nat) (w0:World) (g:Mg) (w:World) (h:Hp) (qs:List Nat) (vc vo vx:Value):Prop where
 ownr:w0.heap.size≤g.r
 ownh:w0.heap.size≤g.hb
 ownm:w0.heap.size≤g.mp
 bl:Bl w0 w
 run:w.heap[g.r]?=some (.cells (runRow g h vc vx) 99 (0,0))
 hp:w.heap[g.hb]?=some (.cells (heapRow g h vo) 133 (0,0))
 out:w.ownsRow w0.heap.size 2 1 vx h.sh.out.length (h.sh.out.map (Value.int .i64))
 obs:w.ownsRow w0.heap.size 3 1 vo h.objs.length (h.objs.map (fun o=>Value.int .i64 o.cls))
 calls:w.ownsRow w0.heap.size 94 3 vc qs.length (callCells qs)
 fld:∃n D,FldAt s w g.mp h n D
structure CA (w0:World) (g:Mg) (w:World) (a:Mc) (c:Cal) (l:List Va) (vs:Value):Prop where
 own:w0.heap.size≤a.q
 ownl:w0.heap.size≤a.lb
 blk:w.heap[a.q]?=some (.cells (callRow g a c vs) 103 (0,0))
 loc:w.heap[a.lb]?=some (.cells (vaCells l).toArray 110 (0,0))
 rel:LRel c.locs l
 stk:w.ownsRow w0.heap.size 110 2 vs c.stk.length (vaCells (c.stk.map im))
 apart:vs.ownBlock≠some a.lb
 me:MeAt w0 c.m a.P a.C a.K
 short:c.locs.length≤1000
 kinds:∀v∈c.stk,1≤v.kind∧v.kind≤3
structure FarR (g:Mg) (vc vo vx:Value) (b:Nat):Prop where
 r:b≠g.r
 h:b≠g.hb
 m:b≠g.mp
 c:vc.ownBlock≠some b
 o:vo.ownBlock≠some b
 x:vx.ownBlock≠some b
structure FarC (a:Mc) (vs:Value) (b:Nat):Prop where
 q:b≠a.q
 l:b≠a.lb
 s:vs.ownBlock≠some b
structure KeptX (X:Nat→Prop) (wx w:World):Prop where
 size:wx.heap.size≤w.heap.size
 blk:∀b,X b→b<wx.heap.size∧w.heap[b]?=wx.heap[b]?
def HX (s:Nat) (X:Nat→Prop) (wx w0:World) (g:Mg) (w:World) (h:Hp) (qs:List Nat):Prop :=
 ∃vc vo vx,RH s w0 g w h qs vc vo vx∧(∀b,X b→FarR g vc vo vx b)∧KeptX X wx w
structure RXA (s:Nat) (X:Nat→Prop) (wx w0:World) (g:Mg) (w:World) (h:Hp) (qs:List Nat) (a:Mc) (c:Cal) (vc vo vx vs:Value) (l:List Va):Prop where
 rh:RH s w0 g w h qs vc vo vx
 ca:CA w0 g w a c l vs
 farr:∀b,X b→FarR g vc vo vx b
 farc:∀b,X b→FarC a vs b
 kept:KeptX X wx w
def RX (s:Nat) (X:Nat→Prop) (wx w0:World) (g:Mg) (w:World) (h:Hp) (qs:List Nat) (a:Mc) (c:Cal):Prop :=
 ∃vc vo vx vs l,RXA s X wx w0 g w h qs a c vc vo vx vs l
theorem blk_ne {w:World} {b b':Nat} {cs cs':Array Value} {t t':TypeId} {f f':Nat×Nat} (h:w.heap[b]?=some (.cells cs t f)) (h':w.heap[b']?=some (.cells cs' t' f')) (ht:t≠t'):b≠b':=by
 rintro rfl
 rw [h] at h'
 simp at h'
 exact ht h'.2.1
theorem row_ne {w:World} {base base':Nat} {e e':TypeId} {size size' n n':Nat} {v v':Value} {xs xs':List Value} (h:w.ownsRow base e size v n xs) (h':w.ownsRow base' e' size' v' n' xs') (ht:e≠e'):v.ownBlock=none∨v.ownBlock≠v'.ownBlock:=by
 rcases h.2 with ⟨rfl,-⟩|⟨gb,cap,cur,rfl,h2,h3,h4⟩
 ·exact Or.inl rfl
 ·right
  intro hc
  have:=own_far h' h3 ht
  exact this hc.symm
theorem map_ne {w:World} {b mp n:Nat} {D:DataW Nat} {cs:Array Value} {t:TypeId} {f:Nat×Nat} (h:w.heap[b]?=some (.cells cs t f)) (hm:w.ownsMap Try.prog 159 mvElem mp n D):b≠mp:=by
 obtain ⟨es,ck,hb,-⟩:=hm
 rintro rfl
 rw [h] at hb
 simp at hb
theorem map_row {w:World} {base:Nat} {e:TypeId} {size k:Nat} {v:Value} {xs:List Value} (h:w.ownsRow base e size v k xs) {mp n:Nat} {D:DataW Nat} (hm:w.ownsMap Try.prog 159 mvElem mp n D):v.ownBlock≠some mp:=by
 obtain ⟨es,ck,hb,-⟩:=hm
 intro hc
 rcases h.2 with ⟨rfl,-⟩|⟨gb,cap,cur,rfl,h2,h3,h4⟩
 ·simp [Value.ownBlock] at hc
 ·simp [Value.ownBlock] at hc
  subst hc
  rw [h3] at hb
  simp at hb
theorem grown_bl {w w':World} (h:Bl w w') (row:Option Nat):w.grownBy w' row:=⟨h.os,h.tape,h.output,h.size,fun i hi _=>h.block i hi⟩
theorem grown_blk {w w':World} {row:Option Nat} (hg:w.grownBy w' row) {b:Nat} {o:Obj} (h:w.heap[b]?=some o) (hr:row≠some b):w'.heap[b]?=some o:=by
 rw [hg.block b (lt_some h) (fun e=>hr e.symm)];exact h
theorem RH.kept {s:Nat} {w0 w w':World} {g:Mg} {h:Hp} {qs:List Nat} {vc vo vx:Value} (H:RH s w0 g w h qs vc vo vx) {row:Option Nat} (hg:w.grownBy w' row)
  (far:∀b,row=some b→w0.heap.size≤b∧FarR g vc vo vx b):RH s w0 g w' h qs vc vo vx:=by
 have hne:∀v:Value,(∀b,row=some b→v.ownBlock≠some b)→(v.ownBlock=none∨v.ownBlock≠row):=by
  intro v hv
  cases hr:row with
  | none=>cases hv':v.ownBlock<;>simp
  | some b=>right;exact hv b hr
 refine ⟨H.ownr,H.ownh,H.ownm,Below.grown H.bl hg H.bl.size (fun k hk=>(far k hk).1),grown_blk hg H.run (fun e=>(far _ e).2.r rfl),grown_blk hg H.hp (fun e=>(far _ e).2.h rfl),
  H.out.kept hg (hne vx fun b e=>(far b e).2.x),H.obs.kept hg (hne vo fun b e=>(far b e).2.o),H.calls.kept hg (hne vc fun b e=>(far b e).2.c),?_⟩
 obtain ⟨n,D,F⟩:=H.fld
 exact ⟨n,D,F.own.kept hg (fun e=>(far _ e.symm).2.m rfl),F.few,F.hit,F.miss,F.new,F.ks,F.kd⟩
theorem CA.kept {w0 w w':World} {g:Mg} {a:Mc} {c:Cal} {l:List Va} {vs:Value} (H:CA w0 g w a c l vs) {row:Option Nat} (hg:w.grownBy w' row)
  (far:∀b,row=some b→FarC a vs b):CA w0 g w' a c l vs:=by
 refine ⟨H.own,H.ownl,grown_blk hg H.blk (fun e=>(far _ e).q rfl),grown_blk hg H.loc (fun e=>(far _ e).l rfl),H.rel,H.stk.kept hg ?_,H.apart,H.me,H.short,H.kinds⟩
 cases hr:row with
 | none=>cases hv':vs.ownBlock<;>simp
 | some b=>right;exact (far b hr).s
theorem KeptX.kept {X:Nat→Prop} {wx w w':World} (H:KeptX X wx w) {row:Option Nat} (hg:w.grownBy w' row) (far:∀b,row=some b→¬X b):KeptX X wx w' :=
 ⟨Nat.le_trans H.size hg.size,fun b hb=>⟨(H.blk b hb).1,by
  rw [hg.block b (Nat.lt_of_lt_of_le (H.blk b hb).1 H.size) (fun e=>far b e.symm hb)];exact (H.blk b hb).2⟩⟩
theorem RH.far {s:Nat} {w0 w:World} {g:Mg} {h:Hp} {qs:List Nat} {vc vo vx:Value} (H:RH s w0 g w h qs vc vo vx) {b:Nat} {cs:Array Value} {t:TypeId} {f:Nat×Nat} (hb:w.heap[b]?=some (.cells cs t f))
  (h1:t≠99) (h2:t≠133) (h3:t≠94) (h4:t≠3) (h5:t≠2):FarR g vc vo vx b:=by
 obtain ⟨n,D,F⟩:=H.fld
 exact ⟨blk_ne hb H.run h1,blk_ne hb H.hp h2,map_ne hb F.own,own_far H.calls hb h3,own_far H.obs hb h4,own_far H.out hb h5⟩
theorem CA.far {s:Nat} {w0 w:World} {g:Mg} {h:Hp} {qs:List Nat} {vc vo vx:Value} (H:RH s w0 g w h qs vc vo vx) {a:Mc} {c:Cal} {l:List Va} {vs:Value} (K:CA w0 g w a c l vs) :
  FarR g vc vo vx a.q∧FarR g vc vo vx a.lb∧∀b,vs.ownBlock=some b→FarR g vc vo vx b:=by
 refine ⟨H.far K.blk (by decide) (by decide) (by decide) (by decide) (by decide),H.far K.loc (by decide) (by decide) (by decide) (by decide) (by decide),fun b hb=>?_⟩
 rcases K.stk.2 with ⟨rfl,-⟩|⟨gb,cap,cur,rfl,h2,h3,h4⟩
 ·simp [Value.ownBlock] at hb
 ·simp [Value.ownBlock] at hb
  subst hb
  exact H.far h3 (by decide) (by decide) (by decide) (by decide) (by decide)
theorem CA.farC {s:Nat} {w0 w:World} {g:Mg} {h:Hp} {qs:List Nat} {vc vo vx:Value} (H:RH s w0 g w h qs vc vo vx) {a:Mc} {c:Cal} {l:List Va} {vs:Value} (K:CA w0 g w a c l vs) :
  FarC a vs g.r∧FarC a vs g.hb∧FarC a vs g.mp∧(∀b,vc.ownBlock=some b→FarC a vs b)∧(∀b,vo.ownBlock=some b→FarC a vs b)∧(∀b,vx.ownBlock=some b→FarC a vs b):=by
 obtain ⟨f1,f2,f3⟩:=K.far H
 refine ⟨⟨Ne.symm f1.r,Ne.symm f2.r,fun e=>(f3 _ e).r rfl⟩,⟨Ne.symm f1.h,Ne.symm f2.h,fun e=>(f3 _ e).h rfl⟩,⟨Ne.symm f1.m,Ne.symm f2.m,fun e=>(f3 _ e).m rfl⟩,?_,?_,?_⟩
 ·exact fun b e=>⟨fun q=>f1.c (q▸e),fun q=>f2.c (q▸e),fun q=>(f3 _ q).c e⟩
 ·exact fun b e=>⟨fun q=>f1.o (q▸e),fun q=>f2.o (q▸e),fun q=>(f3 _ q).o e⟩
 ·exact fun b e=>⟨fun q=>f1.x (q▸e),fun q=>f2.x (q▸e),fun q=>(f3 _ q).x e⟩
theorem RXA.bl {s:Nat} {X:Nat→Prop} {wx w0 w w':World} {g:Mg} {h:Hp} {qs:List Nat} {a:Mc} {c:Cal} {vc vo vx vs:Value} {l:List Va} (H:RXA s X wx w0 g w h qs a c vc vo vx vs l) (hb:Bl w w'):RXA s X wx w0 g w' h qs a c vc vo vx vs l :=
 ⟨H.rh.kept (grown_bl hb none) (fun b e=>by cases e),H.ca.kept (grown_bl hb none) (fun b e=>by cases e),H.farr,H.farc,H.kept.kept (grown_bl hb none) (fun b e=>by cases e)⟩
theorem RX.bl {s:Nat} {X:Nat→Prop} {wx w0 w w':World} {g:Mg} {h:Hp} {qs:List Nat} {a:Mc} {c:Cal} (H:RX s X wx w0 g w h qs a c) (hb:Bl w w'):RX s X wx w0 g w' h qs a c:=by
 obtain ⟨vc,vo,vx,vs,l,H⟩:=H
 exact ⟨vc,vo,vx,vs,l,H.bl hb⟩
theorem HX.bl {s:Nat} {X:Nat→Prop} {wx w0 w w':World} {g:Mg} {h:Hp} {qs:List Nat} (H:HX s X wx w0 g w h qs) (hb:Bl w w'):HX s X wx w0 g w' h qs:=by
 obtain ⟨vc,vo,vx,H,f,k⟩:=H
 exact ⟨vc,vo,vx,H.kept (grown_bl hb none) (fun b e=>by cases e),f,k.kept (grown_bl hb none) (fun b e=>by cases e)⟩
structure Kp (n:Nat) (w w':World):Prop where
 size:w.heap.size≤w'.heap.size
 blk:∀b,n≤b→b<w.heap.size→w'.heap[b]?=w.heap[b]?
def Xp (X:Nat→Prop) (n m:Nat):Nat→Prop:=fun b=>X b∨(n≤b∧b<m)
theorem row_lt {w:World} {base:Nat} {e:TypeId} {size n:Nat} {v:Value} {xs:List Value} (h:w.ownsRow base e size v n xs) {b:Nat} (hb:v.ownBlock=some b):b<w.heap.size:=by
 rcases h.2 with ⟨rfl,-⟩|⟨gb,cap,cur,rfl,h2,h3,h4⟩
 ·simp [Value.ownBlock] at hb
 ·simp [Value.ownBlock] at hb;subst hb;exact lt_some h3
theorem RH.farNew {s:Nat} {w0 w:World} {g:Mg} {h:Hp} {qs:List Nat} {vc vo vx:Value} (H:RH s w0 g w h qs vc vo vx) {b:Nat} (hb:w.heap.size≤b):FarR g vc vo vx b:=by
 obtain ⟨n,D,F⟩:=H.fld
 have h1:=lt_some H.run
 have h2:=lt_some H.hp
 have h3:=F.own.lt
 exact ⟨by omega,by omega,by omega,fun e=>by have:=row_lt H.calls e;omega,fun e=>by have:=row_lt H.obs e;omega,fun e=>by have:=row_lt H.out e;omega⟩
theorem CA.farNew {w0 w:World} {g:Mg} {a:Mc} {c:Cal} {l:List Va} {vs:Value} (K:CA w0 g w a c l vs) {b:Nat} (hb:w.heap.size≤b):FarC a vs b:=by
 have h1:=lt_some K.blk
 have h2:=lt_some K.loc
 exact ⟨by omega,by omega,fun e=>by have:=row_lt K.stk e;omega⟩
theorem RX.wide {s:Nat} {X:Nat→Prop} {wx w0 w w':World} {g:Mg} {h:Hp} {qs:List Nat} {a:Mc} {c:Cal} (H:RX s X wx w0 g w h qs a c) (hb:Bl w w'):RX s (Xp X w.heap.size w'.heap.size) w' w0 g w' h qs a c:=by
 obtain ⟨vc,vo,vx,vs,l,H⟩:=H
 have H':=H.bl hb
 refine ⟨vc,vo,vx,vs,l,H'.rh,H'.ca,?_,?_,⟨Nat.le_refl _,fun b hx=>⟨?_,rfl⟩⟩⟩
 ·rintro b (hx|hx)
  ·exact H.farr b hx
  ·exact H.rh.farNew hx.1
 ·rintro b (hx|hx)
  ·exact H.farc b hx
  ·exact H.ca.farNew hx.1
 ·rcases hx with hx|hx
  ·have:=(H'.kept.blk b hx).1;have:=H'.kept.size;omega
  ·exact hx.2
theorem RX.back {s s':Nat} {X:Nat→Prop} {wx w0 w w' w2:World} {g:Mg} {h h':Hp} {qs qs':List Nat} {a a':Mc} {c c':Cal} (H:RX s X wx w0 g w h qs a c) (hb:Bl w w') (H2:RX s' (Xp X w.heap.size w'.heap.size) w' w0 g w2 h' qs' a' c') :
  RX s' X wx w0 g w2 h' qs' a' c'∧Kp w.heap.size w' w2:=by
 obtain ⟨vc,vo,vx,vs,l,H⟩:=H
 obtain ⟨vc',vo',vx',vs',l',H2⟩:=H2
 have H':=H.bl hb
 refine ⟨⟨vc',vo',vx',vs',l',H2.rh,H2.ca,fun b hx=>H2.farr b (Or.inl hx),fun b hx=>H2.farc b (Or.inl hx),Nat.le_trans H'.kept.size H2.kept.size,fun b hx=>⟨(H.kept.blk b hx).1,?_⟩⟩,H2.kept.size,fun b h1 h2=>(H2.kept.blk b (Or.inr ⟨h1,h2⟩)).2⟩
 rw [(H2.kept.blk b (Or.inl hx)).2]
 exact (H'.kept.blk b hx).2
theorem RX.use {s:Nat} {X:Nat→Prop} {wx w0 w w':World} {g:Mg} {h:Hp} {qs:List Nat} {a:Mc} {c:Cal} (H:RX s X wx w0 g w h qs a c) (hb:Bl w w') {f:FuncId} {args:Array Value} {Q:Ending→Prop} {s':Nat} {h':Hp} {qs':List Nat} {P:Cal→Prop}
  (hc:∀X wx w,RX s X wx w0 g w h qs a c→Calls Try.prog f args w fun e w2=>Q e∧∃c',P c'∧RX s' X wx w0 g w2 h' qs' a c') :
  Calls Try.prog f args w' fun e w2=>Q e∧(∃c',P c'∧RX s' X wx w0 g w2 h' qs' a c')∧Kp w.heap.size w' w2:=by
 refine (hc _ _ _ (H.wide hb)).mono ?_
 rintro e w2 ⟨he,c',hp,H2⟩
 obtain ⟨h3,h4⟩:=H.back hb H2
 exact ⟨he,⟨c',hp,h3⟩,h4⟩
end
structure CallCells (g:Mg) (w:World) (a:Mc) (c:Cal) (vs:Value):Prop where
 c0:w.cell? ⟨a.q,0,none⟩=some (.pointer (some ⟨g.hb,0,none⟩))
 c1:w.cell? ⟨a.q,1,none⟩=some (.pointer (some ⟨g.r,0,none⟩))
 c2:w.cell? ⟨a.q,2,none⟩=some (.slice a.P c.m.params.length a.p)
 c3:w.cell? ⟨a.q,3,none⟩=some (.int .i64 c.m.ret.kind)
 c4:w.cell? ⟨a.q,4,none⟩=some (.int .i64 c.m.ret.cls)
 c5:w.cell? ⟨a.q,5,none⟩=some (.int .i64 c.m.stack)
 c6:w.cell? ⟨a.q,6,none⟩=some (.int .i64 c.m.locs)
 c8:w.cell? ⟨a.q,8,none⟩=some (.slice a.C c.m.code.length a.c)
 c9:w.cell? ⟨a.q,9,none⟩=some (.slice a.K c.m.hands.length a.k)
 c10:w.cell? ⟨a.q,10,none⟩=some (.int .i64 c.pc)
 c11:w.cell? ⟨a.q,11,none⟩=some (.slice (some ⟨a.lb,0,none⟩) c.locs.length a.lc)
 c12:w.cell? ⟨a.q,12,none⟩=some vs
theorem CA.cells {w0 w:World} {g:Mg} {a:Mc} {c:Cal} {l:List Va} {vs:Value} (H:CA w0 g w a c l vs):CallCells g w a c vs:=by
 constructor<;>(rw [cell_blk H.blk];rfl)
theorem CA.free {w0 w:World} {g:Mg} {a:Mc} {c:Cal} {l:List Va} {vs:Value} (H:CA w0 g w a c l vs) (i:Nat):w.frozen? ⟨a.q,i,none⟩=false:=free_blk H.blk i
theorem RXA.setq {s:Nat} {X:Nat→Prop} {wx w0 w:World} {g:Mg} {h:Hp} {qs:List Nat} {a:Mc} {c c':Cal} {vc vo vx vs vs':Value} {l:List Va} (H:RXA s X wx w0 g w h qs a c vc vo vx vs l) {i:Nat} {v:Value}
  (hrow:(callRow g a c vs).setIfInBounds i v=callRow g a c' vs') (hl:c'.locs=c.locs) (hm:c'.m=c.m) (hs:w.ownsRow w0.heap.size 110 2 vs' c'.stk.length (vaCells (c'.stk.map im)))
  (hb:∀b,vs'.ownBlock=some b→b≠a.lb∧¬X b) (hkd:∀v∈c'.stk,1≤v.kind∧v.kind≤3):RXA s X wx w0 g (w.setCell ⟨a.q,i,none⟩ v) h qs a c' vc vo vx vs' l:=by
 have hg:=grown_set (w:=w) a.q i v
 have hf:=(H.ca.far H.rh).1
 have hql:a.q≠a.lb:=blk_ne H.ca.blk H.ca.loc (by decide)
 refine ⟨H.rh.kept hg (fun b e=>?_),⟨H.ca.own,H.ca.ownl,?_,?_,by rw [hl];exact H.ca.rel,hs.kept hg ?_,?_,by rw [hm];exact H.ca.me,by rw [hl];exact H.ca.short,hkd⟩,H.farr,?_,H.kept.kept hg (fun b e hx=>?_)⟩
 ·cases e;exact ⟨H.ca.own,hf⟩
 ·rw [block_set H.ca.blk,hrow]
 ·exact grown_blk hg H.ca.loc (fun e=>hql (Option.some.inj e))
 ·right;exact own_far hs H.ca.blk (by decide)
 ·intro e;exact (hb _ e).1 rfl
 ·intro b hx
  exact ⟨(H.farc b hx).q,(H.farc b hx).l,fun e=>(hb b e).2 hx⟩
 ·cases e;exact (H.farc a.q hx).q rfl
theorem own_pop {w:World} {base:Nat} {e:TypeId} {gb cap:Nat} {l:List Va} {v:Va} (h:w.ownsRow base e 2 (.slice (some ⟨gb,0,none⟩) (l.length+1) cap) (l.length+1) (vaCells (l++[v]))) :
  w.ownsRow base e 2 (.slice (some ⟨gb,0,none⟩) l.length cap) l.length (vaCells l):=by
 obtain ⟨h1,h2⟩:=h
 rcases h2 with ⟨h0,_⟩|⟨g',cap',cur,hv,hg,hh,hn,hcap,hsz,htake⟩
 ·cases h0
 ·cases hv
  refine ⟨vaCells_length l,.inr ⟨gb,cap,cur,rfl,hg,hh,by omega,hcap,hsz,?_⟩⟩
  have h3:(cur.toList.take ((l.length+1)*2)).take (l.length*2)=(vaCells (l++[v])).take (l.length*2):=by rw [htake]
  rw [List.take_take,Nat.min_eq_left (by omega)] at h3
  rw [h3,vaCells_append,←vaCells_length l]
  simp
theorem own_last {w:World} {base:Nat} {e:TypeId} {vs:Value} {l:List Va} {v:Va} (h:w.ownsRow base e 2 vs (l.length+1) (vaCells (l++[v]))):∃gb cap,vs=.slice (some ⟨gb,0,none⟩) (l.length+1) cap∧l.length+1≤cap∧cap≤maxLen∧gb<w.heap.size
  ∧ w.cell? ⟨gb,l.length*2,none⟩=some (.int .i64 v.kind)∧w.cell? ⟨gb,l.length*2+1,none⟩=some (.int .i64 v.n):=by
 rcases h.2 with ⟨_,h0⟩|⟨gb,cap,cur,rfl,hg,hh,hn,hcap,hsz,htake⟩
 ·omega
 ·have hx:=va_cells (l++[v]) l.length (by simp)
  have hv:nth va0 (l++[v]) l.length=v:=by simp [nth]
  rw [hv,←htake,List.getElem?_take,List.getElem?_take,if_pos (by omega),if_pos (by omega)] at hx
  refine ⟨gb,cap,rfl,hn,hcap,lt_some hh,?_,?_⟩
  ·rw [cell_blk hh];simpa using hx.1
  ·rw [cell_blk hh];simpa using hx.2
theorem own_none {w:World} {base:Nat} {e:TypeId} {vs:Value} (h:w.ownsRow base e 2 vs 0 []):∃A cap,vs=.slice A 0 cap:=by
 rcases h.2 with ⟨rfl,h0⟩|⟨gb,cap,cur,rfl,hg,hh,hn,hcap,hsz,htake⟩
 ·exact ⟨_,_,rfl⟩
 ·exact ⟨_,_,rfl⟩
theorem mv_size:(Try.prog.info? 110).map (·.size)=some 2:=info_mv
set_option maxRecDepth 100000 in
theorem mtake_no (s:Nat) (X:Nat→Prop) (wx w0:World) (g:Mg) (h:Hp) (qs:List Nat) (a:Mc) (c:Cal) (w:World) (H:RX s X wx w0 g w h qs a c) (hs:c.stk=[]) :
  Calls Try.prog 110 #[.pointer (some ⟨a.q,0,none⟩)] w fun e w'=>e=stopE 6 0 0∧RX s X wx w0 g w' h qs a c:=by
 have HH:Hid (RX s X wx w0 g w h qs a c):=H
 obtain ⟨vc,vo,vx,vs,l,H⟩:=H
 have hk:=H.ca.stk
 rw [hs] at hk
 obtain ⟨A,cap,rfl⟩:=own_none hk
 have hq:=lt_some H.ca.blk
 have c12:=H.ca.cells.c12
 clear H hk hs
 go_enter Try.func110,Try.ntmps110
 go_wp2_with (go_at_call 86;refine (mstuck_any _).mono ?_;rintro e w1 ⟨rfl,hw⟩;rw [hw];clear hw w1)
 exact ⟨rfl,rfl,HH.out.bl ((Bl.refl w).alloc _)⟩
set_option maxRecDepth 100000 in
theorem mtake_yes (s:Nat) (X:Nat→Prop) (wx w0:World) (g:Mg) (h:Hp) (qs:List Nat) (a:Mc) (c:Cal) (l:List Va) (v:Va) (w:World) (H:RX s X wx w0 g w h qs a c) (hs:c.stk=l++[v]) :
  Calls Try.prog 110 #[.pointer (some ⟨a.q,0,none⟩)] w fun e w'=>e=.returned (mvV (im v))∧RX s X wx w0 g w' h qs a { c with stk:=l }:=by
 obtain ⟨vc,vo,vx,vs,k,H⟩:=H
 have hk:=H.ca.stk
 have e1:c.stk.length=(l.map im).length+1:=by rw [hs];simp
 have e2:vaCells (c.stk.map im)=vaCells (l.map im++[im v]):=by rw [hs];simp
 rw [e1,e2] at hk
 obtain ⟨gb,cap,rfl,h1,h2,h3,h4,h5⟩:=own_last hk
 have e3:(l.map im).length=l.length:=by simp
 rw [e3] at h1 h4 h5 hk
 have HK:Hid (w.ownsRow w0.heap.size 110 2 (.slice (some ⟨gb,0,none⟩) l.length cap) l.length (vaCells (l.map im))):=by
  have:=own_pop (l:=l.map im) (v:=im v) (by rw [e3];exact hk)
  rw [e3] at this
  exact this
 have hq:=lt_some H.ca.blk
 have c12:=H.ca.cells.c12
 have fz:=H.ca.free
 rw [e3] at c12
 have hgq:gb≠a.q:=fun e=>own_far hk H.ca.blk (by decide) (by rw [e];rfl)
 have HH:Hid (RXA s X wx w0 g w h qs a c vc vo vx (.slice (some ⟨gb,0,none⟩) ((l.map im).length+1) cap) k):=H
 have HKD:Hid (∀u∈l,1≤u.kind∧u.kind≤3):=fun u hu=>H.ca.kinds u (by rw [hs];exact List.mem_append_left _ hu)
 clear H hk hs e1 e2 e3
 unfold maxLen at h2
 have hn1:((l.length:Int)+1-1)=(l.length:Int):=by omega
 have hw:IntKind.i64.wrap (l.length:Int)=(l.length:Int):=by rw [IntKind.wrap_i64];omega
 go_enter Try.func110,Try.ntmps110
 go_wp2
 refine bodyPost_ret (results_cell_row rfl _ _ w.heap.size _ _ _ _ rfl (blk_in1 (by simp)) Try.underlying110 rfl info_mv) rfl ?_
 refine ⟨rfl,vc,vo,vx,_,k,RXA.bl (HH.out.setq rfl rfl rfl HK.out ?_ HKD.out) (((Bl.refl _).alloc _).alloc _)⟩
 intro b hb
 simp [Value.ownBlock] at hb
 subst hb
 exact ⟨fun e=>HH.out.ca.apart (by rw [←e];rfl),fun hx=>(HH.out.farc gb hx).s rfl⟩
theorem numbers_any (x n:Int) (w:World) :
  Calls Try.prog 58 #[.int .i64 x,.int .i64 n] w fun e w'=>e=.returned (.bool (decide (0≤x∧x<n)))∧w'=w:=by
 go_enter Try.func58,Try.ntmps58
 go_wp2
 all_goals
  go_ret
  refine ⟨ret_bool ?_,rfl⟩
  rw [Bool.eq_iff_iff];simp;try omega
theorem span_any (n lo hi:Int) (w:World) :
  Calls Try.prog 37 #[.int .i64 n,.int .i64 lo,.int .i64 hi] w fun e w'=>e=.returned (.bool (decide (lo≤n∧n≤hi)))∧w'=w:=by
 go_enter Try.func37,Try.ntmps37
 go_wp2
 all_goals
  go_ret
  refine ⟨ret_bool ?_,rfl⟩
  rw [Bool.eq_iff_iff];simp;try omega
theorem maySuper_any (c s:Int) (w:World) :
  Calls Try.prog 38 #[.int .i64 c,.int .i64 s] w fun e w'=>e=.returned (.bool (decide ((c=0∧s=-1)∨(c≠0∧0≤s∧s<c))))∧w'=w:=by
 by_cases h0:c=0
 ·subst h0
  go_enter Try.func38,Try.ntmps38
  go_wp2
  all_goals
   go_ret
   refine ⟨ret_bool ?_,rfl⟩
   rw [Bool.eq_iff_iff];simp
 ·go_enter Try.func38,Try.ntmps38
  go_wp2_with (go_at_call 58;refine (numbers_any _ _ _).mono ?_;rintro e w' ⟨rfl,rfl⟩)
  all_goals
   go_ret
   refine ⟨ret_bool ?_,rfl⟩
   rw [Bool.eq_iff_iff];simp;omega
theorem mayType_any (n:Nat) (k x:Int) (w:World) :
  Calls Try.prog 79 #[.agg #[.int .i64 k,.int .i64 x],.int .i64 n] w fun e w'=>e=.returned (.bool (tyB n ⟨k,x⟩))∧Bl w w':=by
 have hk:k=1∨k=2∨k=3∨(k≠1∧k≠2∧k≠3):=by omega
 rcases hk with rfl|rfl|rfl|⟨h1,h2,h3⟩
 all_goals
  go_enter Try.func79,Try.ntmps79
  go_wp2_with (go_at_call 58;refine (numbers_any _ _ _).mono ?_;rintro e w' ⟨rfl,rfl⟩)
  go_ret
  refine ⟨ret_bool ?_,(Bl.refl _).alloc _⟩
  unfold tyB
  rw [Bool.eq_iff_iff];simp;try omega
def fldB (n:Nat) (f:List Ty):Bool:=decide (f.length≤6)&&f.all (tyB n)
theorem fld_long {n:Nat} {f:List Ty} (h:¬f.length≤6):fldB n f=false:=by unfold fldB;rw [decide_eq_false h];rfl
theorem fld_bad {n q:Nat} {f:List Ty} (hq:q<f.length) (h:tyB n (nth ty0 f q)=false):fldB n f=false:=by
 have:f.all (tyB n)=false:=by
  rw [List.all_eq_false];exact ⟨nth ty0 f q,nth_mem hq,by rw [h];decide⟩
 unfold fldB;rw [this,Bool.and_false]
theorem fld_good {n:Nat} {f:List Ty} (h:f.length≤6) (ht:∀k,k<f.length→tyB n (nth ty0 f k)=true):fldB n f=true:=by
 have:f.all (tyB n)=true:=by
  rw [List.all_eq_true]
  intro x hx
  obtain ⟨k,hk,rfl⟩:=List.getElem_of_mem hx
  rw [←nth_get hk];exact ht k hk
 unfold fldB;rw [this,decide_eq_true h];rfl
theorem all_ty_bad {n q:Nat} {f:List Ty} (hq:q<f.length) (h:tyB n (nth ty0 f q)=false):f.all (tyB n)=false:=by
 rw [List.all_eq_false];exact ⟨nth ty0 f q,nth_mem hq,by rw [h];decide⟩
theorem all_ty_good {n:Nat} {f:List Ty} (ht:∀k,k<f.length→tyB n (nth ty0 f k)=true):f.all (tyB n)=true:=by
 rw [List.all_eq_true]
 intro x hx
 obtain ⟨k,hk,rfl⟩:=List.getElem_of_mem hx
 rw [←nth_get hk];exact ht k hk
theorem mayTypes_any (A : Option Addr) (n c : Nat) (F : List Ty) (w : World) (hl : TysAt w A F) :
    Calls Try.prog 59 #[.int .i64 n, .slice A F.length c] w fun e w' => e = .returned (.bool (F.all (tyB n))) ∧ Bl w w' := by
  obtain ⟨hm, hl⟩ := hl
  unfold maxLen at hm
  have HG : Hid ((∀ k, k < F.length → tyB n (nth ty0 F k) = true) → F.all (tyB n) = true) := all_ty_good
  have HT : Hid (∀ q, q < F.length → tyB n (nth ty0 F q) = false → F.all (tyB n) = false) := fun q => all_ty_bad
  obtain ⟨R, hR⟩ : ∃ R, F.all (tyB n) = R := ⟨_, rfl⟩
  rw [hR] at HG HT ⊢
  clear hR
  go_enter Try.func59, Try.ntmps59
  go_wp2
  go_loopw [9] (fun i wr => ∃ q : Nat, q ≤ F.length ∧ i = .int .i64 q ∧ Hid (∀ j, j < q → tyB n (nth ty0 F j) = true) ∧ Hid (Bl w wr)) (fun i _ => F.length - (intOf i).toNat)
  case atStart => exact ⟨0, Nat.zero_le _, rfl, fun j hj => absurd hj (Nat.not_lt_zero _), Bl.refl _⟩
  case round =>
    obtain ⟨q, hq, rfl, hgq, hg⟩ := hrel
    by_cases hql : q < F.length
    · rcases hl with h0 | ⟨b, off, rfl, hcell⟩
      · omega
      obtain ⟨ht1, ht2, -, -⟩ := hcell q hql
      replace ht1 := hg.out.cell ht1
      replace ht2 := hg.out.cell ht2
      clear hcell HG
      cases hT : tyB n (nth ty0 F q)
      · have hT' : tyB n ⟨(nth ty0 F q).kind, (nth ty0 F q).cls⟩ = false := hT
        have HF := HT.out q hql hT
        clear HT hT
        go_wp2_with (go_at_call 79; refine (mayType_any _ _ _ _).mono ?_; rintro e w1 ⟨rfl, hg1⟩)
        go_ret
        exact ⟨ret_bool HF.symm, (hg.out.alloc _).trans hg1⟩
      · have hT' : tyB n ⟨(nth ty0 F q).kind, (nth ty0 F q).cls⟩ = true := hT
        have HT1 : Hid (tyB n (nth ty0 F q) = true) := hT
        clear hT HT
        go_wp2_with (go_at_call 79; refine (mayType_any _ _ _ _).mono ?_; rintro e w1 ⟨rfl, hg1⟩)
        go_roundw
        case rel => exact ⟨q + 1, by omega, by go_num, fun j hj => if h : j < q then hgq.out j h else by have : j = q := by omega
                                                                                                         subst this; exact HT1.out, (hg.out.alloc _).trans hg1⟩
        case measure => simp [intOf]; omega
    · have hkk : q = F.length := by omega
      subst hkk
      have HF := HG.out hgq.out
      clear HG hl
      go_wp2
      go_ret
      exact ⟨ret_bool HF.symm, hg.out⟩
theorem mayFields_any (A:Option Addr) (n c:Nat) (F:List Ty) (w:World) (hl:TysAt w A F) :
  Calls Try.prog 39 #[.slice A F.length c,.int .i64 n] w fun e w'=>e=.returned (.bool (fldB n F))∧Bl w w':=by
 have hm:=hl.1
 unfold maxLen at hm
 by_cases h6:F.length≤6
 ·have hb:fldB n F=F.all (tyB n):=by unfold fldB;rw [decide_eq_true h6];rfl
  rw [hb]
  go_enter Try.func39,Try.ntmps39
  go_wp2_with (go_at_call 59;refine (mayTypes_any _ _ _ _ _ hl).mono ?_;rintro e w1 ⟨rfl,hg1⟩)
  go_ret
  exact ⟨rfl,hg1⟩
 ·have hb:=fld_long (n:=n) h6
  rw [hb]
  clear hb hl
  go_enter Try.func39,Try.ntmps39
  go_wp2
  go_ret
  exact ⟨rfl,Bl.refl _⟩
def supB (l:List Cl) (i:Nat):Bool:=decide (((i:Int)=0∧(nth cl0 l i).super=-1)∨((i:Int)≠0∧0≤(nth cl0 l i).super∧(nth cl0 l i).super<i))
theorem may_sup {l:List Cl} {i:Nat} (hi:i<l.length) (h:supB l i=false):mayB l=false:=by
 unfold supB at h
 rw [decide_eq_false_iff_not] at h
 by_cases h0:i=0
 ·subst h0;exact may_few (by omega)
 ·exact may_cl hi (cl_bad (by omega))
theorem may_fld {l:List Cl} {i:Nat} (hi:i<l.length) (h:fldB l.length (nth cl0 l i).fields=false):mayB l=false:=by
 refine may_cl hi ?_
 by_cases h6:(nth cl0 l i).fields.length≤6
 ·unfold fldB at h
  rw [decide_eq_true h6,Bool.true_and] at h
  unfold clB;rw [h,Bool.and_false]
 ·exact cl_bad (by omega)
theorem may_both {l:List Cl} (h4:4≤l.length) (h12:l.length≤12) (h:∀i,i<l.length→supB l i=true∧fldB l.length (nth cl0 l i).fields=true):mayB l=true:=by
 have h0:=(h 0 (by omega)).1
 unfold supB at h0
 rw [decide_eq_true_eq] at h0
 refine may_good ⟨h4,h12,by omega⟩ fun i hi=>?_
 obtain ⟨h1,h2⟩:=h i hi
 unfold supB at h1;unfold fldB at h2
 rw [decide_eq_true_eq] at h1
 rw [Bool.and_eq_true,decide_eq_true_eq] at h2
 unfold clB
 rw [h2.2,Bool.and_true,decide_eq_true_eq]
 exact ⟨by omega,h2.1⟩
theorem may_any (A : Option Addr) (c : Nat) (l : List Cl) (w : World) (hl : ClsAt w A l) :
    Calls Try.prog 21 #[.slice A l.length c] w fun e w' => e = .returned (.bool (mayB l)) ∧ Bl w w' := by
  obtain ⟨hm, hl⟩ := hl
  unfold maxLen at hm
  by_cases h4 : ¬ (4 ≤ (l.length : Int) ∧ (l.length : Int) ≤ 12)
  · have hb : mayB l = false := may_few (by omega)
    rw [hb]
    clear hb hl
    have hd : decide (4 ≤ (l.length : Int) ∧ (l.length : Int) ≤ 12) = false := decide_eq_false h4
    go_enter Try.func21, Try.ntmps21
    go_wp2_with (go_at_call 37; refine (span_any _ _ _ _).mono ?_; rintro e w1 ⟨he, rfl⟩; rw [hd] at he; subst he)
    go_ret
    exact ⟨rfl, Bl.refl _⟩
  replace h4 := Decidable.of_not_not h4
  have hd : decide (4 ≤ (l.length : Int) ∧ (l.length : Int) ≤ 12) = true := decide_eq_true h4
  rcases hl with hl | ⟨b, off, rfl, hc⟩
  · omega
  have HB : Hid ((∀ i, i < l.length → supB l i = true ∧ fldB l.length (nth cl0 l i).fields = true) → mayB l = true) := may_both (by omega) (by omega)
  go_enter Try.func21, Try.ntmps21
  go_wp2_with (go_at_call 37; refine (span_any _ _ _ _).mono ?_; rintro e w1 ⟨he, hw1⟩; rw [hd] at he; subst he; rw [hw1]; clear hw1 w1)
  go_loopw [11] (fun i wr => ∃ k : Nat, k ≤ l.length ∧ i = .int .i64 k ∧ Hid (∀ j, j < k → supB l j = true ∧ fldB l.length (nth cl0 l j).fields = true) ∧ Hid (Bl w wr)) (fun i _ => l.length - (intOf i).toNat)
  case atStart => exact ⟨0, Nat.zero_le _, rfl, fun j hj => absurd hj (Nat.not_lt_zero _), Bl.refl _⟩
  case round =>
    obtain ⟨k, hk, rfl, hgood, hg⟩ := hrel
    by_cases hlt : k < l.length
    · obtain ⟨hsup, hsb, A', c', hfl, hty⟩ := hc k hlt
      replace hsup := hg.out.cell hsup
      replace hfl := hg.out.cell hfl
      have HTY : Hid (TysAt wr A' (nth cl0 l k).fields) := hty.bl hg.out
      have HS : Hid (supB l k = false → mayB l = false) := may_sup hlt
      have HF : Hid (fldB l.length (nth cl0 l k).fields = false → mayB l = false) := may_fld hlt
      clear hc HB hty
      cases hS : supB l k
      · have HBAD := HS.out hS
        have hS' : decide (((k : Int) = 0 ∧ (nth cl0 l k).super = -1) ∨ ((k : Int) ≠ 0 ∧ 0 ≤ (nth cl0 l k).super ∧ (nth cl0 l k).super < k)) = false := hS
        clear hS
        go_wp2_with (go_at_call 38; refine (maySuper_any _ _ _).mono ?_; rintro e w1 ⟨he, rfl⟩; rw [hS'] at he; subst he)
        go_ret
        exact ⟨ret_bool HBAD.symm, hg.out.alloc _⟩
      · have HST : Hid (supB l k = true) := hS
        have hS' : decide (((k : Int) = 0 ∧ (nth cl0 l k).super = -1) ∨ ((k : Int) ≠ 0 ∧ 0 ≤ (nth cl0 l k).super ∧ (nth cl0 l k).super < k)) = true := hS
        clear hS
        cases hF : fldB l.length (nth cl0 l k).fields
        · have HBAD := HF.out hF
          go_wp2_with (first
            | (go_at_call 38; refine (maySuper_any _ _ _).mono ?_; rintro e w1 ⟨he, rfl⟩; rw [hS'] at he; subst he)
            | (go_at_call 39; refine (mayFields_any _ _ _ _ _ (HTY.out.bl ((Bl.refl _).alloc _))).mono ?_; rintro e w1 ⟨he, hg1⟩; rw [hF] at he; subst he))
          go_ret
          exact ⟨ret_bool HBAD.symm, (hg.out.alloc _).trans hg1⟩
        · have HFT : Hid (fldB l.length (nth cl0 l k).fields = true) := hF
          go_wp2_with (first
            | (go_at_call 38; refine (maySuper_any _ _ _).mono ?_; rintro e w1 ⟨he, rfl⟩; rw [hS'] at he; subst he)
            | (go_at_call 39; refine (mayFields_any _ _ _ _ _ (HTY.out.bl ((Bl.refl _).alloc _))).mono ?_; rintro e w1 ⟨he, hg1⟩; rw [hF] at he; subst he))
          go_roundw
          case rel => exact ⟨k + 1, by omega, by go_num, fun j hj => if h : j < k then hgood.out j h else by have : j = k := by omega
                                                                                                             subst this; exact ⟨HST.out, HFT.out⟩, (hg.out.alloc _).trans hg1⟩
          case measure => simp [intOf]; omega
    · have hkk : k = l.length := by omega
      subst hkk
      have HBB := HB.out hgood.out
      clear HB hc
      go_wp2
      go_ret
      exact ⟨ret_bool HBB.symm, hg.out⟩
end Go.Proofs.Ytimjmdfokicbkaa
