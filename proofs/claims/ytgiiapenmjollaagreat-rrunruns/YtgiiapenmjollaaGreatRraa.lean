import Derived.WalkKit
import Derived.RowKit3
import Derived.Deep.Slices
import Derived.Below
import Derived.Test.YtgiiapenmjollaaGreatChecked
import Derived.Handy
import Derived.WalkLawsBesides
import Derived.OwnWalk
import Derived.Laws.OwnMore
import Derived.Deep.Draws
import Derived.Deep.AppendLies
import Derived.Maps.OwnSet
import Derived.DeepKeys4
import Derived.RangeFuncNested
import Derived.RangeFuncBound
import Derived.RangeFuncCalls
import Derived.RangeFuncLeaves
import Derived.RangeFuncFrom
import Derived.Shelf.Abstract
import Derived.Shelf.RegionOpen
import Derived.OwnWalkIn
import Derived.TacticsInMore
import Derived.LoopNIn
import Derived.LoopIn
import Derived.BigQuiet
import Derived.Deep.RegionHeld3
namespace Go.Proofs.YtgiiapenmjollaaGreat
set_option linter.all false
set_option maxHeartbeats 40000000
set_option maxRecDepth 100000
abbrev κ (w:World) (b o:Nat) (v:Value):Prop:=w.cell? ⟨b,o,none⟩=some v
abbrev χ:=Calls Tryz.prog
abbrev π (b o:Nat):Value:=.pointer (some ⟨b,o,none⟩)
def Θ (p:Prop):Prop:=p
theorem Θ.o {p:Prop} (h:Θ p):p:=h
abbrev ι (n:Int):Value:=.int .i64 n
open Go.RowKit
open Tryz
structure Ty where
 kind:Int
 cls:Int
structure Cl where
 super:Int
 fields:List Ty
structure In where
 op:Int
 a:Int
 b:Int
 c:Int
 n:Int
 args:List Int
structure Hd where
 fr:Int
 til:Int
 pc:Int
 cls:Int
structure Me where
 params:List Ty
 ret:Ty
 stack:Int
 locs:Int
 regs:Int
 code:List In
 hands:List Hd
structure Fi where
 classes:List Cl
 methods:List Me
def bS:Ty:=⟨0,0⟩
def bL:Cl:=⟨0,[]⟩
def eR:In:=⟨0,0,0,0,0,[]⟩
def eK:Hd:=⟨0,0,0,0⟩
def bT:Me:=⟨[],bS,0,0,0,[],[]⟩
def nth {α:Type} (d:α) (l:List α) (i:Nat):α:=l.getD i d
theorem bE {α:Type} {d:α} {l:List α} {i:Nat} (h:i<l.length):nth d l i∈l:=by simp [nth,List.getD,h]
theorem cg {α:Type} {d:α} {l:List α} {i:Nat} (h:i<l.length):nth d l i=l[i]:=by simp [nth,List.getD,h]
def cJ (n:Int):Prop:=-9223372036854775808<=n/\n<=9223372036854775807
def cX (w:World) (A:Option Addr) (l:List Ty):Prop :=
 l.length<=maxLen/\(l.length=0∨∃b off,A=some ⟨b,off,none⟩/\∀i,i<l.length ->
  w.cell? ⟨b,off+i*2,none⟩=some (ι (nth bS l i).kind)/\w.cell? ⟨b,off+i*2+1,none⟩=some (ι (nth bS l i).cls)
  /\ cJ (nth bS l i).kind/\cJ (nth bS l i).cls)
def bK (w:World) (A:Option Addr) (l:List Cl):Prop :=
 l.length<=maxLen/\(l.length=0∨∃b off,A=some ⟨b,off,none⟩/\∀i,i<l.length ->
  w.cell? ⟨b,off+i*2,none⟩=some (ι (nth bL l i).super)/\cJ (nth bL l i).super /\
  ∃A' c,w.cell? ⟨b,off+i*2+1,none⟩=some (.slice A' (nth bL l i).fields.length c)/\cX w A' (nth bL l i).fields)
def aU (w:World) (A:Option Addr) (l:List Int):Prop :=
 l.length<=maxLen/\(l.length=0∨∃b off,A=some ⟨b,off,none⟩/\∀i,i<l.length->w.cell? ⟨b,off+i,none⟩=some (ι (nth (0:Int) l i))/\cJ (nth (0:Int) l i))
def In.ok (x:In):Prop:=cJ x.op/\cJ x.a/\cJ x.b/\cJ x.c/\cJ x.n
def pn (w:World) (A:Option Addr) (l:List In):Prop :=
 l.length<=maxLen/\(l.length=0∨∃b off,A=some ⟨b,off,none⟩/\∀i,i<l.length ->
  w.cell? ⟨b,off+i*6,none⟩=some (ι (nth eR l i).op)/\w.cell? ⟨b,off+i*6+1,none⟩=some (ι (nth eR l i).a)/\w.cell? ⟨b,off+i*6+2,none⟩=some (ι (nth eR l i).b)
  /\ w.cell? ⟨b,off+i*6+3,none⟩=some (ι (nth eR l i).c)/\w.cell? ⟨b,off+i*6+4,none⟩=some (ι (nth eR l i).n)/\(nth eR l i).ok
  /\ ∃A' c,w.cell? ⟨b,off+i*6+5,none⟩=some (.slice A' (nth eR l i).args.length c)/\aU w A' (nth eR l i).args)
def Hd.ok (x:Hd):Prop:=cJ x.fr/\cJ x.til/\cJ x.pc/\cJ x.cls
def kR (w:World) (A:Option Addr) (l:List Hd):Prop :=
 l.length<=maxLen/\(l.length=0∨∃b off,A=some ⟨b,off,none⟩/\∀i,i<l.length ->
  w.cell? ⟨b,off+i*4,none⟩=some (ι (nth eK l i).fr)/\w.cell? ⟨b,off+i*4+1,none⟩=some (ι (nth eK l i).til)/\w.cell? ⟨b,off+i*4+2,none⟩=some (ι (nth eK l i).pc)
  /\ w.cell? ⟨b,off+i*4+3,none⟩=some (ι (nth eK l i).cls)/\(nth eK l i).ok)
def Me.ok (x:Me):Prop:=cJ x.ret.kind/\cJ x.ret.cls/\cJ x.stack/\cJ x.locs/\cJ x.regs
def ku (w:World) (m:Me) (P C K:Option Addr):Prop:=cX w P m.params/\pn w C m.code/\kR w K m.hands/\m.ok
def cz (w:World) (A:Option Addr) (l:List Me):Prop :=
 l.length<=maxLen/\(l.length=0∨∃b off,A=some ⟨b,off,none⟩/\∀i,i<l.length->∃P C K p c k,
  w.cell? ⟨b,off+i*8,none⟩=some (.slice P (nth bT l i).params.length p)/\w.cell? ⟨b,off+i*8+1,none⟩=some (ι (nth bT l i).ret.kind)/\w.cell? ⟨b,off+i*8+2,none⟩=some (ι (nth bT l i).ret.cls)
  /\ w.cell? ⟨b,off+i*8+3,none⟩=some (ι (nth bT l i).stack)/\w.cell? ⟨b,off+i*8+4,none⟩=some (ι (nth bT l i).locs)/\w.cell? ⟨b,off+i*8+5,none⟩=some (ι (nth bT l i).regs)
  /\ w.cell? ⟨b,off+i*8+6,none⟩=some (.slice C (nth bT l i).code.length c)/\w.cell? ⟨b,off+i*8+7,none⟩=some (.slice K (nth bT l i).hands.length k)/\ku w (nth bT l i) P C K)
def Bl (w w':World):Prop:=Below w.heap.size w w'
theorem Bl.refl (w:World):Bl w w:=Below.refl _ _
section
variable {a:World}
theorem Bl.trans {b c:World} (h:Bl a b) (k:Bl b c):Bl a c:=Below.trans h (Below.mono k h.size)
theorem Bl.alloc {w:World} (h:Bl a w) (o:Obj):Bl a (w.alloc o):=Below.alloc h h.size o
theorem Bl.drew {w:World} (h:Bl a w):Bl a w.drew:=Below.drew h
theorem Bl.setCell {w:World} (h:Bl a w) {p:Addr} (hp:a.heap.size<=p.block) (u:Value):Bl a (w.setCell p u):=Below.setCell h hp u
theorem Bl.size {w:World} (h:Bl a w):a.heap.size<=w.heap.size:=Below.size h
end
theorem br {w:World} {b o:Nat} {v:Value} (hc:w.cell? ⟨b,o,none⟩=some v):b<w.heap.size:=by
 by_cases hb:b<w.heap.size
 ·exact hb
 ·simp [World.cell?,hb] at hc
theorem ai {w:World} {cs:Array Value} {t:TypeId} {o:Nat} {v:Value} (h:cs[o]?=some v):(w.alloc (.cells cs t)).cell? ⟨w.heap.size,o,none⟩=some v:=by
 have e:(w.alloc (.cells cs t)).heap[w.heap.size]?=some (.cells cs t):=by
  show (w.heap.push _)[w.heap.size]?=_
  simp
 unfold World.cell?
 rw [e]
 simpa using h
section
variable {W w':World}
theorem Bl.cell (h:Bl W w') {b o:Nat} {v:Value} (hc:κ W b o v):w'.cell? ⟨b,o,none⟩=some v :=
 (Below.cell h (p:=⟨b,o,none⟩) (br hc)).trans hc
theorem aU.bl (h:Bl W w') {A:Option Addr} {l:List Int} (hl:aU W A l):aU w' A l:=by
 refine ⟨hl.1,?_⟩
 rcases hl.2 with h0|⟨b,off,rfl,hi⟩
 ·exact Or.inl h0
 right
 exact ⟨b,off,rfl,fun i hlt=>⟨h.cell (hi i hlt).1,(hi i hlt).2⟩⟩
theorem pn.bl (h:Bl W w') {A:Option Addr} {l:List In} (hl:pn W A l):pn w' A l:=by
 refine ⟨hl.1,?_⟩
 rcases hl.2 with h0|⟨b,off,rfl,hi⟩
 ·exact Or.inl h0
 right
 refine ⟨b,off,rfl,fun i hlt=>?_⟩
 obtain ⟨h0,h1,h2,h3,h4,h5,A',c,h6,h7⟩:=hi i hlt
 exact ⟨h.cell h0,h.cell h1,h.cell h2,h.cell h3,h.cell h4,h5,A',c,h.cell h6,h7.bl h⟩
theorem kR.bl (h:Bl W w') {A:Option Addr} {l:List Hd} (hl:kR W A l):kR w' A l:=by
 refine ⟨hl.1,?_⟩
 rcases hl.2 with h0|⟨b,off,rfl,hi⟩
 ·exact Or.inl h0
 right
 refine ⟨b,off,rfl,fun i hlt=>?_⟩
 obtain ⟨h0,h1,h2,h3,h4⟩:=hi i hlt
 exact ⟨h.cell h0,h.cell h1,h.cell h2,h.cell h3,h4⟩
theorem cX.bl (h:Bl W w') {A:Option Addr} {l:List Ty} (hl:cX W A l):cX w' A l:=by
 refine ⟨hl.1,?_⟩
 rcases hl.2 with h0|⟨b,off,rfl,hi⟩
 ·exact Or.inl h0
 right
 exact ⟨b,off,rfl,fun i hlt=>⟨h.cell (hi i hlt).1,h.cell (hi i hlt).2.1,(hi i hlt).2.2⟩⟩
theorem bK.bl (h:Bl W w') {A:Option Addr} {l:List Cl} (hl:bK W A l):bK w' A l:=by
 refine ⟨hl.1,?_⟩
 rcases hl.2 with h0|⟨b,off,rfl,hi⟩
 ·exact Or.inl h0
 right
 refine ⟨b,off,rfl,fun i hlt=>⟨h.cell (hi i hlt).1,(hi i hlt).2.1,?_⟩⟩
 obtain ⟨A',c,h1,h2⟩:=(hi i hlt).2.2
 exact ⟨A',c,h.cell h1,h2.bl h⟩
theorem ku.bl (h:Bl W w') {m:Me} {P C K:Option Addr} (hl:ku W m P C K):ku w' m P C K :=
 ⟨hl.1.bl h,hl.2.1.bl h,hl.2.2.1.bl h,hl.2.2.2⟩
theorem cz.bl (h:Bl W w') {A:Option Addr} {l:List Me} (hl:cz W A l):cz w' A l:=by
 refine ⟨hl.1,?_⟩
 rcases hl.2 with h0|⟨b,off,rfl,hi⟩
 ·exact Or.inl h0
 right
 refine ⟨b,off,rfl,fun i hlt=>?_⟩
 obtain ⟨P,C,K,p,c,k,h0,h1,h2,h3,h4,h5,h6,h7,h8⟩:=hi i hlt
 exact ⟨P,C,K,p,c,k,h.cell h0,h.cell h1,h.cell h2,h.cell h3,h.cell h4,h.cell h5,h.cell h6,h.cell h7,h8.bl h⟩
end
def fP (n:Nat) (t:Ty):Bool:=decide ((t.kind=3/\0<=t.cls/\t.cls<n)∨((t.kind=1∨t.kind=2)/\t.cls=0))
def qC (l:List Cl) (i:Nat):Bool :=
 decide ((i=0∨(0<=(nth bL l i).super/\(nth bL l i).super<i))/\(nth bL l i).fields.length<=6)&&(nth bL l i).fields.all (fP l.length)
def dt (l:List Cl):Bool:=decide (4<=l.length/\l.length<=12/\(nth bL l 0).super=-1)&&(List.range l.length).all (qC l)
theorem nB {l:List Cl} (h:l.length<4∨12<l.length∨(nth bL l 0).super≠-1):dt l=false:=by
 have:¬(4<=l.length/\l.length<=12/\(nth bL l 0).super=-1):=by omega
 unfold dt;rw [decide_eq_false this];rfl
section
variable {l:List Cl} {i:Nat}
theorem tY (hi:i<l.length) (h:qC l i=false):dt l=false:=by
 have:(List.range l.length).all (qC l)=false:=by
  rw [List.all_eq_false];exact ⟨i,by simpa using hi,by simp [h]⟩
 simp [dt,this]
theorem yI (h:¬((i=0∨(0<=(nth bL l i).super/\(nth bL l i).super<i))/\(nth bL l i).fields.length<=6)):qC l i=false:=by
 unfold qC;rw [decide_eq_false h];rfl
theorem P5 {k:Nat} (hk:k<(nth bL l i).fields.length) (h:fP l.length (nth bS (nth bL l i).fields k)=false):qC l i=false:=by
 have:(nth bL l i).fields.all (fP l.length)=false:=by
  rw [List.all_eq_false]
  exact ⟨nth bS (nth bL l i).fields k,bE hk,by rw [h];decide⟩
 unfold qC;rw [this,Bool.and_false]
theorem JW (h:(i=0∨(0<=(nth bL l i).super/\(nth bL l i).super<i))/\(nth bL l i).fields.length<=6) (ht:∀k,k<(nth bL l i).fields.length->fP l.length (nth bS (nth bL l i).fields k)=true):qC l i=true:=by
 have:(nth bL l i).fields.all (fP l.length)=true:=by
  generalize (nth bL l i).fields=f at ht
  rw [List.all_eq_true]
  intro x hx
  obtain ⟨k,hk,rfl⟩:=List.getElem_of_mem hx
  rw [<-cg hk];exact ht k hk
 unfold qC;rw [this,decide_eq_true h];rfl
end
theorem wH {l:List Cl} (h:4<=l.length/\l.length<=12/\(nth bL l 0).super=-1) (hc:∀i,i<l.length->qC l i=true):dt l=true:=by
 have:(List.range l.length).all (qC l)=true:=by
  rw [List.all_eq_true];intro i hi;exact hc i (by simpa using hi)
 unfold dt;rw [this,decide_eq_true h];rfl
def cj:List Ty->Nat
 | []=>0
 | t::l=>(if t.kind=2 then 2 else 1)+cj l
def nk (nc n:Nat) (h:Hd):Bool:=decide (0<=h.fr/\h.fr<h.til/\h.til<=n/\0<=h.pc/\h.pc<n/\0<=h.cls/\h.cls<nc)
def mn (nc:Nat) (t:Ty):Bool:=decide (t.kind=0/\t.cls=0)||fP nc t
def dS (nc:Nat) (m:Me) (most:Int):Bool :=
 decide (m.params.length<=4/\m.hands.length<=8/\1<=m.code.length/\(m.code.length:Int)<=most)&&m.params.all (fP nc)&&m.hands.all (nk nc m.code.length)&&mn nc m.ret
theorem jA {α:Type} {d:α} {p:α->Bool} {l:List α} {k:Nat} (hk:k<l.length) (h:p (nth d l k)=false):l.all p=false:=by
 rw [List.all_eq_false]
 exact ⟨nth d l k,bE hk,by rw [h];decide⟩
theorem iq {α:Type} {d:α} {p:α->Bool} {l:List α} (h:∀k,k<l.length->p (nth d l k)=true):l.all p=true:=by
 rw [List.all_eq_true]
 intro x hx
 obtain ⟨k,hk,rfl⟩:=List.getElem_of_mem hx
 rw [<-cg (d:=d) hk];exact h k hk
theorem oC (l:List Ty):cj l<=2*l.length:=by
 induction l with
 | nil=>simp [cj]
 | cons t l ih=>simp only [cj,List.length_cons];split<;>omega
theorem po (l:List Ty) (k:Nat) (h:k<l.length):cj (l.take (k+1))=cj (l.take k)+(if (nth bS l k).kind=2 then 2 else 1):=by
 induction l generalizing k with
 | nil=>simp at h
 | cons t l ih =>
  cases k with
  | zero=>simp [cj,nth]
  | succ k =>
   have:=ih k (by simpa using h)
   have e:nth bS (t::l) (k+1)=nth bS l k:=by simp [nth]
   rw [e,List.take_succ_cons,List.take_succ_cons,cj,cj,this];omega
section
def par (l:List Cl) (c:Nat):Nat:=(nth bL l c).super.toNat
def upsF (l:List Cl):Nat->Nat->List Nat
 | 0,_=>[]
 | k+1,c=>c::if c=0 then [] else upsF l k (par l c)
def ups (l:List Cl) (c:Nat):List Nat:=upsF l (c+1) c
structure Tree (l:List Cl):Prop where
 zero:(nth bL l 0).super=-1
 up:∀c,0<c->c<l.length->0<=(nth bL l c).super/\(nth bL l c).super<c
theorem qD {l:List Cl} (h:dt l=true):Tree l/\4<=l.length/\l.length<=12:=by
 unfold dt at h
 rw [Bool.and_eq_true,decide_eq_true_eq,List.all_eq_true] at h
 refine ⟨⟨h.1.2.2,fun c h0 hc=>?_⟩,h.1.1,h.1.2.1⟩
 have:=h.2 c (by simpa using hc)
 unfold qC at this
 rw [Bool.and_eq_true,decide_eq_true_eq] at this
 rcases this.1.1 with h1|h1
 ·omega
 ·exact h1
section
variable {l:List Cl}
theorem qE (ht:Tree l) {c:Nat} (h0:0<c) (hc:c<l.length):par l c<c:=by
 have:=ht.up c h0 hc
 unfold par;omega
theorem ta (ht:Tree l) {c:Nat} (h0:0<c) (hc:c<l.length):(nth bL l c).super=(par l c:Nat):=by
 have:=ht.up c h0 hc
 unfold par;omega
theorem upsF_more (ht:Tree l) (c:Nat):∀k,c<l.length->c<k->upsF l k c=upsF l (c+1) c:=by
 induction c using Nat.strongRecOn with
 | _ c ih =>
  intro k hc hk
  obtain ⟨k,rfl⟩:∃k',k=k'+1:=⟨k-1,by omega⟩
  unfold upsF
  by_cases h0:c=0
  ·rw [if_pos h0,if_pos h0]
  ·rw [if_neg h0,if_neg h0]
   have hp:=qE ht (by omega) hc
   rw [ih _ hp k (by omega) (by omega),ih _ hp c (by omega) (by omega)]
theorem ups_zero:ups l 0=[0]:=rfl
theorem ups_step (ht:Tree l) {c:Nat} (h0:0<c) (hc:c<l.length):ups l c=c::ups l (par l c):=by
 have hp:=qE ht h0 hc
 show upsF l (c+1) c=_
 rw [upsF,if_neg (by omega),upsF_more ht _ _ (by omega) hp]
 rfl
theorem ups_head (c:Nat):c∈ups l c:=by unfold ups upsF;simp
theorem ups_le (ht:Tree l) (c:Nat) (hc:c<l.length):∀x,x∈ups l c->x<=c:=by
 induction c using Nat.strongRecOn with
 | _ c ih =>
  intro x hx
  by_cases h0:c=0
  ·subst h0;rw [ups_zero] at hx;simp at hx;omega
  ·rw [ups_step ht (by omega) hc] at hx
   have hp:=qE ht (by omega) hc
   rcases List.mem_cons.1 hx with rfl|hx
   ·exact Nat.le_refl _
   ·have:=ih _ hp (by omega) x hx;omega
def oD (l:List Cl) (c d j:Nat):Prop:=j∈ups l c/\j∈ups l d/\∀x,x∈ups l c->x∈ups l d->x<=j
theorem oD.one {c d i j:Nat} (h:oD l c d i) (k:oD l c d j):i=j :=
 Nat.le_antisymm (k.2.2 _ h.1 h.2.1) (h.2.2 _ k.1 k.2.1)
theorem oD.symm {c d i:Nat} (h:oD l c d i):oD l d c i:=⟨h.2.1,h.1,fun x a b=>h.2.2 x b a⟩
theorem most {j:Nat}:∀(L:List Nat) (a:Nat),a<=j->(∀x∈L,x<=j)->(j=a∨j∈L)->L.foldl max a=j
 | [],a,_,_,h=>by
  rcases h with h|h
  ·exact h.symm
  ·cases h
 | x::L,a,ha,hL,h=>by
  have hx:=hL x (by simp)
  refine most L (max a x) (by omega) (fun y hy=>hL y (List.mem_cons_of_mem _ hy)) ?_
  rcases h with h|h
  ·left;omega
  ·rcases List.mem_cons.1 h with h|h
   ·left;omega
   ·exact Or.inr h
def fJ (l:List Cl) (c d:Nat):Bool:=decide (d∈ups l c)
theorem A9 {c d:Nat}:fJ l c d=true↔d∈ups l c:=by unfold fJ;simp
theorem E9 (c:Nat):fJ l c c=true:=A9.2 (ups_head c)
theorem Fa (ht:Tree l) {c d:Nat} (hc:c<l.length) (hd:d<c):fJ l c d=fJ l (par l c) d:=by
 unfold fJ
 rw [ups_step ht (by omega) hc]
 have:d≠c:=by omega
 simp [this]
theorem JX (ht:Tree l) {c d:Nat} (hc:c<l.length) (hd:c<d):fJ l c d=false:=by
 unfold fJ
 rw [decide_eq_false_iff_not]
 intro h;have:=ups_le ht _ hc _ h;omega
def lg (l:List Cl) (c d:Int):Bool:=decide (0<=c/\c<l.length/\0<=d/\d<l.length)
def Fb (l:List Cl) (c d:Int):Bool:=dt l&&lg l c d&&fJ l c.toNat d.toNat
end
end
section
open Go.RowKit (wrap32 wrap64)
theorem wI {k:IntKind} {a b:Int} (h:a=b):Ending.returned (.int k a)=.returned (.int k b):=by rw [h]
theorem yJ (a:Int):-2147483648<=wrap32 a/\wrap32 a<=2147483647:=by unfold wrap32;omega
theorem Nv (a:Int):-9223372036854775808<=wrap64 a/\wrap64 a<=9223372036854775807:=by unfold wrap64;omega
theorem JY (a:Int):wrap64 (wrap32 a)=wrap32 a:=by unfold wrap64 wrap32;omega
theorem Nw {a:Int} (h:-9223372036854775808<=a) (h':a<=9223372036854775807):wrap64 a=a:=by unfold wrap64;omega
theorem Ba (a b:Int):wrap64 (wrap64 a+wrap64 b)=wrap64 (a+b):=by unfold wrap64;omega
theorem Cv {a b:Int} (k:Int) (h:a=b+18446744073709551616*k):wrap64 a=wrap64 b:=by unfold wrap64;omega
section
variable (a:Int)
theorem JZ (b:Int):wrap64 (wrap64 a*b)=wrap64 (a*b):=by
 have h:wrap64 a=a+18446744073709551616*(-((a+9223372036854775808)/18446744073709551616)):=by unfold wrap64;omega
 rw [h,Int.add_mul,Int.mul_assoc]
 exact Cv _ rfl
theorem jO (b:Int):a.tdiv b*b+a.tmod b=a:=Int.tdiv_mul_add_tmod a b
theorem tf (b:Int):a.tmod b=0∨(a.tmod b<0↔a<0):=by
 rcases Int.lt_trichotomy a 0 with h|h|h
 ·have h1:0<=(-a).tmod b:=Int.tmod_nonneg _ (by omega)
  rw [Int.neg_tmod] at h1
  omega
 ·subst h;left;simp
 ·have:0<=a.tmod b:=Int.tmod_nonneg _ (by omega)
  omega
theorem Ju (b:Int) (h:-9223372036854775808<=a) (h':a<=9223372036854775807):-9223372036854775808<=a.tmod b/\a.tmod b<=9223372036854775807:=by
 have h1:=Int.natAbs_tmod a b
 have h2:(a.tmod b).natAbs<=a.natAbs:=by rw [h1];exact Nat.mod_le _ _
 have:=tf a b
 omega
theorem yK :
  (a.tmod 4294967296<0->a.tmod 4294967296+4294967296≥2147483648->wrap32 a=a.tmod 4294967296+4294967296-4294967296)
  /\ (a.tmod 4294967296<0->a.tmod 4294967296+4294967296<2147483648->wrap32 a=a.tmod 4294967296+4294967296)
  /\ (0<=a.tmod 4294967296->a.tmod 4294967296≥2147483648->wrap32 a=a.tmod 4294967296-4294967296)
  /\ (0<=a.tmod 4294967296->a.tmod 4294967296<2147483648->wrap32 a=a.tmod 4294967296):=by
 have h1:=jO a 4294967296
 have h2:a.tmod 4294967296<4294967296:=Int.tmod_lt_of_pos _ (by omega)
 have h3:-4294967296<a.tmod 4294967296:=by
  have:=Int.lt_tmod_of_pos a (b:=4294967296) (by omega);omega
 unfold wrap32
 refine ⟨?_,?_,?_,?_⟩<;>intros<;>omega
theorem Cx:-4294967295<=a.tmod 4294967296/\a.tmod 4294967296<=4294967295:=by
 have h2:a.tmod 4294967296<4294967296:=Int.tmod_lt_of_pos _ (by omega)
 have h3:-4294967296<a.tmod 4294967296:=by
  have:=Int.lt_tmod_of_pos a (b:=4294967296) (by omega);omega
 omega
end
def fw (n:Int) (k:Nat):Bool:=decide (n/2 ^ k%2=1)
theorem MC (n:Int):(0<=n.tmod 2->n.tmod 2=n%2)/\(n.tmod 2<0->n.tmod 2+2=n%2/\n%2=1)/\-1<=n.tmod 2/\n.tmod 2<=1:=by
 have h1:=jO n 2
 have h2:n.tmod 2<2:=Int.tmod_lt_of_pos _ (by omega)
 have h3:-2<n.tmod 2:=by
  have:=Int.lt_tmod_of_pos n (b:=2) (by omega);omega
 omega
theorem Cy (n:Int):(n-n%2).tdiv 2=n/2:=by
 have:n-n%2=2*(n/2):=by omega
 rw [this,Int.mul_tdiv_cancel_left _ (by omega)]
theorem tZ (a:Int) (k:Nat):a/2 ^ (k+1)=a/2 ^ k/2:=by
 rw [Int.pow_succ,Int.ediv_ediv_of_nonneg (Int.le_of_lt (Int.pow_pos (by omega)))]
def iB (f:Nat->Bool):Nat->Nat
 | 0=>0
 | k+1=>iB f k+if f k then 2 ^ k else 0
theorem qF {f g:Nat->Bool}:∀k,(∀i,i<k->f i=g i)->iB f k=iB g k
 | 0,_=>rfl
 | k+1,h=>by
  have:=qF k (fun i hi=>h i (by omega))
  simp only [iB];rw [this,h k (by omega)]
theorem nC (x:Nat):∀k,iB (fun i=>x.testBit i) k=x%2 ^ k
 | 0=>by simp [iB,Nat.mod_one]
 | k+1=>by
  simp only [iB]
  rw [nC x k,Nat.mod_pow_succ]
  have hb:x.testBit k=decide (x/2 ^ k%2=1):=Nat.testBit_eq_decide_div_mod_eq
  have:x/2 ^ k%2<2:=Nat.mod_lt _ (by omega)
  by_cases h:x/2 ^ k%2=1
  ·simp [hb,h]
  ·have:x/2 ^ k%2=0:=by omega
   simp [hb,this]
theorem Cz (i:Nat) (h:i<64):(2:Int) ^ 64=2 ^ i*(2*2 ^ (63-i)):=by
 rw [<-Int.mul_assoc,<-Int.pow_succ,<-Int.pow_add];congr 1;omega
theorem mB (a:Int) (i:Nat) (h:i<64):(BitVec.ofInt 64 a).toNat.testBit i=fw a i:=by
 rw [BitVec.toNat_ofInt,Nat.testBit_eq_decide_div_mod_eq]
 unfold fw
 have hm:(0:Int)<=a%((2 ^ 64:Nat):Int):=Int.emod_nonneg _ (by decide)
 have hc:(((a%((2 ^ 64:Nat):Int)).toNat/2 ^ i%2:Nat):Int)=a/2 ^ i%2:=by
  rw [Int.natCast_emod,Int.natCast_ediv,Int.toNat_of_nonneg hm,Int.natCast_pow]
  have hp:(0:Int)<2 ^ i:=Int.pow_pos (by omega)
  have he:a=a%((2 ^ 64:Nat):Int)+2 ^ i*(2*2 ^ (63-i)*(a/((2 ^ 64:Nat):Int))):=by
   have hs:=Cz i h
   have hd:=Int.emod_add_mul_ediv a ((2 ^ 64:Nat):Int)
   rw [<-Int.mul_assoc,<-hs]
   have X4:(((2 ^ 64:Nat):Int))=(2:Int) ^ 64:=by decide
   rw [X4] at hd ⊢
   exact hd.symm
  conv=>rhs;rw [he]
  rw [Int.add_mul_ediv_left _ _ (by omega),Int.mul_assoc]
  simp
 have:((a%((2 ^ 64:Nat):Int)).toNat/2 ^ i%2=1)↔(a/2 ^ i%2=1):=by omega
 exact decide_eq_decide.mpr this
def CB (op:Int) (x y:Bool):Bool:=(decide (op=6)&&(x&&y))||(decide (op=7)&&(x||y))||(decide (op=8)&&(x !=y))
theorem qG (f:Bool->Bool->Bool) (a b:Int) (r:BitVec 64)
  (h:∀i,i<64->r.toNat.testBit i=f ((BitVec.ofInt 64 a).toNat.testBit i) ((BitVec.ofInt 64 b).toNat.testBit i)) :
  IntKind.i64.wrap (r.toNat:Int)=wrap64 (iB (fun i=>f (fw a i) (fw b i)) 64:Nat):=by
 have hs:iB (fun i=>f (fw a i) (fw b i)) 64=r.toNat:=by
  rw [<-Nat.mod_eq_of_lt r.isLt,<-nC]
  refine qF _ fun i hi=>?_
  rw [h i hi,mB _ _ hi,mB _ _ hi]
 rw [hs];exact IntWalk.i64_left _
theorem Fe (a b:Int):bits .and .i64 a b=wrap64 (iB (fun i=>fw a i&&fw b i) 64:Nat) :=
 qG (fun x y=>x&&y) a b _ fun i _=>by
  show (BitVec.ofInt 64 a &&& BitVec.ofInt 64 b).toNat.testBit i=_
  rw [BitVec.toNat_and,Nat.testBit_and]
theorem J0 (a b:Int):bits .or .i64 a b=wrap64 (iB (fun i=>fw a i||fw b i) 64:Nat) :=
 qG (fun x y=>x||y) a b _ fun i _=>by
  show (BitVec.ofInt 64 a ||| BitVec.ofInt 64 b).toNat.testBit i=_
  rw [BitVec.toNat_or,Nat.testBit_or]
theorem Ff (a b:Int):bits .xor .i64 a b=wrap64 (iB (fun i=>fw a i !=fw b i) 64:Nat) :=
 qG (fun x y=>x !=y) a b _ fun i _=>by
  show (BitVec.ofInt 64 a ^^^ BitVec.ofInt 64 b).toNat.testBit i=_
  rw [BitVec.toNat_xor,Nat.testBit_xor]
def dD (op a b:Int):Int :=
 if op=1 then wrap64 (a+b) else if op=2 then wrap64 (a-b) else if op=3 then wrap64 (a*b)
 else if op=4 then (if b=0 then 0 else wrap64 (a.tdiv b)) else if op=5 then (if b=0 then 0 else a.tmod b)
 else if op=6∨op=7∨op=8 then wrap64 (iB (fun i=>CB op (fw a i) (fw b i)) 64:Nat) else 0
def ep (op b:Int):Bool:=decide (1<=op/\op<=8/\¬(b=0/\(op=4∨op=5)))
def lh (a b:Int):Int:=if a<b then -1 else if b<a then 1 else 0
def kC (c a:Int):Bool:=(decide (c=1)&&decide (a=0))||(decide (c=2)&&decide (a<0))||(decide (c=3)&&decide (a≠0))||(decide (c=4)&&decide (0<a))
theorem J1 (a b:Int):dD 6 a b=bits .and .i64 a b:=by rw [Fe];simp [dD,CB]
theorem Nx (a b:Int):dD 7 a b=bits .or .i64 a b:=by rw [J0];simp [dD,CB]
theorem J2 (a b:Int):dD 8 a b=bits .xor .i64 a b:=by rw [Ff];simp [dD,CB]
end
structure Va where
 kind:Int
 n:Int
structure pO where
 cls:Int
 fld:Int
 v:Va
structure Ob where
 cls:Int
 held:List pO
structure Sh where
 fin:Int
 value:Int
 cls:Int
 o:List Int
 used:Int
 steps:Int
structure Hp where
 file:Fi
 objs:List Ob
 input:List Int
 calls:Int
 fuel:Int
 sh:Sh
 over:Bool
 thrown:Int
def aE:Va:=⟨0,0⟩
def cE:pO:=⟨0,0,aE⟩
def cF:Ob:=⟨0,[]⟩
def Hp.fin (h:Hp) (how:Int):Hp:=if h.over=true then h else { h with over:=true,sh:={ h.sh with fin:=how } }
def Hp.stops (h:Hp):Bool:=h.over||decide (0<=h.thrown)
def Hp.must (h:Hp) (b:Bool):Hp:=if b=true then h else h.fin 6
def Hp.mustB (h:Hp) (b:Bool):Bool:=b&&!h.over
def jb (t:Ty):Va:=⟨t.kind,if t.kind=3 then -1 else 0⟩
def gL (cs:List Cl) (c d:Nat):List pO :=
 if fJ cs c d=true then (List.range (nth bL cs d).fields.length).map (fun k=>⟨(d:Nat),(k:Nat),jb (nth bS (nth bL cs d).fields k)⟩) else []
def cZ (cs:List Cl) (c:Nat):List pO:=(List.range cs.length).flatMap (gL cs c)
def Hp.full (h:Hp):Bool:=decide (100<=h.objs.length)
def Hp.new (h:Hp) (c:Int):Hp:=if h.full=true then h.fin 4 else { h with objs:=h.objs++[⟨c,cZ h.file.classes c.toNat⟩] }
def Hp.newV (h:Hp):Va:=if h.full=true then aE else ⟨3,(h.objs.length:Nat)⟩
def Hp.raise (h:Hp) (c:Int):Hp:=if (h.new c).over=true then h.new c else { h.new c with thrown:=h.newV.n }
def fu (cs:List Cl) (x y:Int):Bool:=lg cs x y&&fJ cs x.toNat y.toNat
def Hp.obj (h:Hp) (n:Int):Ob:=nth cF h.objs n.toNat
def Hp.of (h:Hp) (v:Va) (t:Ty):Bool :=
 decide (v.kind=t.kind)&&(decide (t.kind≠3)||(decide (v.n<0)||fu h.file.classes (h.obj v.n).cls t.cls))
def isRef (v:Va):Bool:=decide (v.kind=3)
def Hp.throw (h:Hp) (v:Va):Hp :=
 if h.mustB (isRef v)=true then (if v.n<0 then h.raise 1 else { h with thrown:=v.n }) else h.must (isRef v)
def eB (l:List pO) (c k:Int):Int:=match l.findIdx? (fun x=>decide (x.cls=c/\x.fld=k)) with
 | some i=>(i:Nat)
 | none=>-1
def Hp.findH (h:Hp) (r:Va) (c:Int):Hp :=
 if h.mustB (h.of r ⟨3,c⟩)=true then (if r.n<0 then h.raise 1 else h) else h.must (h.of r ⟨3,c⟩)
def Hp.findN (h:Hp) (r:Va) (c k:Int):Int :=
 if h.mustB (h.of r ⟨3,c⟩)=true then (if r.n<0 then -1 else eB (h.obj r.n).held c k) else -1
def Hp.getV (h:Hp) (r:Va) (c k:Int):Va :=
 if h.findN r c k<0 then aE else (nth cE (h.obj r.n).held (h.findN r c k).toNat).v
def Hp.setV (h:Hp) (n:Nat) (j:Nat) (v:Va):Hp :=
 { h with objs:=h.objs.set n { nth cF h.objs n with held:=(nth cF h.objs n).held.set j { nth cE (nth cF h.objs n).held j with v:=v } } }
def bI (cs:List Cl) (c k:Int):Ty:=nth bS (nth bL cs c.toNat).fields k.toNat
def Hp.put (h:Hp) (r:Va) (c k:Int) (v:Va):Hp :=
 if h.mustB (h.of v (bI h.file.classes c k))=true then (if h.findN r c k<0 then h.findH r c else (h.findH r c).setV r.n.toNat (h.findN r c k).toNat v)
 else h.must (h.of v (bI h.file.classes c k))
def Hp.cast (h:Hp) (v:Va) (c:Int):Hp :=
 if h.mustB (isRef v)=true then (if h.of v ⟨3,c⟩=true then h else h.raise 3) else h.must (isRef v)
def Hp.isV (h:Hp) (v:Va) (c:Int):Va :=
 ⟨1,if (h.mustB (isRef v)&&(decide (0<=v.n)&&fu h.file.classes (h.obj v.n).cls c))=true then 1 else 0⟩
def eU (a b:Va) (k:Int):Bool:=decide (a.kind=k)&&decide (b.kind=k)
def Hp.emit (h:Hp) (v:Va) (k:Int):Hp :=
 if h.mustB (decide (v.kind=k))=true then { h with sh:={ h.sh with o:=h.sh.o++[v.n] } } else h.must (decide (v.kind=k))
def Hp.dry (h:Hp):Bool:=decide ((h.input.length:Int)<=h.sh.used)
def Hp.input' (h:Hp):Hp:=if h.dry=true then h.fin 3 else { h with sh:={ h.sh with used:=h.sh.used+1 } }
def Hp.inV (h:Hp):Va:=if h.dry=true then aE else ⟨2,nth (0:Int) h.input h.sh.used.toNat⟩
def Hp.step (h:Hp):Hp:=if h.over=true then h else if h.fuel<=h.sh.steps then h.fin 0 else { h with sh:={ h.sh with steps:=h.sh.steps+1 } }
def Hp.stepB (h:Hp):Bool:=!h.over&&decide (h.sh.steps<h.fuel)
def cI (l:List Va) (a:Nat):List Va :=
 if (nth aE l a).kind=9 then (l.set (a-1) aE).set a aE else if (nth aE l a).kind=2 then (l.set (a+1) aE).set a aE else l.set a aE
def eL (l:List Va) (a:Nat) (v:Va):List Va :=
 if v.kind=2 then (((cI (cI l a) (a+1)).set (a+1) ⟨9,0⟩).set a v) else (cI l a).set a v
def bN:List Va->Nat
 | []=>0
 | v::l=>(if v.kind=2 then 2 else 1)+bN l
theorem dE {h:Hp} {b:Bool} (hm:h.mustB b=true):b=true/\h.over=false/\h.must b=h:=by
 unfold Hp.mustB at hm
 simp at hm
 refine ⟨hm.1,hm.2,?_⟩
 unfold Hp.must;rw [if_pos hm.1]
theorem kD {h:Hp} {r:Va} {c:Int} (ho:h.of r ⟨3,c⟩=true):r.kind=3:=by
 unfold Hp.of at ho
 simp at ho
 exact ho.1
theorem th (l:List pO) (c k:Int):eB l c k=-1∨∃q:Nat,q<l.length/\eB l c k=q:=by
 unfold eB
 cases h:l.findIdx? (fun x=>decide (x.cls=c/\x.fld=k)) with
 | none=>exact Or.inl rfl
 | some i =>
  rw [List.findIdx?_eq_some_iff_getElem] at h
  exact Or.inr ⟨i,h.1,rfl⟩
theorem eZ {α:Type} {d:α} {l:List α} {n:Nat} {x:α} (h:n<l.length):nth d (l.set n x) n=x:=by simp [nth,List.getD,h]
theorem dY {α:Type} {d:α} {l:List α} {n i:Nat} {x:α} (h:n≠i):nth d (l.set n x) i=nth d l i:=by simp [nth,List.getD,List.getElem?_set_ne h]
theorem fQ (l:List Va) (a:Nat):(cI l a).length=l.length:=by unfold cI;split<;>(try split)<;>simp
theorem fR (l:List Va) (a:Nat) (v:Va):(eL l a v).length=l.length:=by unfold eL;split<;>simp [fQ]
theorem lZ {x y:Int} (h:x=y):Ending.returned (ι x)=.returned (ι y):=by rw [h]
theorem ag {x y:Bool} (h:x=y):Ending.returned (.bool x)=.returned (.bool y):=by rw [h]
theorem iW (A:Option Addr) (n c:Nat) (k x:Int) (w:World) :
  χ 49 #[.slice A n c,.agg #[ι k,ι x]] w fun e w'=>e=.returned (.bool (fP n ⟨k,x⟩))/\Bl w w':=by
 by_cases h3:k=3
 ·subst h3
  go_enter func49,ntmps49
  go_wp2
  all_goals
   go_ret
   refine ⟨ag ?_,(Bl.refl _).alloc _⟩
   unfold fP
   rw [Bool.eq_iff_iff];simp;omega
 ·go_enter func49,ntmps49
  go_wp2
  all_goals
   go_ret
   refine ⟨ag ?_,(Bl.refl _).alloc _⟩
   unfold fP
   rw [Bool.eq_iff_iff];simp;omega
theorem qH (A:Option Addr) (c:Nat) (l:List Cl) (w:World) (hl:bK w A l) :
  χ 19 #[.slice A l.length c] w fun e w'=>e=.returned (.bool (dt l))/\Bl w w':=by
 obtain ⟨hm,hl⟩:=hl
 unfold maxLen at hm
 by_cases h4:l.length<4
 ·have hb:=nB (Or.inl h4)
  rw [hb]
  clear hb hl
  go_enter func19,ntmps19
  go_wp2
  go_ret
  exact ⟨rfl,Bl.refl _⟩
 by_cases jU:12<l.length
 ·have hb:=nB (Or.inr (Or.inl jU))
  rw [hb]
  clear hb hl
  go_enter func19,ntmps19
  go_wp2
  go_ret
  exact ⟨rfl,Bl.refl _⟩
 rcases hl with hl|⟨b,off,rfl,hc⟩
 ·omega
 have hs0:=(hc 0 (by omega)).1
 rw [Nat.zero_mul,Nat.add_zero] at hs0
 by_cases h0:(nth bL l 0).super=-1
 ·rw [h0] at hs0
  have HB:Θ ((∀i,i<l.length->qC l i=true)->dt l=true):=fun h=>wH ⟨by omega,by omega,h0⟩ h
  go_enter func19,ntmps19
  go_wp2
  go_loopw [4] (fun i wr=>∃k:Nat,k<=l.length/\i=ι k/\Θ (∀j,j<k->qC l j=true)/\Θ (Bl w wr)) (fun i _=>l.length-(intOf i).toNat)
  case atStart=>exact ⟨0,Nat.zero_le _,rfl,fun j hj=>absurd hj (Nat.not_lt_zero _),Bl.refl _⟩
  case round =>
   obtain ⟨k,hk,rfl,wJ,hg⟩:=hrel
   clear hs0 h0
   by_cases hlt:k<l.length
   ·obtain ⟨qI,J3,A',c',hfl,hty⟩:=hc k hlt
    replace qI:=Bl.cell hg.o qI
    replace hfl:=Bl.cell hg.o hfl
    replace hty:=cX.bl hg.o hty
    have jP:Θ (¬((k=0∨(0<=(nth bL l k).super/\(nth bL l k).super<k))/\(nth bL l k).fields.length<=6)->dt l=false):=fun h=>tY hlt (yI h)
    have Fg:Θ (∀q,q<(nth bL l k).fields.length->fP l.length (nth bS (nth bL l k).fields q)=false->dt l=false):=fun q hq h=>tY hlt (P5 hq h)
    have Bb:Θ (((k=0∨(0<=(nth bL l k).super/\(nth bL l k).super<k))/\(nth bL l k).fields.length<=6)->(∀q,q<(nth bL l k).fields.length->fP l.length (nth bS (nth bL l k).fields q)=true)->qC l k=true):=JW
    clear hc HB
    obtain ⟨JE,hty⟩:=hty
    unfold maxLen at JE
    generalize hS:(nth bL l k).super=S at *
    generalize hF:(nth bL l k).fields=F at *
    clear hS hF
    go_wp2
    all_goals first
     | (go_ret;exact ⟨ag (jP.o (by omega)).symm,hg.o⟩)
     | skip
    all_goals
     have HK:Θ ((∀q,q<F.length->fP l.length (nth bS F q)=true)->qC l k=true):=Bb.o (by omega)
     go_loopw [5] (fun i wr=>∃q:Nat,q<=F.length/\i=ι q/\Θ (∀j,j<q->fP l.length (nth bS F j)=true)/\Θ (Bl w wr)/\wr.cell? ⟨b,off+k*2+1,none⟩=some (.slice A' F.length c')/\Θ (cX wr A' F)) (fun i _=>F.length-(intOf i).toNat)
     case atStart=>exact ⟨0,Nat.zero_le _,rfl,fun j hj=>absurd hj (Nat.not_lt_zero _),hg,hfl,⟨JE,hty⟩⟩
     case round =>
      clear qI hfl hty hg
      obtain ⟨q,hq,rfl,lq,hg,hfl,hty⟩:=hrel
      by_cases dI:q<F.length
      ·rcases hty.o.2 with h0|⟨b',iO,rfl,hcell⟩
       ·omega
       obtain ⟨MD,P6,-,-⟩:=hcell q dI
       clear hcell
       cases hT:fP l.length (nth bS F q)
       ·have Ny:fP l.length ⟨(nth bS F q).kind,(nth bS F q).cls⟩=false:=hT
        have HF:=Fg.o q dI hT
        clear Fg hT
        go_wp2_with (go_at_call 49;refine (iW _ _ _ _ _ _).mono ?_;rintro e w1 ⟨rfl,kS⟩)
        go_ret
        exact ⟨ag HF.symm,Bl.trans hg.o kS⟩
       ·have Ny:fP l.length ⟨(nth bS F q).kind,(nth bS F q).cls⟩=true:=hT
        have HT:Θ (fP l.length (nth bS F q)=true):=hT
        clear hT
        go_wp2_with (go_at_call 49;refine (iW _ _ _ _ _ _).mono ?_;rintro e w1 ⟨rfl,kS⟩)
        go_roundw
        case rel=>exact ⟨q+1,by omega,by go_num,fun j hj=>if h:j<q then lq.o j h else by have:j=q:=(by omega);subst this;exact HT.o,Bl.trans hg.o kS,Bl.cell kS hfl,cX.bl kS hty.o⟩
        case measure=>simp [intOf];omega
      ·have hkk:q=F.length:=by omega
       subst hkk
       have X5:Θ (qC l k=true):=HK.o lq.o
       go_wp2
       go_roundw
       case rel=>exact ⟨k+1,by omega,by go_num,fun j hj=>if h:j<k then wJ.o j h else by have:j=k:=(by omega);subst this;exact X5.o,hg⟩
       case measure=>simp [intOf];omega
   ·have hkk:k=l.length:=by omega
    subst hkk
    have wy:=HB.o wJ.o
    clear HB hc
    go_wp2
    go_ret
    exact ⟨ag wy.symm,hg.o⟩
 ·have hb:=nB (Or.inr (Or.inr h0))
  rw [hb]
  clear hb hc
  have X6:((nth bL l 0).super !=-1)=true:=by simpa using h0
  go_enter func19,ntmps19
  go_wp2
  go_ret
  exact ⟨rfl,Bl.refl _⟩
abbrev bF (how k n:Int):Ending:=.panicked [{ v:=.iface 102 (.agg #[ι how,ι k,ι n]),recovered:=false }]
abbrev cm (v:Va):Value:=.agg #[ι v.kind,ι v.n]
theorem au:(Tryz.prog.info? 100).map (·.size)=some 2:=by kernel_rfl
theorem J4 {w:World} {b:Nat} {cs:Array Value} {t:TypeId} (hb:b=w.heap.size):(w.alloc (.cells cs t)).heap[b]?=some (.cells cs t (0,0)):=by
 subst hb
 show (w.heap.push _)[w.heap.size]?=_
 simp
theorem ly (how:Int) (w:World):χ 99 #[ι how] w fun e w'=>e=bF how 0 0/\w'=w:=by
 go_enter func99,ntmps99
 go_wp2
 exact ⟨rfl,rfl,rfl⟩
theorem mL (w:World):χ 86 #[] w fun e w'=>e=bF 6 0 0/\w'=w:=by
 go_enter func86,ntmps86
 go_wp2_with (go_at_call 99;refine (ly 6 _).mono ?_;rintro e w1 ⟨rfl,hw⟩;rw [hw];clear hw w1)
 exact ⟨rfl,rfl,rfl⟩
section
variable (v:Va) (k:Int) (w:World)
theorem dZ (h:v.kind=k):χ 144 #[cm v,ι k] w fun e w'=>e=.returned (cm v)/\Bl w w':=by
 subst h
 go_enter func144,ntmps144
 go_wp2
 refine bodyPost_ret (results_cell_row rfl _ _ (w.heap.size+1) _ _ _ _ rfl (J4 (by simp)) underlying100 rfl au) rfl ?_
 exact ⟨rfl,((Bl.refl w).alloc _).alloc _⟩
theorem jV (h:v.kind≠k):χ 144 #[cm v,ι k] w fun e w'=>e=bF 6 0 0/\Bl w w':=by
 have hz:(v.kind !=k)=true:=by simpa using h
 go_enter func144,ntmps144
 go_wp2_with (go_at_call 86;refine (mL _).mono ?_;rintro e w1 ⟨rfl,hw⟩;rw [hw];clear hw w1)
 exact ⟨rfl,rfl,((Bl.refl w).alloc _).alloc _⟩
end
section
variable {w:World} {b:Nat}
theorem af {o:Obj} (h:w.heap[b]?=some o):b<w.heap.size:=by
 by_cases hb:b<w.heap.size
 ·exact hb
 ·simp [hb] at h
theorem ay {i:Nat} {cs:Array Value} {t:TypeId} {f:Nat×Nat} (h:w.heap[b]?=some (.cells cs t f)) (v:Value) :
  (w.setCell ⟨b,i,none⟩ v).heap[b]?=some (.cells (cs.setIfInBounds i v) t f):=by
 simp [World.setCell,Array.getElem?_modify,h]
theorem ak {b' i:Nat} {s:Option _} (hb:b'≠b) (v:Value):(w.setCell ⟨b,i,s⟩ v).heap[b']?=w.heap[b']?:=Below.heap_setCell _ _ _ _ hb
theorem ab {i:Nat} {cs:Array Value} {t:TypeId} {f:Nat×Nat} (h:w.heap[b]?=some (.cells cs t f)):w.cell? ⟨b,i,none⟩=cs[i]?:=by simp [World.cell?,h]
theorem aA {cs:Array Value} {t:TypeId} (h:w.heap[b]?=some (.cells cs t (0,0))) (i:Nat):w.frozen? ⟨b,i,none⟩=false:=by simp [World.frozen?,h]
end
theorem cW {w:World} {base:Nat} {e:TypeId} {size n:Nat} {v:Value} {xs:List Value} (ho:w.ownsRow base e size v n xs) {b i:Nat} {cs:Array Value} {t:TypeId} {f:Nat×Nat} (hb:w.heap[b]?=some (.cells cs t f)) (ht:t≠e) (u:Value) :
  (w.setCell ⟨b,i,none⟩ u).ownsRow base e size v n xs:=by
 refine ⟨ho.1,?_⟩
 rcases ho.2 with h0|⟨g,cap,cur,h1,h2,h3,h4⟩
 ·exact Or.inl h0
 ·refine Or.inr ⟨g,cap,cur,h1,h2,?_,h4⟩
  rw [ak]
  ·exact h3
  ·rintro rfl;rw [hb] at h3;simp at h3;exact ht h3.2.1
theorem aB (w:World) (cs:Array Value) (t:TypeId):(w.alloc (.cells cs t)).heap[w.heap.size]?=some (.cells cs t (0,0)):=by
 show (w.heap.push _)[w.heap.size]?=_
 simp
theorem aR {a w:World} (h:Bl a w) (n:Nat):Bl a (w.drewN n):=⟨h.os,h.tape,h.output,h.size,h.block⟩
section
variable {w w':World} {base:Nat} {e:TypeId} {size n:Nat} {v:Value} {xs:List Value}
theorem cS (hg:w.grownBy w' v.ownBlock) (ho:w.ownsRow base e size v n xs) {b:Nat} {cs:Array Value} {t:TypeId} {f:Nat×Nat} (hb:w.heap[b]?=some (.cells cs t f)) (ht:t≠e):w'.heap[b]?=some (.cells cs t f):=by
 rw [hg.block b (af hb)]
 ·exact hb
 ·intro hc
  rcases ho.2 with ⟨rfl,-⟩|⟨gb,cap,cur,rfl,h2,h3,h4⟩
  ·simp [Value.ownBlock] at hc
  ·simp [Value.ownBlock] at hc
   subst hc
   rw [hb] at h3
   simp at h3
   exact ht h3.2.1
theorem jW (hg:w.grownBy w' v.ownBlock) (ho:w.ownsRow base e size v n xs) {mC:Nat} {e':TypeId} {Bd n':Nat} {v':Value} {Sb:List Value} (hr:w.ownsRow mC e' Bd v' n' Sb) (ht:e'≠e):w'.ownsRow mC e' Bd v' n' Sb:=by
 refine ⟨hr.1,?_⟩
 rcases hr.2 with h0|⟨gb,cap,cur,h1,h2,h3,h4⟩
 ·exact Or.inl h0
 ·exact Or.inr ⟨gb,cap,cur,h1,h2,cS hg ho h3 ht,h4⟩
theorem gM (hg:w.grownBy w' v.ownBlock) (ho:w.ownsRow base e size v n xs) (hb:base<=w.heap.size):Below base w w' :=
 (Below.refl base w).grown hg hb fun k hk=>(ho.lt k hk).1
end
theorem bg {w:World} {base:Nat} {e:TypeId} {size n:Nat} {v:Value} {xs:List Value} (ho:w.ownsRow base e size v n xs) {b:Nat} {cs:Array Value} {t:TypeId} {f:Nat×Nat} (hb:w.heap[b]?=some (.cells cs t f)) (ht:t≠e):v.ownBlock≠some b:=by
 intro hc
 rcases ho.2 with ⟨rfl,-⟩|⟨gb,cap,cur,rfl,h2,h3,h4⟩
 ·simp [Value.ownBlock] at hc
 ·simp [Value.ownBlock] at hc
  subst hc
  rw [hb] at h3
  simp at h3
  exact ht h3.2.1
def bh:List Va->List Value
 | []=>[]
 | v::l=>ι v.kind::ι v.n::bh l
theorem lz (l:List Va):(bh l).length=l.length*2:=by
 induction l with
 | nil=>rfl
 | cons x l ih=>simp [bh,ih];omega
theorem jX:∀(l:List Va) (i:Nat),i<l.length->(bh l)[i*2]?=some (ι (nth aE l i).kind)/\(bh l)[i*2+1]?=some (ι (nth aE l i).n)
 | [],i,h=>by simp at h
 | x::l,0,_=>by simp [bh,nth]
 | x::l,i+1,h=>by
  have:=jX l i (by simpa using h)
  have e:(i+1)*2=i*2+1+1:=by omega
  rw [e]
  simpa [bh,nth] using this
theorem lA:∀(l:List Va) (i:Nat) (v:Va),i<l.length->bh (l.set i v)=((bh l).set (i*2) (ι v.kind)).set (i*2+1) (ι v.n)
 | [],i,v,h=>by simp at h
 | x::l,0,v,_=>by simp [bh]
 | x::l,i+1,v,h=>by
  have:=lA l i v (by simpa using h)
  have e1:(i+1)*2=i*2+1+1:=by omega
  have e2:(i+1)*2+1=i*2+1+1+1:=by omega
  rw [e2,e1]
  simp [bh,this]
theorem gj (l k:List Va):bh (l++k)=bh l++bh k:=by
 induction l with
 | nil=>rfl
 | cons x l ih=>simp [bh,ih]
theorem ae {p:Prop} (h:p):Θ p:=h
abbrev iC (t:Ty):Value:=.agg #[ι t.kind,ι t.cls]
abbrev iv (t:Ty):Obj:=.cells #[ι t.kind,ι t.cls] 45
abbrev eS (v:Va):Obj:=.cells #[ι v.kind,ι v.n] 100
abbrev fa:Obj:=.cells #[ι 0,ι 0] 100
theorem dB (w:World) (a b c:Array Value) (s t u:TypeId):(((w.alloc (.cells a s)).alloc (.cells b t)).alloc (.cells c u)).heap[w.heap.size]?=some (.cells a s (0,0))/\(((w.alloc (.cells a s)).alloc (.cells b t)).alloc (.cells c u)).heap[w.heap.size+1]?=some (.cells b t (0,0))
  /\ (((w.alloc (.cells a s)).alloc (.cells b t)).alloc (.cells c u)).heap[w.heap.size+1+1]?=some (.cells c u (0,0)):=by
 have h1:(w.alloc (.cells a s)).heap.size=w.heap.size+1:=by simp
 have h2:((w.alloc (.cells a s)).alloc (.cells b t)).heap.size=w.heap.size+1+1:=by simp
 refine ⟨?_,?_,?_⟩
 ·rw [Below.heap_alloc _ _ _ (by omega),Below.heap_alloc _ _ _ (by omega)];exact aB _ _ _
 ·rw [Below.heap_alloc _ _ _ (by omega),<-h1];exact aB _ _ _
 ·rw [<-h2];exact aB _ _ _
theorem ax {w w':World} (h:Bl w w') {b:Nat} {o:Obj} (hb:w.heap[b]?=some o):w'.heap[b]?=some o:=(h.block b (af hb)).trans hb
section
variable {w:World} {b:Nat} {k n:Value}
theorem aO {t:TypeId} (q:w.heap[b]?=some (.cells #[k,n] t (0,0))):w.cell? ⟨b,0,none⟩=some k:=by rw [ab q];rfl
theorem aJ {t:TypeId} (q:w.heap[b]?=some (.cells #[k,n] t (0,0))):w.cell? ⟨b,1,none⟩=some n:=by rw [ab q];rfl
theorem ba {k' n':Value} {t:TypeId} (q:w.heap[b]?=some (.cells #[k,n] t (0,0))):((w.setCell ⟨b,0,none⟩ k').setCell ⟨b,1,none⟩ n').heap[b]?=some (.cells #[k',n'] t (0,0)):=by
 rw [ay (ay q _) _];rfl
end
theorem cT {w0 w:World} (h:Bl w0 w) {b:Nat} (hb:w0.heap.size<=b) (k n:Value):Bl w0 ((w.setCell ⟨b,0,none⟩ k).setCell ⟨b,1,none⟩ n):=(h.setCell (p:=⟨b,0,none⟩) hb k).setCell (p:=⟨b,1,none⟩) hb n
theorem cD {w:World} (b i:Nat) (v:Value):w.grownBy (w.setCell ⟨b,i,none⟩ v) (some b) :=
 ⟨rfl,rfl,rfl,by simp [World.setCell],fun k hk hb=>ak (fun e=>hb (by rw [e])) v⟩
theorem dy {x y z:World} {row:Option Nat} (h:x.grownBy y row) (k:y.grownBy z row):x.grownBy z row :=
 ⟨k.os.trans h.os,k.tape.trans h.tape,k.output.trans h.output,Nat.le_trans h.size k.size,fun i hi hb=>(k.block i (Nat.lt_of_lt_of_le hi h.size) hb).trans (h.block i hi hb)⟩
section
open Go.Maps (Keyed has)
abbrev jc (o c k:Int):Value:=.agg #[.int .i64 o,.int .i64 c,.int .i64 k]
def jY (o c k:Int):Lit:=.string (keyBytes [.int .i64 o,.int .i64 c,.int .i64 k])
theorem CD:laidOutB Tryz.prog=true:=by kernel_rfl
theorem tj:(265:TypeId)<Tryz.prog.types.size:=of_decide_eq_true (by kernel_rfl)
theorem yL:(match Tryz.prog.underlying 265 with|some (.array _ _)|some (.struct _)=>true|_=>false)=true:=by rw [underlying265]
theorem Fh:Tryz.prog.keyTypeAt 2 265=true:=by kernel_rfl
set_option maxRecDepth 1000000 in
theorem jZ:Keyed Tryz.prog 265:=Keyed.of_law (deep_law_laid (P:=Tryz.prog) (k:=265) CD (m:=2) (by omega) tj Fh yL)
theorem yM:Tryz.prog.keyType 265=true:=by kernel_rfl
theorem pw:Tryz.prog.cellsOf 265=3:=by kernel_rfl
theorem CE:Tryz.prog.cellsOf 3=1:=by kernel_rfl
theorem Nz {n:Int} (h:cJ n):(Lit.int .i64 n).wf=true:=by
 unfold cJ at h
 simp [Lit.wf,IntKind.min,IntKind.max,IntKind.bits,IntKind.signed]
 omega
theorem qJ (d:Nat) {n:Int} (h:cJ n):Tryz.prog.keyLits (d+1) 3 [.int .i64 n]=some [.int .i64 n]:=by
 unfold Program.keyLits
 rw [underlying3]
 simp [Nz h]
theorem yN (d:Nat) {o c k:Int} (ho:cJ o) (hc:cJ c) (hk:cJ k):Tryz.prog.keyLits (d+1+1) 265 [.int .i64 o,.int .i64 c,.int .i64 k]=some [.int .i64 o,.int .i64 c,.int .i64 k]:=by
 have h1:=qJ d ho
 have h2:=qJ d hc
 have h3:=qJ d hk
 unfold Program.keyLits
 rw [underlying265]
 simp [pw,CE,h1,h2,h3]
theorem CF:∃d,Tryz.prog.types.size+1=d+1+1:=by
 have h:(265:Nat)<Tryz.prog.types.size:=tj
 exact ⟨Tryz.prog.types.size-1,by omega⟩
theorem lu {o c k:Int} (ho:cJ o) (hc:cJ c) (hk:cJ k):keyOf Tryz.prog 265 (jc o c k)=some (jY o c k):=by
 obtain ⟨d,hd⟩:=CF
 unfold keyOf
 rw [underlying265,hd]
 dsimp only
 have hf:(jc o c k).formed Tryz.prog 265=true:=by simp [Value.formed,underlying265,pw]
 rw [yM,hf]
 have PB:(jc o c k).cells.toList=[.int .i64 o,.int .i64 c,.int .i64 k]:=rfl
 rw [PB,yN d ho hc hk]
 rfl
theorem Fj {o c k o' c' k':Int} (ho:cJ o) (hc:cJ c) (hk:cJ k) (ox:cJ o') (PB:cJ c') (ME:cJ k') (h:jY o c k=jY o' c' k'):o=o'/\c=c'/\k=k':=by
 have h1:=lu ho hc hk
 have h2:=lu ox PB ME
 rw [<-h] at h2
 have:=jZ.inj h1 h2
 simp at this
 exact this
end
def im (v:Va):Va:=⟨v.kind,if v.kind=3 then v.n+1 else v.n⟩
theorem Be (v:Va):(im v).kind=v.kind:=rfl
theorem iD {v:Va} (h:v.kind≠3):im v=v:=by unfold im;rw [if_neg h]
theorem gp {v:Va} (h:v.kind=3):im v=⟨3,v.n+1⟩:=by unfold im;rw [if_pos h,h]
theorem gq {α:Type} (d:α) (l:List α) (i j:Nat) (v:α):nth d (l.set i v) j=if i=j/\i<l.length then v else nth d l j:=by
 unfold nth
 simp only [List.getD_eq_getElem?_getD,List.getElem?_set]
 by_cases h:i=j
 ·subst h
  by_cases hl:i<l.length
  ·simp [hl]
  ·simp [hl]
 ·simp [h]
theorem J5 {α:Type} {d:α} {l:List α} {i:Nat} (h:l.length<=i):nth d l i=d:=by
 unfold nth
 simp [List.getD_eq_getElem?_getD,h]
structure mM (l k:List Va):Prop where
 len:k.length=l.length
 zero:(nth aE l 0).kind≠9
 pair:∀i,(nth aE l i).kind=2↔(nth aE l (i+1)).kind=9
 rd:∀i,1<=(nth aE l i).kind->(nth aE l i).kind<=3->nth aE k i=im (nth aE l i)
 long:∀i,(nth aE l i).kind=2->(nth aE k (i+1)).kind=4
 back:∀i,1<=(nth aE k i).kind->(nth aE k i).kind<=3->((nth aE k i).kind=2->(nth aE k (i+1)).kind=4)->(nth aE l i).kind=(nth aE k i).kind
def jQ (k:List Va) (a:Nat) (v:Va):List Va:=if v.kind=2 then (k.set a v).set (a+1) ⟨4,0⟩ else k.set a v
theorem wK (k:List Va) (a:Nat) (v:Va):(jQ k a v).length=k.length:=by unfold jQ;split<;>simp
section
variable (l:List Va) (a:Nat)
theorem fe:(cI l a).length=l.length:=fQ l a
theorem kE (v:Va):(eL l a v).length=l.length:=fR l a v
theorem nD (j:Nat) (ha:a<l.length):nth aE (cI l a) j=if j=a∨((nth aE l a).kind=9/\j=a-1)∨((nth aE l a).kind=2/\j=a+1) then aE else nth aE l j:=by
 have hz:∀(l:List Va) i,nth aE (l.set i aE) j=if i=j then aE else nth aE l j:=by
  intro l i
  rw [gq]
  by_cases h:i=j
  ·by_cases hl:i<l.length
   ·rw [if_pos ⟨h,hl⟩,if_pos h]
   ·rw [if_neg (fun x=>hl x.2),if_pos h,J5 (by omega)]
  ·rw [if_neg (fun x=>h x.1),if_neg h]
 unfold cI
 by_cases h9:(nth aE l a).kind=9
 ·rw [if_pos h9,hz,hz]
  have h2:¬(nth aE l a).kind=2:=by omega
  by_cases h1:a=j
  ·rw [if_pos h1,if_pos (Or.inl h1.symm)]
  ·rw [if_neg h1]
   by_cases h3:a-1=j
   ·rw [if_pos h3,if_pos (Or.inr (Or.inl ⟨h9,h3.symm⟩))]
   ·rw [if_neg h3,if_neg];rintro (h|h|h)
    ·exact h1 h.symm
    ·exact h3 h.2.symm
    ·exact h2 h.1
 ·rw [if_neg h9]
  by_cases h2:(nth aE l a).kind=2
  ·rw [if_pos h2,hz,hz]
   by_cases h1:a=j
   ·rw [if_pos h1,if_pos (Or.inl h1.symm)]
   ·rw [if_neg h1]
    by_cases h3:a+1=j
    ·rw [if_pos h3,if_pos (Or.inr (Or.inr ⟨h2,h3.symm⟩))]
    ·rw [if_neg h3,if_neg];rintro (h|h|h)
     ·exact h1 h.symm
     ·exact h9 h.1
     ·exact h3 h.2.symm
  ·rw [if_neg h2,hz]
   by_cases h1:a=j
   ·rw [if_pos h1,if_pos (Or.inl h1.symm)]
   ·rw [if_neg h1,if_neg];rintro (h|h|h)
    ·exact h1 h.symm
    ·exact h9 h.1
    ·exact h2 h.1
end
theorem mM.los {l k:List Va} (h:mM l k) {a:Nat} (ha:a<l.length) (x:Va) (hx:x.kind=0∨4<x.kind):mM (cI l a) (k.set a x):=by
 have e:=fun j=>nD l a j ha
 have e':=fun j=>gq aE k a j x
 have hk:a<k.length:=by rw [h.len];exact ha
 refine ⟨?_,?_,fun i=>?_,fun i h1 h2=>?_,fun i h1=>?_,fun i h1 h2 h3=>?_⟩
 ·rw [List.length_set,fe,h.len]
 ·rw [e];split
  ·decide
  ·exact h.zero
 ·rw [e,e]
  have hp:=h.pair i
  have pP:=h.pair a
  have J6:=h.pair (a-1)
  have hz:=h.zero
  by_cases c1:i=a
  ·subst c1
   rw [if_pos (Or.inl rfl)]
   constructor
   ·intro q;exact absurd q (by decide)
   ·intro q
    split at q
    ·exact absurd q (by decide)
    ·rename_i hn
     have:=hp.mpr q
     exact absurd (Or.inr (Or.inr ⟨this,rfl⟩)) hn
  by_cases c2:i+1=a
  ·have X7:i=a-1:=by omega
   rw [if_pos (Or.inl c2:i+1=a∨_)]
   constructor
   ·intro q
    split at q
    ·exact absurd q (by decide)
    ·rename_i hn
     have:=hp.mp q
     rw [c2] at this
     exact absurd (Or.inr (Or.inl ⟨this,X7⟩)) hn
   ·intro q;exact absurd q (by decide)
  by_cases c3:(nth aE l a).kind=2/\i=a+1
  ·have hn:(nth aE l i).kind=9:=by rw [c3.2];exact pP.mp c3.1
   rw [if_pos (Or.inr (Or.inr c3))]
   rw [if_neg (by rintro (q|q|q)<;>omega)]
   constructor
   ·intro q;exact absurd q (by decide)
   ·intro q
    have:=hp.mpr q
    omega
  by_cases c4:(nth aE l a).kind=9/\i+1=a-1
  ·have hn:(nth aE l (a-1)).kind=2:=by
    have e1:a-1+1=a:=by omega
    rw [e1] at J6
    exact J6.mpr c4.1
   rw [if_pos (Or.inr (Or.inl c4):i+1=a∨((nth aE l a).kind=9/\i+1=a-1)∨_)]
   rw [if_neg (by rintro (q|q|q)<;>omega)]
   constructor
   ·intro q
    have:=hp.mp q
    rw [c4.2] at this
    omega
   ·intro q;exact absurd q (by decide)
  rw [if_neg (by rintro (q|q|q)<;>omega)]
  by_cases c5:(nth aE l a).kind=9/\i=a-1
  ·exact absurd c5.2 (by omega)
  rw [if_neg]
  ·exact hp
  ·rintro (q|q|q)
   ·omega
   ·exact c4 q
   ·omega
 ·rw [e] at h1 h2 ⊢
  split at h1
  ·exact absurd h1 (by decide)
  ·rename_i hn
   rw [if_neg hn] at h2 ⊢
   rw [e',if_neg (fun q=>hn (Or.inl q.1.symm))]
   exact h.rd i h1 h2
 ·rw [e] at h1
  split at h1
  ·exact absurd h1 (by decide)
  ·rename_i hn
   have hl:=h.long i h1
   rw [e',if_neg]
   ·exact hl
   ·rintro ⟨q,-⟩
    have hp:=(h.pair i).mp h1
    rw [<-q] at hp
    exact hn (Or.inr (Or.inl ⟨hp,by omega⟩))
 ·rw [e'] at h1 h2
  split at h1
  ·rename_i hq
   rw [if_pos hq] at h2
   omega
  ·rename_i hn
   rw [if_neg hn] at h2
   rw [e',if_neg hn] at h3 ⊢
   have hb:(nth aE l i).kind=(nth aE k i).kind:=by
    refine h.back i h1 h2 fun q=>?_
    have h4:=h3 q
    rw [e'] at h4
    split at h4
    ·omega
    ·exact h4
   rw [e,if_neg]
   ·exact hb
   ·rintro (q|q|q)
    ·exact hn ⟨q.symm,hk⟩
    ·have e1:a-1+1=a:=by
      have:a≠0:=fun z=>h.zero (by rw [<-z];exact q.1)
      omega
     have hp:=h.pair (a-1)
     rw [e1] at hp
     have VJ:=hp.mpr q.1
     rw [<-q.2,hb] at VJ
     have h4:=h3 VJ
     rw [e',q.2,e1,if_pos ⟨rfl,hk⟩] at h4
     omega
    ·have hp:=(h.pair a).mp q.1
     rw [<-q.2,hb] at hp
     omega
theorem mM.sto {l k:List Va} (h:mM l k) {a:Nat} (ha:a<l.length) (v:Va) (hv:1<=v.kind/\v.kind<=3) (h2:v.kind=2->a+1<l.length):mM (eL l a v) (jQ k a (im v)):=by
 have PC:(im v).kind=v.kind:=rfl
 by_cases hk:v.kind=2
 ·have NA:=h2 hk
  have r1:=(h.los ha aE (Or.inl rfl)).los (a:=a+1) (by rw [fe];exact NA) aE (Or.inl rfl)
  have r0:eL l a v=(((cI (cI l a) (a+1)).set (a+1) ⟨9,0⟩).set a v):=by unfold eL;rw [if_pos hk]
  have r2:jQ k a (im v)=(k.set a (im v)).set (a+1) ⟨4,0⟩:=by unfold jQ;rw [if_pos (by rw [PC];exact hk)]
  rw [r0,r2]
  have EX:(cI (cI l a) (a+1)).length=l.length:=by rw [fe,fe]
  have e:∀j,nth aE (((cI (cI l a) (a+1)).set (a+1) ⟨9,0⟩).set a v) j=if j=a then v else if j=a+1 then ⟨9,0⟩ else nth aE (cI (cI l a) (a+1)) j:=by
   intro j
   rw [gq,gq,List.length_set,EX]
   by_cases c1:j=a
   ·rw [if_pos ⟨c1.symm,ha⟩,if_pos c1]
   ·rw [if_neg (fun q=>c1 q.1.symm),if_neg c1]
    by_cases c2:j=a+1
    ·rw [if_pos ⟨c2.symm,NA⟩,if_pos c2]
    ·rw [if_neg (fun q=>c2 q.1.symm),if_neg c2]
  have e':∀j,nth aE ((k.set a (im v)).set (a+1) ⟨4,0⟩) j=if j=a then im v else if j=a+1 then ⟨4,0⟩ else nth aE ((k.set a aE).set (a+1) aE) j:=by
   intro j
   rw [gq,gq,gq,gq,List.length_set,List.length_set,h.len]
   by_cases c1:j=a
   ·rw [if_neg (by omega),if_pos ⟨c1.symm,ha⟩,if_pos c1]
   ·rw [if_neg c1]
    by_cases c2:j=a+1
    ·rw [if_pos ⟨c2.symm,NA⟩,if_pos c2]
    ·rw [if_neg (fun q=>c2 q.1.symm),if_neg (fun q=>c1 q.1.symm),if_neg c2,if_neg (fun q=>c2 q.1.symm),if_neg (fun q=>c1 q.1.symm)]
  have z0:nth aE (cI (cI l a) (a+1)) a=aE:=by
   have hlt:a+1<(cI l a).length:=by rw [fe];exact NA
   rw [nD _ _ _ hlt]
   split
   ·rfl
   ·rw [nD _ _ _ ha,if_pos (Or.inl rfl)]
  have z1:nth aE (cI (cI l a) (a+1)) (a+1)=aE:=by
   have hlt:a+1<(cI l a).length:=by rw [fe];exact NA
   rw [nD _ _ _ hlt,if_pos (Or.inl rfl)]
  have zp:∀i,i+1=a->(nth aE (cI (cI l a) (a+1)) i).kind≠2:=by
   intro i hi q
   have:=(r1.pair i).mp q
   rw [hi,z0] at this
   exact absurd this (by decide)
  have zn:(nth aE (cI (cI l a) (a+1)) (a+1+1)).kind≠9:=by
   intro q
   have:=(r1.pair (a+1)).mpr q
   rw [z1] at this
   exact absurd this (by decide)
  refine ⟨?_,?_,fun i=>?_,fun i h1 h3=>?_,fun i h1=>?_,fun i h1 h3 h4=>?_⟩
  ·simp [EX,h.len]
  ·rw [e];split
   ·omega
   ·split
    ·omega
    ·exact r1.zero
  ·rw [e,e]
   by_cases c1:i=a
   ·subst c1;rw [if_pos rfl,if_neg (by omega),if_pos rfl];exact ⟨fun _=>rfl,fun _=>hk⟩
   ·rw [if_neg c1]
    by_cases c2:i=a+1
    ·subst c2
     rw [if_pos rfl,if_neg (by omega),if_neg (by omega)]
     constructor
     ·intro q;exact absurd q (by decide)
     ·intro q;exact absurd q zn
    ·rw [if_neg c2]
     by_cases c3:i+1=a
     ·rw [if_pos c3]
      constructor
      ·intro q;exact absurd q (zp i c3)
      ·intro q;omega
     ·rw [if_neg c3,if_neg (by omega)];exact r1.pair i
  ·rw [e] at h1 h3 ⊢
   rw [e']
   by_cases c1:i=a
   ·rw [if_pos c1,if_pos c1]
   ·rw [if_neg c1] at h1 h3 ⊢
    rw [if_neg c1]
    by_cases c2:i=a+1
    ·rw [if_pos c2] at h3;exact absurd h3 (by decide)
    ·rw [if_neg c2] at h1 h3 ⊢
     rw [if_neg c2]
     exact r1.rd i h1 h3
  ·rw [e] at h1
   rw [e']
   by_cases c1:i=a
   ·rw [if_neg (by omega),if_pos (by omega)]
   ·rw [if_neg c1] at h1
    by_cases c2:i=a+1
    ·rw [if_pos c2] at h1;exact absurd h1 (by decide)
    ·rw [if_neg c2] at h1
     by_cases c3:i+1=a
     ·exact absurd h1 (zp i c3)
     ·rw [if_neg c3,if_neg (by omega)]
      exact r1.long i h1
  ·rw [e'] at h1 h3
   rw [e,e']
   by_cases c1:i=a
   ·rw [if_pos c1,if_pos c1];rfl
   ·rw [if_neg c1] at h1 h3
    rw [if_neg c1,if_neg c1]
    by_cases c2:i=a+1
    ·rw [if_pos c2] at h3;exact absurd h3 (by decide)
    ·rw [if_neg c2] at h1 h3
     rw [if_neg c2,if_neg c2]
     refine r1.back i h1 h3 fun q=>?_
     have h5:=h4 (by rw [e',if_neg c1,if_neg c2];exact q)
     rw [e'] at h5
     by_cases c3:i+1=a
     ·rw [if_pos c3] at h5
      rw [PC,hk] at h5
      exact absurd h5 (by decide)
     ·rw [if_neg c3,if_neg (by omega)] at h5
      exact h5
 ·have r1:=h.los ha aE (Or.inl rfl)
  have r0:eL l a v=(cI l a).set a v:=by unfold eL;rw [if_neg hk]
  have r2:jQ k a (im v)=k.set a (im v):=by unfold jQ;rw [if_neg (by rw [PC];exact hk)]
  rw [r0,r2]
  have e:∀j,nth aE ((cI l a).set a v) j=if j=a then v else nth aE (cI l a) j:=by
   intro j
   rw [gq,fe]
   by_cases c1:j=a
   ·rw [if_pos ⟨c1.symm,ha⟩,if_pos c1]
   ·rw [if_neg (fun q=>c1 q.1.symm),if_neg c1]
  have e':∀j,nth aE (k.set a (im v)) j=if j=a then im v else nth aE (k.set a aE) j:=by
   intro j
   rw [gq,gq,h.len]
   by_cases c1:j=a
   ·rw [if_pos ⟨c1.symm,ha⟩,if_pos c1]
   ·rw [if_neg (fun q=>c1 q.1.symm),if_neg c1,if_neg (fun q=>c1 q.1.symm)]
  have z0:nth aE (cI l a) a=aE:=by rw [nD _ _ _ ha,if_pos (Or.inl rfl)]
  have zp:∀i,i+1=a->(nth aE (cI l a) i).kind≠2:=by
   intro i hi q
   have:=(r1.pair i).mp q
   rw [hi,z0] at this
   exact absurd this (by decide)
  have zn:(nth aE (cI l a) (a+1)).kind≠9:=by
   intro q
   have:=(r1.pair a).mpr q
   rw [z0] at this
   exact absurd this (by decide)
  refine ⟨?_,?_,fun i=>?_,fun i h1 h3=>?_,fun i h1=>?_,fun i h1 h3 h4=>?_⟩
  ·simp [fe,h.len]
  ·rw [e];split
   ·omega
   ·exact r1.zero
  ·rw [e,e]
   by_cases c1:i=a
   ·subst c1;rw [if_pos rfl,if_neg (by omega)]
    constructor
    ·intro q;exact absurd q hk
    ·intro q;exact absurd q zn
   ·rw [if_neg c1]
    by_cases c3:i+1=a
    ·rw [if_pos c3]
     constructor
     ·intro q;exact absurd q (zp i c3)
     ·intro q;omega
    ·rw [if_neg c3];exact r1.pair i
  ·rw [e] at h1 h3 ⊢
   rw [e']
   by_cases c1:i=a
   ·rw [if_pos c1,if_pos c1]
   ·rw [if_neg c1] at h1 h3 ⊢
    rw [if_neg c1]
    exact r1.rd i h1 h3
  ·rw [e] at h1
   rw [e']
   by_cases c1:i=a
   ·rw [if_pos c1] at h1;exact absurd h1 hk
   ·rw [if_neg c1] at h1
    by_cases c3:i+1=a
    ·exact absurd h1 (zp i c3)
    ·rw [if_neg c3]
     exact r1.long i h1
  ·rw [e'] at h1 h3
   rw [e,e']
   by_cases c1:i=a
   ·rw [if_pos c1,if_pos c1];rfl
   ·rw [if_neg c1] at h1 h3
    rw [if_neg c1,if_neg c1]
    refine r1.back i h1 h3 fun q=>?_
    have h5:=h4 (by rw [e',if_neg c1];exact q)
    rw [e'] at h5
    by_cases c3:i+1=a
    ·rw [if_pos c3] at h5
     rw [PC] at h5
     omega
    ·rw [if_neg c3] at h5
     exact h5
theorem mM.new (n:Nat):mM (List.replicate n aE) (List.replicate n aE):=by
 have e:∀i,nth aE (List.replicate n aE) i=aE:=by
  intro i
  unfold nth
  simp [List.getD_eq_getElem?_getD,List.getElem?_replicate]
  split<;>rfl
 refine ⟨rfl,?_,fun i=>?_,fun i h=>?_,fun i h=>?_,fun i h=>?_⟩
 ·rw [e];decide
 ·rw [e,e];decide
 ·rw [e] at h;exact absurd h (by decide)
 ·rw [e] at h;exact absurd h (by decide)
 ·rw [e] at h;exact absurd h (by decide)
def qK (k op:Int) (a b:Va):Bool:=if k=1 then ep op (wrap32 b.n) else ep op b.n
def lB (k op:Int) (a b:Va):Int:=if k=1 then wrap32 (dD op (wrap32 a.n) (wrap32 b.n)) else dD op a.n b.n
def Hp.reckH (h:Hp) (a b:Va) (k op:Int):Hp:=if h.mustB (eU a b k)=true then (if qK k op a b=true then h else h.raise 2) else h.must (eU a b k)
def Hp.reckV (h:Hp) (a b:Va) (k op:Int):Va:=if h.mustB (eU a b k)=true then ⟨k,lB k op a b⟩ else aE
def Hp.fits (h:Hp) (x:Hd) (pc:Int):Bool:=decide (x.fr<=pc)&&(decide (pc<x.til)&&fu h.file.classes (h.obj h.thrown).cls x.cls)
def Hp.caughtL (h:Hp) (pc:Int):List Hd->Int
 | []=>-1
 | x::l=>if h.fits x pc=true then x.pc else h.caughtL pc l
section
variable {h:Hp} {pc:Int} {l:List Hd} {q:Nat}
theorem px (hq:q<l.length) (hx:h.fits (nth eK l q) pc=false):h.caughtL pc (l.drop q)=h.caughtL pc (l.drop (q+1)):=by
 rw [List.drop_eq_getElem_cons hq,Hp.caughtL,<-cg (d:=eK) hq,if_neg (by rw [hx];decide)]
theorem qL (hq:q<l.length) (hx:h.fits (nth eK l q) pc=true):h.caughtL pc (l.drop q)=(nth eK l q).pc:=by
 rw [List.drop_eq_getElem_cons hq,Hp.caughtL,<-cg (d:=eK) hq,if_pos hx]
end
structure iK (l:List Va):Prop where
 nine:∀i,i<l.length->(nth aE l i).kind=9->1<=i
 two:∀i,i<l.length->(nth aE l i).kind=2->i+1<l.length
structure aL where
 m:Me
 locs:List Va
 giv:Va
 cau:Va
 pc:Int
def aL.rd (c:aL) (a:Int):Va:=nth aE c.locs a.toNat
def Hp.rdH (h:Hp) (c:aL) (a k:Int):Hp:=h.must (decide ((c.rd a).kind=k))
def mN (h:Hp) (c:aL) (a:Int) (v:Va):aL:=if h.stops=true then c else { c with locs:=eL c.locs a.toNat v }
def aL.clr (c:aL):aL:={ c with giv:=aE,cau:=aE }
def givesH (h:Hp) (c:aL) (i:In):Hp :=
 if i.op=1∨i.op=2∨i.op=3 then h
 else if i.op=4 then h.rdH c i.b i.c
 else if i.op=5 then h.reckH (c.rd i.b) (c.rd i.c) 1 i.n
 else if i.op=6 then h.reckH (c.rd i.b) (c.rd i.c) 2 i.n
 else if i.op=7 then h.rdH c i.b 1
 else if i.op=8 then h.rdH c i.b 2
 else if i.op=9 then (h.rdH c i.b 2).rdH c i.c 2
 else if i.op=13 then h.new i.b
 else if i.op=14 then (if (h.rdH c i.b 3).over=true then h.rdH c i.b 3 else (h.rdH c i.b 3).findH (c.rd i.b) i.c)
 else if i.op=17 then (if (h.rdH c i.b 3).over=true then h.rdH c i.b 3 else (h.rdH c i.b 3).must (isRef (c.rd i.b)))
 else h.input'
def aG (h:Hp) (c:aL) (i:In):Va :=
 if i.op=1 then ⟨1,i.n⟩
 else if i.op=2 then ⟨2,i.n⟩
 else if i.op=3 then ⟨3,-1⟩
 else if i.op=4 then c.rd i.b
 else if i.op=5 then h.reckV (c.rd i.b) (c.rd i.c) 1 i.n
 else if i.op=6 then h.reckV (c.rd i.b) (c.rd i.c) 2 i.n
 else if i.op=7 then ⟨2,(c.rd i.b).n⟩
 else if i.op=8 then ⟨1,wrap32 (c.rd i.b).n⟩
 else if i.op=9 then ⟨1,lh (c.rd i.b).n (c.rd i.c).n⟩
 else if i.op=13 then h.newV
 else if i.op=14 then (if (h.rdH c i.b 3).over=true then aE else (h.rdH c i.b 3).getV (c.rd i.b) i.c i.n)
 else if i.op=17 then (if (h.rdH c i.b 3).over=true then aE else (h.rdH c i.b 3).isV (c.rd i.b) i.c)
 else h.inV
structure nr where
 h:Hp
 c:aL
 nx:Int
def yO (h:Hp) (c:aL) (i:In):nr:=⟨givesH h c i,mN (givesH h c i) c.clr i.a (aG h c i),c.pc+1⟩
def Tl (h:Hp) (c:aL) (i:In):nr:=⟨h.rdH c i.c 1,c.clr,if kC i.b (c.rd i.c).n=true then i.a else c.pc+1⟩
def NC (h:Hp) (c:aL) (i:In):nr:=⟨h.rdH c i.c 3,c.clr,if (c.rd i.c).n<0 then i.a else c.pc+1⟩
def Fk (h:Hp) (c:aL) (i:In):nr:=⟨if (h.rdH c i.a 3).over=true then h.rdH c i.a 3 else (h.rdH c i.a 3).throw (c.rd i.a),c.clr,c.pc+1⟩
def pQ (h:Hp) (c:aL) (i:In):nr :=
 let h2:=(h.rdH c i.b 3).rdH c i.a (bI h.file.classes i.c i.n).kind
 ⟨if h2.over=true then h2 else h2.put (c.rd i.b) i.c i.n (c.rd i.a),c.clr,c.pc+1⟩
def wL (h:Hp) (c:aL) (i:In):nr:=⟨if (h.rdH c i.a 3).over=true then h.rdH c i.a 3 else (h.rdH c i.a 3).cast (c.rd i.a) i.b,c.clr,c.pc+1⟩
def wM (h:Hp) (c:aL) (i:In):nr:=⟨if (h.rdH c i.a i.b).over=true then h.rdH c i.a i.b else (h.rdH c i.a i.b).emit (c.rd i.a) i.b,c.clr,c.pc+1⟩
def wN (h:Hp) (c:aL) (i:In):nr:=⟨h.must (decide (c.giv.kind=i.b)),if h.mustB (decide (c.giv.kind=i.b))=true then mN h c.clr i.a c.giv else c.clr,c.pc+1⟩
def wO (h:Hp) (c:aL) (i:In):nr:=⟨h.must (isRef c.cau),if h.mustB (isRef c.cau)=true then mN h c.clr i.a c.cau else c.clr,c.pc+1⟩
def bV (h:Hp) (c:aL) (i:In):nr :=
 if i.op=10 then ⟨h,c.clr,i.a⟩
 else if i.op=11 then Tl h c i
 else if i.op=12 then NC h c i
 else if i.op=15 then pQ h c i
 else if i.op=16 then wL h c i
 else if i.op=19 then wN h c i
 else if i.op=21 then Fk h c i
 else if i.op=22 then wO h c i
 else if i.op=23 then wM h c i
 else yO h c i
def Hp.enterL (h:Hp):List Va->List Ty->Bool
 | v::l,t::k=>h.of v t&&h.enterL l k
 | _,_=>true
def Hp.deep (h:Hp):Bool:=decide (20<=h.calls)
def Hp.enterB (h:Hp) (m:Me) (l:List Va):Bool:=h.enterL l m.params&&!h.deep
def Hp.enterH (h:Hp) (m:Me) (l:List Va):Hp :=
 if h.enterL l m.params=false then h.fin 6 else if h.deep=true then h.fin 5 else { h with calls:=h.calls+1 }
def dT (l:List Va) (fE:Nat):List Va->List Va
 | []=>l
 | v::k=>dT (eL l fE v) (fE+bN [v]) k
def cv (m:Me) (l:List Va):aL:=⟨m,dT (List.replicate m.regs.toNat aE) 0 l,aE,aE,0⟩
def Hp.leave (h:Hp):Hp:={ h with calls:=h.calls-1 }
def aL.rds (c:aL):List Int->List Ty->List Va
 | a::l,t::k=>c.rd a::c.rds l k
 | _,_=>[]
def Hp.rdsH (h:Hp) (c:aL):List Int->List Ty->Hp
 | a::l,t::k=>(h.rdH c a t.kind).rdsH c l k
 | _,_=>h
def dM (go:Hp->aL->Hp×Va) (d:nr):Hp×Va :=
 if d.h.over=true then (d.h.leave,aE)
 else if 0<=d.h.thrown then
  (if d.h.caughtL d.c.pc d.c.m.hands<0 then (d.h.leave,aE)
   else go { d.h with thrown:=-1 } { d.c with cau:=⟨3,d.h.thrown⟩,pc:=d.h.caughtL d.c.pc d.c.m.hands })
 else go d.h { d.c with pc:=d.nx }
def jd (go:Hp->aL->Hp×Va) (h:Hp) (m:Me) (l:List Va):Hp×Va :=
 if h.enterB m l=true then go (h.enterH m l) (cv m l) else (h.enterH m l,aE)
def jB (go:Hp->aL->Hp×Va) (h:Hp) (c:aL) (i:In):nr :=
 let m:=nth bT h.file.methods i.a.toNat
 let h1:=h.rdsH c i.args m.params
 if h1.over=true then ⟨h1,c.clr,c.pc+1⟩
 else let r:=jd go h1 m (c.rds i.args m.params)
  ⟨r.1,{ c.clr with giv:=r.2 },c.pc+1⟩
def lC (h:Hp) (c:aL) (i:In):Hp×Va :=
 if c.m.ret.kind=0 then (h.leave,aE)
 else let h1:=h.rdH c i.a c.m.ret.kind
  ((h1.must (!h1.over&&h1.of (c.rd i.a) c.m.ret)).leave,c.rd i.a)
def gw (go:Hp->aL->Hp×Va) (h:Hp) (c:aL):Hp×Va :=
 if h.mustB (decide (c.pc<c.m.code.length))=false then ((h.must (decide (c.pc<c.m.code.length))).leave,aE)
 else if (nth eR c.m.code c.pc.toNat).op=20 then lC h c (nth eR c.m.code c.pc.toNat)
 else dM go (if (nth eR c.m.code c.pc.toNat).op=18 then jB go h c (nth eR c.m.code c.pc.toNat) else bV h c (nth eR c.m.code c.pc.toNat))
def cn:Nat->Hp->aL->Hp×Va
 | 0,h,c=>(h.step.leave,aE)
 | n+1,h,c=>if h.stepB=false then (h.step.leave,aE) else gw (cn n) h.step c
theorem bk (x n:Int) (w:World) :
  χ 97 #[ι x,ι n] w fun e w'=>e=.returned (.bool (decide (0<=x/\x<n)))/\w'=w:=by
 go_enter func97,ntmps97
 go_wp2
 all_goals
  go_ret
  refine ⟨ag ?_,rfl⟩
  rw [Bool.eq_iff_iff];simp;try omega
theorem bP (n lo hi:Int) (w:World) :
  χ 35 #[ι n,ι lo,ι hi] w fun e w'=>e=.returned (.bool (decide (lo<=n/\n<=hi)))/\w'=w:=by
 go_enter func35,ntmps35
 go_wp2
 all_goals
  go_ret
  refine ⟨ag ?_,rfl⟩
  rw [Bool.eq_iff_iff];simp;try omega
theorem kF (c s:Int) (w:World) :
  χ 77 #[ι c,ι s] w fun e w'=>e=.returned (.bool (decide ((c=0/\s=-1)∨(c≠0/\0<=s/\s<c))))/\w'=w:=by
 by_cases h0:c=0
 ·subst h0
  go_enter func77,ntmps77
  go_wp2
  all_goals
   go_ret
   refine ⟨ag ?_,rfl⟩
   rw [Bool.eq_iff_iff];simp
 ·go_enter func77,ntmps77
  go_wp2_with (go_at_call 97;refine (bk _ _ _).mono ?_;rintro e w' ⟨rfl,rfl⟩)
  all_goals
   go_ret
   refine ⟨ag ?_,rfl⟩
   rw [Bool.eq_iff_iff];simp;omega
theorem py (n:Nat) (k x:Int) (w:World) :
  χ 137 #[.agg #[ι k,ι x],ι n] w fun e w'=>e=.returned (.bool (fP n ⟨k,x⟩))/\Bl w w':=by
 have hk:k=1∨k=2∨k=3∨(k≠1/\k≠2/\k≠3):=by omega
 rcases hk with rfl|rfl|rfl|⟨h1,h2,h3⟩
 all_goals
  go_enter func137,ntmps137
  go_wp2_with (go_at_call 97;refine (bk _ _ _).mono ?_;rintro e w' ⟨rfl,rfl⟩)
  go_ret
  refine ⟨ag ?_,(Bl.refl _).alloc _⟩
  unfold fP
  rw [Bool.eq_iff_iff];simp;try omega
def nE (n:Nat) (f:List Ty):Bool:=decide (f.length<=6)&&f.all (fP n)
theorem Fl {n:Nat} {f:List Ty} (h:¬f.length<=6):nE n f=false:=by unfold nE;rw [decide_eq_false h];rfl
theorem yP {n q:Nat} {f:List Ty} (hq:q<f.length) (h:fP n (nth bS f q)=false):f.all (fP n)=false:=by
 rw [List.all_eq_false];exact ⟨nth bS f q,bE hq,by rw [h];decide⟩
theorem wP {n:Nat} {f:List Ty} (ht:∀k,k<f.length->fP n (nth bS f k)=true):f.all (fP n)=true:=by
 rw [List.all_eq_true]
 intro x hx
 obtain ⟨k,hk,rfl⟩:=List.getElem_of_mem hx
 rw [<-cg hk];exact ht k hk
section
variable (A:Option Addr) (n c:Nat) (F:List Ty) (w:World)
theorem fy (hl:cX w A F) :
  χ 79 #[ι n,.slice A F.length c] w fun e w'=>e=.returned (.bool (F.all (fP n)))/\Bl w w':=by
 obtain ⟨hm,hl⟩:=hl
 unfold maxLen at hm
 have HG:Θ ((∀k,k<F.length->fP n (nth bS F k)=true)->F.all (fP n)=true):=wP
 have HT:Θ (∀q,q<F.length->fP n (nth bS F q)=false->F.all (fP n)=false):=fun q=>yP
 obtain ⟨R,hR⟩:∃R,F.all (fP n)=R:=⟨_,rfl⟩
 rw [hR] at HG HT ⊢
 clear hR
 go_enter func79,ntmps79
 go_wp2
 go_loopw [9] (fun i wr=>∃q:Nat,q<=F.length/\i=ι q/\Θ (∀j,j<q->fP n (nth bS F j)=true)/\Θ (Bl w wr)) (fun i _=>F.length-(intOf i).toNat)
 case atStart=>exact ⟨0,Nat.zero_le _,rfl,fun j hj=>absurd hj (Nat.not_lt_zero _),Bl.refl _⟩
 case round =>
  obtain ⟨q,hq,rfl,lq,hg⟩:=hrel
  by_cases dI:q<F.length
  ·rcases hl with h0|⟨b,off,rfl,hcell⟩
   ·omega
   obtain ⟨MD,P6,-,-⟩:=hcell q dI
   replace MD:=hg.o.cell MD
   replace P6:=hg.o.cell P6
   clear hcell HG
   cases hT:fP n (nth bS F q)
   ·have Ny:fP n ⟨(nth bS F q).kind,(nth bS F q).cls⟩=false:=hT
    have HF:=HT.o q dI hT
    clear HT hT
    go_wp2_with (go_at_call 137;refine (py _ _ _ _).mono ?_;rintro e w1 ⟨rfl,kS⟩)
    go_ret
    exact ⟨ag HF.symm,(hg.o.alloc _).trans kS⟩
   ·have Ny:fP n ⟨(nth bS F q).kind,(nth bS F q).cls⟩=true:=hT
    have tl:Θ (fP n (nth bS F q)=true):=hT
    clear hT HT
    go_wp2_with (go_at_call 137;refine (py _ _ _ _).mono ?_;rintro e w1 ⟨rfl,kS⟩)
    go_roundw
    case rel=>exact ⟨q+1,by omega,by go_num,fun j hj=>if h:j<q then lq.o j h else by have:j=q:=(by omega);subst this;exact tl.o,(hg.o.alloc _).trans kS⟩
    case measure=>simp [intOf];omega
  ·have hkk:q=F.length:=by omega
   subst hkk
   have HF:=HG.o lq.o
   clear HG hl
   go_wp2
   go_ret
   exact ⟨ag HF.symm,hg.o⟩
theorem mD (hl:cX w A F) :
  χ 78 #[.slice A F.length c,ι n] w fun e w'=>e=.returned (.bool (nE n F))/\Bl w w':=by
 have hm:=hl.1
 unfold maxLen at hm
 by_cases h6:F.length<=6
 ·have hb:nE n F=F.all (fP n):=by unfold nE;rw [decide_eq_true h6];rfl
  rw [hb]
  go_enter func78,ntmps78
  go_wp2_with (go_at_call 79;refine (fy _ _ _ _ _ hl).mono ?_;rintro e w1 ⟨rfl,kS⟩)
  go_ret
  exact ⟨rfl,kS⟩
 ·have hb:=Fl (n:=n) h6
  rw [hb]
  clear hb hl
  go_enter func78,ntmps78
  go_wp2
  go_ret
  exact ⟨rfl,Bl.refl _⟩
end
def sQ (l:List Cl) (i:Nat):Bool:=decide (((i:Int)=0/\(nth bL l i).super=-1)∨((i:Int)≠0/\0<=(nth bL l i).super/\(nth bL l i).super<i))
theorem J7 {l:List Cl} {i:Nat} (hi:i<l.length) (h:sQ l i=false):dt l=false:=by
 unfold sQ at h
 rw [decide_eq_false_iff_not] at h
 by_cases h0:i=0
 ·subst h0;exact nB (by omega)
 ·exact tY hi (yI (by omega))
theorem J8 {l:List Cl} {i:Nat} (hi:i<l.length) (h:nE l.length (nth bL l i).fields=false):dt l=false:=by
 refine tY hi ?_
 by_cases h6:(nth bL l i).fields.length<=6
 ·unfold nE at h
  rw [decide_eq_true h6,Bool.true_and] at h
  unfold qC;rw [h,Bool.and_false]
 ·exact yI (by omega)
theorem Fm {l:List Cl} (h4:4<=l.length) (jU:l.length<=12) (h:∀i,i<l.length->sQ l i=true/\nE l.length (nth bL l i).fields=true):dt l=true:=by
 have h0:=(h 0 (by omega)).1
 unfold sQ at h0
 rw [decide_eq_true_eq] at h0
 refine wH ⟨h4,jU,by omega⟩ fun i hi=>?_
 obtain ⟨h1,h2⟩:=h i hi
 unfold sQ at h1;unfold nE at h2
 rw [decide_eq_true_eq] at h1
 rw [Bool.and_eq_true,decide_eq_true_eq] at h2
 unfold qC
 rw [h2.2,Bool.and_true,decide_eq_true_eq]
 exact ⟨by omega,h2.1⟩
theorem l3 (A:Option Addr) (c:Nat) (l:List Cl) (w:World) (hl:bK w A l) :
  χ 34 #[.slice A l.length c] w fun e w'=>e=.returned (.bool (dt l))/\Bl w w':=by
 obtain ⟨hm,hl⟩:=hl
 unfold maxLen at hm
 by_cases h4:¬(4<=(l.length:Int)/\(l.length:Int)<=12)
 ·have hb:dt l=false:=nB (by omega)
  rw [hb]
  clear hb hl
  have hd:decide (4<=(l.length:Int)/\(l.length:Int)<=12)=false:=decide_eq_false h4
  go_enter func34,ntmps34
  go_wp2_with (go_at_call 35;refine (bP _ _ _ _).mono ?_;rintro e w1 ⟨he,rfl⟩;rw [hd] at he;subst he)
  go_ret
  exact ⟨rfl,Bl.refl _⟩
 replace h4:=Decidable.of_not_not h4
 have hd:decide (4<=(l.length:Int)/\(l.length:Int)<=12)=true:=decide_eq_true h4
 rcases hl with hl|⟨b,off,rfl,hc⟩
 ·omega
 have HB:Θ ((∀i,i<l.length->sQ l i=true/\nE l.length (nth bL l i).fields=true)->dt l=true):=Fm (by omega) (by omega)
 go_enter func34,ntmps34
 go_wp2_with (go_at_call 35;refine (bP _ _ _ _).mono ?_;rintro e w1 ⟨he,hw1⟩;rw [hd] at he;subst he;rw [hw1];clear hw1 w1)
 go_loopw [11] (fun i wr=>∃k:Nat,k<=l.length/\i=ι k/\Θ (∀j,j<k->sQ l j=true/\nE l.length (nth bL l j).fields=true)/\Θ (Bl w wr)) (fun i _=>l.length-(intOf i).toNat)
 case atStart=>exact ⟨0,Nat.zero_le _,rfl,fun j hj=>absurd hj (Nat.not_lt_zero _),Bl.refl _⟩
 case round =>
  obtain ⟨k,hk,rfl,wJ,hg⟩:=hrel
  by_cases hlt:k<l.length
  ·obtain ⟨qI,J3,A',c',hfl,hty⟩:=hc k hlt
   replace qI:=hg.o.cell qI
   replace hfl:=hg.o.cell hfl
   have Fg:Θ (cX wr A' (nth bL l k).fields):=hty.bl hg.o
   have HS:Θ (sQ l k=false->dt l=false):=J7 hlt
   have HF:Θ (nE l.length (nth bL l k).fields=false->dt l=false):=J8 hlt
   clear hc HB hty
   cases hS:sQ l k
   ·have jP:=HS.o hS
    have Sc:decide (((k:Int)=0/\(nth bL l k).super=-1)∨((k:Int)≠0/\0<=(nth bL l k).super/\(nth bL l k).super<k))=false:=hS
    clear hS
    go_wp2_with (go_at_call 77;refine (kF _ _ _).mono ?_;rintro e w1 ⟨he,rfl⟩;rw [Sc] at he;subst he)
    go_ret
    exact ⟨ag jP.symm,hg.o.alloc _⟩
   ·have EY:Θ (sQ l k=true):=hS
    have Sc:decide (((k:Int)=0/\(nth bL l k).super=-1)∨((k:Int)≠0/\0<=(nth bL l k).super/\(nth bL l k).super<k))=true:=hS
    clear hS
    cases hF:nE l.length (nth bL l k).fields
    ·have jP:=HF.o hF
     go_wp2_with (first
      | (go_at_call 77;refine (kF _ _ _).mono ?_;rintro e w1 ⟨he,rfl⟩;rw [Sc] at he;subst he)
      | (go_at_call 78;refine (mD _ _ _ _ _ (Fg.o.bl ((Bl.refl _).alloc _))).mono ?_;rintro e w1 ⟨he,kS⟩;rw [hF] at he;subst he))
     go_ret
     exact ⟨ag jP.symm,(hg.o.alloc _).trans kS⟩
    ·have MF:Θ (nE l.length (nth bL l k).fields=true):=hF
     go_wp2_with (first
      | (go_at_call 77;refine (kF _ _ _).mono ?_;rintro e w1 ⟨he,rfl⟩;rw [Sc] at he;subst he)
      | (go_at_call 78;refine (mD _ _ _ _ _ (Fg.o.bl ((Bl.refl _).alloc _))).mono ?_;rintro e w1 ⟨he,kS⟩;rw [hF] at he;subst he))
     go_roundw
     case rel=>exact ⟨k+1,by omega,by go_num,fun j hj=>if h:j<k then wJ.o j h else by have:j=k:=(by omega);subst this;exact ⟨EY.o,MF.o⟩,(hg.o.alloc _).trans kS⟩
     case measure=>simp [intOf];omega
  ·have hkk:k=l.length:=by omega
   subst hkk
   have wy:=HB.o wJ.o
   clear HB hc
   go_wp2
   go_ret
   exact ⟨ag wy.symm,hg.o⟩
section
open Go.RowKit Go.Shelf
attribute [local go_sem] Oper.semAt_some
theorem up1_in (F:Fence) (n:Nat) (hf:F.fn 248) (MG:F.round=none) (hn:1<=n) (lp Bc Bs:Nat) (A:Option Addr) (c:Nat) (l:List Cl) (u:Nat) (ht:Tree l) (hu:u<l.length) (w:World) (J Jx:List Nat->World->Prop)
  (hY:∀pre x W,J pre W->pre.length<(ups l u).length->YieldAt F (n-1) Tryz.prog lp #[ι (x:Nat)] W fun e W' =>
   (e=.returned (.bool true)/\J (pre++[x]) W'/\Below w.heap.size W W')∨(e=.returned (.bool false)/\Jx (pre++[x]) W'))
  (hl:bK w A l) (Sd:κ w Bc 0 (ι u)) (Se:κ w Bs 0 (.slice A l.length c)) (W:World) (hW:Bl w W) (h0:J [] W) :
  CallsIn F n Tryz.prog 248 #[.func (.yield lp) #[] #[],π Bc 0,π Bs 0] W fun e W'=>(∃v,e=.returned v) /\
   ((∃ys,ys=ups l u/\J ys W')∨(∃pre,pre <+: ups l u/\Jx pre W')):=by
 have HT:Θ (Tree l):=ht
 have HL:Θ (bK w A l):=hl
 have X8:Θ (w.cell? ⟨Bs,0,none⟩=some (.slice A l.length c)):=Se
 have J9:=hW.cell Sd
 have HW:Θ (Bl w W):=hW
 clear ht hl Se Sd hW
 refine callsIn_of_wp func248 rfl hf ?_ MG
 simp only [ntmps248,List.size_toArray,List.length_cons,List.length_nil,Nat.reduceAdd,Nat.reduceSub,Array.replicate_succ,Array.replicate_zero,List.push_toArray,List.append_toArray,List.nil_append,List.cons_append]
 gi_wp2
 clear J9
 gi_loopw [4] (fun p wr=>∃(pre rest:List Nat) (z:Int),p=ι z/\Θ (ups l u=pre++rest)/\Θ ((z=-1/\rest=[])∨∃k:Nat,z=k/\k<l.length/\rest=ups l k)/\Θ (Bl w wr)/\J pre wr)
  (fun p _=>(intOf p+1).toNat)
 case atStart=>exact ⟨[],ups l u,_,rfl,rfl,.inr ⟨u,rfl,hu,rfl⟩,HW,h0⟩
 case round =>
  obtain ⟨pre,rest,z,rfl,hx,hz,hg,VK⟩:=hrel
  rcases hz.o with ⟨rfl,rfl⟩|⟨k,rfl,hk,rfl⟩
  ·clear hz
   gi_wp2
   go_end0
   exact ⟨⟨_,rfl⟩,.inl ⟨pre,by simpa using hx.o.symm,VK⟩⟩
  ·clear hz
   obtain ⟨fn,tmps,assign,body,hy,hR⟩:=hY pre k wr VK (by
    rw [hx.o,List.length_append]
    have:=List.length_pos_of_mem (ups_head (l:=l) k)
    omega)
   gi_wp2
   refine hR.mono ?_
   rintro e W3 (⟨rfl,VL,pZ⟩|⟨rfl,Tm⟩)
   ·have wA:Bl w W3:=Below.trans hg.o pZ
    have Sf:=wA.cell X8.o
    obtain ⟨hm,hcl⟩:=HL.o
    unfold maxLen at hm
    rcases hcl with h1|⟨b,off,rfl,hcl⟩
    ·omega
    have qI:=wA.cell (hcl k hk).1
    by_cases Fo:k=0
    ·subst Fo
     rw [HT.o.zero,Nat.zero_mul,Nat.add_zero] at qI
     have Fp:Θ (ups l u=(pre++[0])++[]):=by rw [hx.o,ups_zero];simp [Θ]
     clear hcl pZ hy hR hx
     have HG:Θ (Bl w W3):=wA
     clear wA
     gi_wp2
     go_roundw
     case rel=>exact ⟨pre++[0],[],-1,rfl,Fp,.inl ⟨rfl,rfl⟩,HG,VL⟩
     case measure=>simp [intOf]
    ·rw [ta HT.o (by omega) hk] at qI
     have hp:=qE HT.o (by omega) hk
     have Fp:Θ (ups l u=(pre++[k])++ups l (par l k)):=by rw [hx.o,ups_step HT.o (by omega) hk];simp [Θ]
     clear hcl pZ hy hR hx
     have HG:Θ (Bl w W3):=wA
     clear wA
     gi_wp2
     go_roundw
     case rel=>exact ⟨pre++[k],_,_,rfl,Fp,.inr ⟨par l k,rfl,by omega,rfl⟩,HG,VL⟩
     case measure=>simp [intOf];omega
   ·gi_wp2
    refine bodyPost_ret (results_none rfl _ _ _) rfl ?_
    refine ⟨⟨_,rfl⟩,.inr ⟨pre++[k],?_,Tm⟩⟩
    rw [hx.o]
    by_cases Fo:k=0
    ·subst Fo;rw [ups_zero];exact List.prefix_rfl
    ·rw [ups_step HT.o (by omega) hk];exact ⟨ups l (par l k),by simp⟩
theorem upward_any (A:Option Addr) (n c:Nat) (x:Int) (w:World) :
  χ 236 #[.slice A n c,ι x] w fun e w' =>
   e=.returned (.func (.func 248) #[] #[π (w.heap.size+1) 0,π w.heap.size 0])
   /\ w'=(w.alloc (.cells #[.slice A n c] 22)).alloc (.cells #[ι x] 3):=by
 refine (callsIn_wide (n:=3)).1 ?_
 refine callsIn_of_wp func236 rfl trivial ?_ rfl
 simp only [ntmps236,List.size_toArray,List.length_cons,List.length_nil,Nat.reduceAdd,Nat.reduceSub,Array.replicate_succ,Array.replicate_zero,List.push_toArray,List.append_toArray,List.nil_append,List.cons_append]
 gi_wp2
 go_ret
 exact ⟨rfl,rfl⟩
theorem up_stops (n:Nat) (hn:1<=n) (Bc Bs:Nat) (A:Option Addr) (c:Nat) (l:List Cl) (u:Nat) (ht:Tree l) (hu:u<l.length) (w:World)
  (hl:bK w A l) (Sd:κ w Bc 0 (ι u)) (Se:κ w Bs 0 (.slice A l.length c)) :
  SeqStopsK Fence.wide n Tryz.prog 248 #[π Bc 0,π Bs 0] (fun x:Nat=>#[Value.int .i64 x]) (Below w.heap.size) (fun ys=>ys=ups l u) (fun pre=>pre <+: ups l u) (ups l u).length w :=
 fun lp J Jx W hW _ _ hY h0=>up1_in Fence.wide n trivial rfl hn lp Bc Bs A c l u ht hu w J Jx hY hl Sd Se W hW h0
end
theorem fM (A:Option Addr) (c:Nat) (l:List Cl) (x y:Int) (w:World) (hl:bK w A l) (ht:Tree l) :
  χ 110 #[.slice A l.length c,ι x,ι y] w fun e w'=>e=.returned (.bool (lg l x y&&fJ l x.toNat y.toNat))/\w'=w:=by
 obtain ⟨hm,hl⟩:=hl
 unfold maxLen at hm
 by_cases sJ:0<=x/\x<l.length/\0<=y/\y<l.length
 ·have hI:lg l x y=true:=decide_eq_true sJ
  rw [hI,Bool.true_and]
  clear hI
  obtain ⟨h1,h2,h3,h4⟩:=sJ
  obtain ⟨u,rfl⟩:=Int.eq_ofNat_of_zero_le h1
  obtain ⟨d,rfl⟩:=Int.eq_ofNat_of_zero_le h3
  simp only [Int.toNat_natCast]
  have HT:Θ (Tree l):=ht
  rcases hl with hl|⟨b,off,rfl,hc⟩
  ·omega
  have hu:u<l.length:=by omega
  have hd:d<l.length:=by omega
  clear ht
  go_enter func110,ntmps110
  go_wp2
  go_loop [1] (fun i=>∃k:Nat,i=ι k/\k<l.length/\Θ (fJ l u d=fJ l k d)) (fun i=>(intOf i).toNat)
  case atStart=>exact ⟨u,rfl,hu,rfl⟩
  case round =>
   obtain ⟨k,rfl,hk,hb⟩:=hrel
   by_cases hlt:d<k
   ·have qI:=(hc k hk).1
    rw [ta HT.o (by omega) hk] at qI
    have hp:=qE HT.o (by omega) hk
    have hs:=Fa HT.o hk hlt
    have HS:Θ (fJ l u d=fJ l (par l k) d):=hb.o.trans hs
    clear hc hs hb
    go_wp2
    go_round
    case rel=>exact ⟨par l k,rfl,by omega,HS⟩
    case measure=>simp [intOf];omega
   ·have HS:Θ (fJ l u d=decide (k=d)):=by
     refine hb.o.trans ?_
     by_cases he:k=d
     ·subst he;rw [E9,decide_eq_true rfl]
     ·rw [JX HT.o hk (by omega),decide_eq_false he]
    clear hc hb
    go_wp2
    go_ret
    refine ⟨ag ?_,rfl⟩
    rw [HS.o,Bool.eq_iff_iff];simp;omega
 ·have hI:lg l x y=false:=decide_eq_false sJ
  rw [hI,Bool.false_and]
  clear hI hl ht
  go_enter func110,ntmps110
  go_wp2
  all_goals first
   | (go_ret;exact ⟨rfl,rfl⟩)
   | (exfalso;omega)
section
open Go.RowKit Go.Shelf
attribute [local go_sem] Oper.semAt_some
theorem CG (A:Option Addr) (c:Nat) (l:List Cl) (u d:Nat) (ht:Tree l) (hu:u<l.length) (w:World) (hl:bK w A l) :
  χ 233 #[.slice A l.length c,ι u,ι d] w fun e w'=>e=.returned (.bool (fJ l u d))/\Bl w w':=by
 have HT:Θ (Tree l):=ht
 have HL:Θ (bK w A l):=hl
 clear ht hl
 refine (callsIn_wide (n:=3)).1 ?_
 refine callsIn_of_wp_marks func233 rfl trivial ?_ rfl
 simp only [ntmps233,List.size_toArray,List.length_cons,List.length_nil,Nat.reduceAdd,Nat.reduceSub,Array.replicate_succ,Array.replicate_zero,List.push_toArray,List.append_toArray,List.nil_append,List.cons_append]
 gi_wp2_with (refine ⟨trivial,?_⟩;gi_at_call 236;refine (callsIn_wide.2 (upward_any _ _ _ _ _)).mono ?_;rintro e w' ⟨rfl,rfl⟩)
 have c0:=Boxed.new w 3 (ι (d:Int))
 have c1:=Boxed.new (w.alloc (.cells #[ι (d:Int)] 3)) 4 (.bool false)
 have c2:=Boxed.new ((w.alloc (.cells #[ι (d:Int)] 3)).alloc (.cells #[.bool false] 4)) 22 (.slice A l.length c)
 have c3:=Boxed.new (((w.alloc (.cells #[ι (d:Int)] 3)).alloc (.cells #[.bool false] 4)).alloc (.cells #[.slice A l.length c] 22)) 3 (ι (u:Int))
 simp only [World.size_alloc] at c1 c2 c3
 have CH:Bl w ((((w.alloc (.cells #[ι (d:Int)] 3)).alloc (.cells #[.bool false] 4)).alloc (.cells #[.slice A l.length c] 22)).alloc (.cells #[ι (u:Int)] 3)):=((((Bl.refl w).alloc _).alloc _).alloc _).alloc _
 refine wpIn_rangeFunc_ownF (F:=Fence.wide) rfl (by omega) (gf:=248) (lb:=#[π (w.heap.size+1+1+1) 0,π (w.heap.size+1+1) 0]) rfl trivial (enters_of func248 (by kernel_rfl) rfl)
  (up_stops _ (by omega) (w.heap.size+1+1+1) (w.heap.size+1+1) A c l u HT.o hu _ (HL.o.bl CH) c3.cell (c2.alloc _).cell) belowK_t (belowK_b (Nat.le_refl _)) (Below.refl _ _) (fun _=>rfl)
  (fun pre W=>((∀y∈pre,y≠d)/\Boxed W w.heap.size 3 (ι (d:Int))/\Boxed W (w.heap.size+1) 4 (.bool false))/\Below w.heap.size w W)
  (fun c pre W=>(c=.ret/\d∈pre/\Boxed W (w.heap.size+1) 4 (.bool true))/\Below w.heap.size w W)
  (OwnFrom.and (Own.from (fun s X Y row hs hg hr=>⟨hs.1,boxed_own _ _ (fun _=>_) s X Y row hs.2.1 hg hr,boxed_own _ _ (fun _=>_) s X Y row hs.2.2 hg hr⟩) _) (ownFrom_below (Nat.le_refl _) CH.size))
  (fun c=>OwnFrom.and (Own.from (fun s X Y row hs hg hr=>⟨hs.1,hs.2.1,boxed_own _ _ (fun _=>_) s X Y row hs.2.2 hg hr⟩) _) (ownFrom_below (Nat.le_refl _) CH.size))
  ⟨⟨by simp,((c0.alloc _).alloc _).alloc _,(c1.alloc _).alloc _⟩,CH⟩
  (fun x=>{ tmps:=#[.slice A l.length c,ι u,ι d,undef,undef,π w.heap.size 0,π (w.heap.size+1) 0,ι (x:Int),.slice A l.length c,ι u,
   .func (.func 248) #[] #[π (w.heap.size+1+1+1) 0,π (w.heap.size+1+1) 0],ι (x:Int),undef,undef,undef],defers:=[] }) ?assign ?body ?done ?stop
 case assign =>
  intro l x W K hK
  gi_wp2
  exact hK
 case body =>
  rintro lp pre x W ⟨⟨hp,Tn,hcr⟩,hB⟩ _
  have h1:=Tn.cell
  have h2:=hcr.cell
  have h3:=hcr.frozen
  have HB:Θ (Below w.heap.size w W):=hB
  have HC:Θ (Boxed W (w.heap.size+1) 4 (.bool false)):=hcr
  have HW:Θ (Boxed W w.heap.size 3 (ι (d:Int))):=Tn
  clear hB hcr Tn c0 c1 c2 c3 CH
  by_cases hx:x=d
  ·subst hx
   gi_wp2
   exact ⟨KeepsOthers.setCell _ _ _,⟨rfl,List.mem_append.2 (.inr (by simp)),HC.o.set _⟩,HB.o.setCell (p:=⟨w.heap.size+1,0,none⟩) (by simp) _⟩
  ·have Fp:((x:Int)==(d:Int))=false:=by simp;omega
   gi_wp2
   exact ⟨KeepsOthers.refl _,Below.refl _ _,⟨fun y hy=>(List.mem_append.1 hy).elim (hp y) (fun e=>by simp at e;subst e;exact hx),HW,HC⟩,HB⟩
 case done =>
  rintro D ys W hD rfl ⟨⟨hne,_,hcr⟩,hB⟩ hK
  have h2:=hcr.cell
  have h3:=hcr.frozen
  gi_wp2
  have hK':=(KeepsOthers.setCell W ⟨w.heap.size+1,0,none⟩ (.bool false)).same D _ hK rfl
  refine ⟨by simp,.inl ⟨_,_,rfl,run_takeDeferred hK',?_⟩⟩
  have Fs:=cell_kept (hcr.set (.bool false)).cell (grownBy_putObj' _ D (.deferred none)) (fun r e=>by cases e;exact ⟨_,hK',rfl⟩)
  refine ⟨.bool false,?_,by rw [show fJ l u d=false from decide_eq_false (fun h=>hne d h rfl)],(hB.setCell (p:=⟨w.heap.size+1,0,none⟩) (by simp) _).trans (belowK_b (w:=w) (Nat.le_refl _) _ D _ _ (by simp at hD;omega) hK' rfl rfl)⟩
  simp [results,Tryz.f233,go_sem,Fs]
 case stop =>
  rintro D c pre W hD hpre ⟨⟨rfl,sJ,hcr⟩,hB⟩ hK
  gi_wp2
  refine ⟨by simp,.inl ⟨_,_,rfl,run_takeDeferred hK,?_⟩⟩
  have Fs:=cell_kept hcr.cell (grownBy_putObj' _ D (.deferred none)) (fun r e=>by cases e;exact ⟨_,hK,rfl⟩)
  refine ⟨.bool true,?_,by rw [A9.2 (hpre.subset sJ)],hB.trans (belowK_b (w:=w) (Nat.le_refl _) W D _ _ (by simp at hD;omega) hK rfl rfl)⟩
  simp [results,Tryz.f233,go_sem,Fs]
end
section
open Go.RowKit Go.Shelf
attribute [local go_sem] Oper.semAt_some
theorem Bl.keeps {W W':World} (h:Bl W W'):KeepsOthers W W':=⟨h.size,fun i _ hi _=>(Below.block h i (Array.getElem?_eq_some_iff.1 hi).1).trans hi⟩
section
variable (A:Option Addr) (c:Nat) (l:List Cl) (x y:Int) (w:World)
theorem lD (hl:bK w A l) :
  χ 232 #[.slice A l.length c,ι x,ι y] w fun e w'=>e=.returned (.bool (dt l&&lg l x y))/\Bl w w':=by
 have HL:Θ (bK w A l):=hl
 clear hl
 have hc:lg l x y=(decide (0<=x/\x<l.length)&&decide (0<=y/\y<l.length)):=by
  unfold lg;rw [Bool.eq_iff_iff];simp;omega
 rw [hc]
 clear hc
 cases hm:dt l
 ·go_enter func232,ntmps232
  go_wp2_with (go_at_call 34;refine (l3 _ _ _ _ HL.o).mono ?_;rintro e w1 ⟨he,hg⟩;rw [hm] at he;subst he)
  go_ret
  exact ⟨rfl,hg⟩
 ·cases hx:decide (0<=x/\x<l.length)
  ·go_enter func232,ntmps232
   go_wp2_with (first
    | (go_at_call 34;refine (l3 _ _ _ _ HL.o).mono ?_;rintro e w1 ⟨he,hg⟩;rw [hm] at he;subst he)
    | (go_at_call 97;refine (bk _ _ _).mono ?_;rintro e w2 ⟨he,rfl⟩;rw [hx] at he;subst he))
   go_ret
   exact ⟨rfl,hg⟩
  ·go_enter func232,ntmps232
   go_wp2_with (first
    | (go_at_call 34;refine (l3 _ _ _ _ HL.o).mono ?_;rintro e w1 ⟨he,hg⟩;rw [hm] at he;subst he)
    | (go_at_call 97;refine (bk _ _ _).mono ?_;rintro e w2 ⟨he,rfl⟩;(try rw [hx] at he);subst he))
   go_ret
   exact ⟨ag (by rw [Bool.eq_iff_iff];simp),hg⟩
theorem yQ (hl:bK w A l) :
  χ 198 #[.slice A l.length c,ι x,ι y] w fun e w'=>e=.returned (.bool (Fb l x y))/\Bl w w':=by
 have HL:Θ (bK w A l):=hl
 clear hl
 unfold Fb
 cases hm:(dt l&&lg l x y)
 ·rw [Bool.false_and]
  go_enter func198,ntmps198
  go_wp2_with (go_at_call 232;refine (lD _ _ _ _ _ _ HL.o).mono ?_;rintro e w1 ⟨he,hg⟩;rw [hm] at he;subst he)
  go_ret
  exact ⟨rfl,hg⟩
 ·rw [Bool.true_and]
  have iL:=Bool.and_eq_true_iff.1 hm
  have HT:Θ (Tree l):=(qD iL.1).1
  have sJ:0<=x/\x<l.length/\0<=y/\y<l.length:=of_decide_eq_true iL.2
  clear iL
  obtain ⟨h1,h2,h3,h4⟩:=sJ
  obtain ⟨u,rfl⟩:=Int.eq_ofNat_of_zero_le h1
  obtain ⟨d,rfl⟩:=Int.eq_ofNat_of_zero_le h3
  simp only [Int.toNat_natCast]
  have hu:u<l.length:=by omega
  clear h1 h2 h3 h4
  go_enter func198,ntmps198
  go_wp2_with (first
   | (go_at_call 232;refine (lD _ _ _ _ _ _ HL.o).mono ?_;rintro e w1 ⟨he,hg⟩;rw [hm] at he;subst he)
   | (go_at_call 233;refine (CG _ _ _ _ _ HT.o hu _ (HL.o.bl hg)).mono ?_;rintro e w2 ⟨rfl,eF⟩))
  go_ret
  exact ⟨rfl,hg.trans eF⟩
end
end
structure pA (w:World) where
 to:World
 is:Bl w to
section
variable {P:Program}
theorem az {id:Nat} {Q:Exit->Act->World->Prop} {a:Act} {w:World} {l:List Oper} (hm:P.follows .mixedOrders=true) (hB:Region.lexB .any l.toArray=true) (h:Nonempty (pA w)->wpQuiet P l.toArray (fun w'=>∃x:pA w,w'=x.to) (fun a'=>∀w',(∃x:pA w,w'=x.to)->Q .normal a' w') l a):(Code.region id l.toArray true).wp P Q a w :=
 wp_region_quiet (C:=fun w'=>∃x:pA w,w'=x.to) hm hB ⟨⟨_,(Bl.refl w).drew⟩,rfl⟩ (by simpa using h ⟨⟨w,Bl.refl w⟩⟩)
theorem Calls.fut {f:FuncId} {args:Array Value} {w:World} {v:Value} (x:pA w) (h:Calls P f args x.to fun e w'=>e=.returned v/\Bl x.to w'):Calls P f args x.to fun e w''=>e=.returned v/\∃y:pA w,w''=y.to :=
 h.mono fun _ w'' ⟨he,hb⟩=>⟨he,⟨w'',x.is.trans hb⟩,rfl⟩
theorem Calls.fut_same {f:FuncId} {args:Array Value} {w:World} {v:Value} (x:pA w) (h:Calls P f args x.to fun e w'=>e=.returned v/\w'=x.to):Calls P f args x.to fun e w''=>e=.returned v/\∃y:pA w,w''=y.to :=
 h.mono fun _ _ ⟨he,hb⟩=>⟨he,x,hb⟩
theorem Calls.fut_eq {f:FuncId} {args:Array Value} {w:World} {v v':Value} (x:pA w) (h:Calls P f args x.to fun e w'=>e=.returned v/\Bl x.to w') (hv:v=v'):Calls P f args x.to fun e w''=>e=.returned v'/\∃y:pA w,w''=y.to :=
 hv▸Calls.fut x h
theorem Calls.fut_same_eq {f:FuncId} {args:Array Value} {w:World} {v v':Value} (x:pA w) (h:Calls P f args x.to fun e w'=>e=.returned v/\w'=x.to) (hv:v=v'):Calls P f args x.to fun e w''=>e=.returned v'/\∃y:pA w,w''=y.to :=
 hv▸Calls.fut_same x h
end
theorem aj {w:World} {b o:Nat} {v:Value} (h:κ w b o v) (x:pA w):x.to.cell? ⟨b,o,none⟩=some v:=x.is.cell h
theorem MH {P:Program} {md:Region.Mode} {ops:Array Oper} {Q:Exit->Act->World->Prop} {S:World->Prop} {i:Nat} {oi:Oper} {d:Option Tmp} {v:Value} {fuel:Nat} {listed:Array Bool} {a:Act} {w:World} (hi:ops[i]?=some oi) (hd:oi.dst=d)
  (hs:Region.noSelect ops=true) (hf:Region.free md ops listed i=true) (hr:(Region.ready md ops listed).contains i=true)
  (hQ:∀c a w,Q (.panic c) (a.put oi.dst v) w->Q (.panic c) a w) (hw:Region.wanted oi (yielded ops a.tmps)=true) (hy:∀w,S w->(execOp a.eval oi).run P w=.ok (.value v) w) (hS:S w)
  (h:wpAnyH P md ops Q S fuel (listed.setIfInBounds i true) (a.put d v) w):wpAnyH P md ops Q S (fuel+1) listed a w :=
 wpAnyH_take hi hs hf hr hQ (Or.inl ⟨hw,hy⟩) hS (hd▸h)
def qOp:Op->Bool
 | .call c=>match c.callee with | .builtin .len=>true|_=>false
 | .move _ | .assign _ | .fieldAddr .. | .nilCheck _ | .load .. | .binOp .. | .unOp .. | .indexAddr .. | .build .. | .slice .. | .index .. | .extract .. | .convert .. | .field .. | .pick .. | .lookup ..=>true
 | _=>false
def VM (md:Region.Mode) (l:List Bool):List Edge->Bool
 | []=>true
 | e::es=>(!Region.binds md e||l.getD e.on false)&&VM md l es
def PD (md:Region.Mode) (l:List Bool) (k:Nat):List Oper->List Bool->Option (Nat×Oper)
 | o::os,b::bs=>match !b&&(qOp o.op&&VM md l o.after.toList) with
  | true=>some (k,o)
  | false=>PD md l (k+1) os bs
 | _,_=>none
theorem MI {md:Region.Mode} {l:List Bool} {i:Nat} {o:Oper}:∀(os:List Oper) (bs:List Bool) (k:Nat),PD md l k os bs=some (i,o)->∃q,i=k+q/\os[q]?=some o
 | [],bs,k,h=>by simp [PD] at h
 | x::os,[],k,h=>by simp [PD] at h
 | x::os,b::bs,k,h=>by
  unfold PD at h
  split at h
  ·have h:=Option.some.inj h
   exact ⟨0,by have:=congrArg Prod.fst h;simp at this;omega,by have:=congrArg Prod.snd h;simp at this;simp [this]⟩
  ·obtain ⟨q,h1,h2⟩:=MI os bs (k+1) h
   exact ⟨q+1,by omega,by simpa using h2⟩
theorem tn {P:Program} {md:Region.Mode} {ops:Array Oper} {Q:Exit->Act->World->Prop} {S:World->Prop} {i:Nat} {oi:Oper} {v:Value} {fuel:Nat} {listed:Array Bool} {a:Act} {w:World} (hn:PD md listed.toList 0 ops.toList listed.toList=some (i,oi))
  (hr:(Region.noSelect ops&&(Region.free md ops listed i&&((Region.ready md ops listed).contains i&&Region.wanted oi (yielded ops a.tmps))))=true)
  (hQ:∀c a w,Q (.panic c) (a.put oi.dst v) w->Q (.panic c) a w) (hy:∀w,S w->(execOp a.eval oi).run P w=.ok (.value v) w) (hS:S w)
  (h:wpAnyH P md ops Q S fuel (listed.setIfInBounds i true) (a.put oi.dst v) w):wpAnyH P md ops Q S (fuel+1) listed a w:=by
 rw [Bool.and_eq_true,Bool.and_eq_true,Bool.and_eq_true] at hr
 obtain ⟨q,h1,h2⟩:=MI _ _ _ hn
 have hi:ops[i]?=some oi:=by rw [h1,Nat.zero_add,<-Array.getElem?_toList];exact h2
 exact MH hi rfl hr.1 hr.2.1 hr.2.2.1 hQ hr.2.2.2 hy hS h
theorem tk {P:Program} {md:Region.Mode} {ops:Array Oper} {Q:Exit->Act->World->Prop} {S:World->Prop} {i:Nat} {oi:Oper} {d:Option Tmp} {v:Value} {fuel:Nat} {listed:Array Bool} {a:Act} {w:World} (hi:ops[i]?=some oi) (hd:oi.dst=d)
  (hr:(Region.noSelect ops&&(Region.free md ops listed i&&(Region.ready md ops listed).contains i))=true)
  (hQ:∀c a w,Q (.panic c) (a.put oi.dst v) w->Q (.panic c) a w) (hw:Region.wanted oi (yielded ops a.tmps)=true) (hy:∀w,S w->(execOp a.eval oi).run P w=.ok (.value v) w) (hS:S w)
  (h:wpAnyH P md ops Q S fuel (listed.setIfInBounds i true) (a.put d v) w):wpAnyH P md ops Q S (fuel+1) listed a w:=by
 rw [Bool.and_eq_true,Bool.and_eq_true] at hr
 exact MH hi hd hr.1 hr.2.1 hr.2.2 hQ hw hy hS h
theorem aY {P:Program} {md:Region.Mode} {ops:Array Oper} {Q:Exit->Act->World->Prop} {S:World->Prop} {fuel:Nat} {listed:Array Bool} {a:Act} {w:World} {i:Nat} {o:Oper} (hr:Region.ready md ops listed=[i]) (ho:ops[i]?=some o)
  (h:∀K':Act->World->Prop,Shut (∀a w,S w->(S w->wpAnyH P md ops Q S fuel (listed.setIfInBounds i true) a w)->K' a w)->if Region.wanted o (yielded ops a.tmps)=true then Oper.wp P o a w K' Q else K' (a.put o.dst undef) w):wpAnyH P md ops Q S (fuel+1) listed a w :=
 wpAnyH_ready hr (by simp) (AllReadyH.cons ho h AllReadyH.nil)
theorem aS (a:Act) (t:Tmp) (v:Value):a.put (some t) v={ a with tmps:=a.tmps.setIfInBounds t v }:=rfl
theorem aN (a:Act) (v:Value):a.put none v=a:=rfl
theorem aT {α:Type} (l:List α) (i:Nat) (x:α):l.toArray.setIfInBounds i x=(l.set i x).toArray:=List.setIfInBounds_toArray ..
theorem a0 {α:Type} (x y:α) (l:List α):(x::l).set 0 y=y::l:=rfl
theorem a1 {α:Type} (x y:α) (l:List α) (n:Nat):(x::l).set (n+1) y=x::l.set n y:=rfl
theorem aZ:(∀(a:Act) (t:Tmp) (v:Value),a.put (some t) v={ a with tmps:=a.tmps.setIfInBounds t v })/\(∀(a:Act) (v:Value),a.put none v=a)/\(∀{α:Type} (l:List α) (i:Nat) (x:α),l.toArray.setIfInBounds i x=(l.set i x).toArray)/\(∀{α:Type} (x y:α) (l:List α),(x::l).set 0 y=y::l)/\(∀{α:Type} (x y:α) (l:List α) (n:Nat),(x::l).set (n+1) y=x::l.set n y) :=
 ⟨aS,aN,aT,a0,a1⟩
theorem eD {k:IntKind} {a b:Int} {x y:Bool} (h:a=b) (h':x=y):Ending.returned (.tuple #[.int k a,.bool x])=.returned (.tuple #[.int k b,.bool y]):=by rw [h,h']
theorem P7 {x y:Bool} (h:x=y):Ending.returned (.bool x)=.returned (.bool y):=by rw [h]
theorem Ft (a b:Int) (w:World) :
  χ 160 #[ι a,ι b] w fun e w'=>e=.returned (ι (lh a b))/\w'=w:=by
 unfold lh
 by_cases h:a<b
 ·rw [if_pos h]
  go_enter func160,ntmps160
  go_wp2
  go_ret
  exact ⟨rfl,rfl⟩
 by_cases h':b<a
 ·rw [if_neg h,if_pos h']
  go_enter func160,ntmps160
  go_wp2
  go_ret
  exact ⟨rfl,rfl⟩
 ·rw [if_neg h,if_neg h']
  go_enter func160,ntmps160
  go_wp2
  go_ret
  exact ⟨rfl,rfl⟩
theorem CI (a:Int) (i:Nat) (hlo:-9223372036854775808<=a) (eY:a<=9223372036854775807) :
  -9223372036854775808<=a/2 ^ i/\a/2 ^ i<=9223372036854775807:=by
 have hp:(0:Int)<2 ^ i:=Int.pow_pos (by omega)
 constructor
 ·rw [Int.le_ediv_iff_mul_le hp]
  have:(1:Int)<=2 ^ i:=by omega
  have:=Int.mul_le_mul_of_nonpos_left (a:=(-9223372036854775808:Int)) (by omega) this
  omega
 ·by_cases h:0<=a
  ·have:=Int.ediv_le_self (2 ^ i) h;omega
  ·have:=Int.ediv_neg_of_neg_of_pos (by omega:a<0) hp;omega
theorem Fv (n:Int):(n.tmod 2 !=0)=decide (n%2=1):=by
 have:=MC n
 by_cases h:n%2=1
 ·have h':n.tmod 2≠0:=by omega
  simp [h,h']
 ·have h':n.tmod 2=0:=by omega
  simp [h,h']
theorem Ka (a:Int) (k:Nat) (w:World) (hlo:-9223372036854775808<=a) (eY:a<=9223372036854775807) (hk:k<=64) :
  χ 247 #[ι a,ι (k:Int)] w fun e w'=>e=.returned (.bool (fw a k))/\w'=w:=by
 go_enter func247,ntmps247
 go_wp2
 go_loop [0,5] (fun n i=>∃j:Nat,j<=k/\i=ι j/\n=ι (a/2 ^ j)) (fun _ i=>k-(intOf i).toNat)
 case atStart=>exact ⟨0,Nat.zero_le _,rfl,by simp⟩
 case round =>
  obtain ⟨j,hj,rfl,rfl⟩:=hrel
  have hb:=CI a j hlo eY
  have hs:=tZ a j
  have HS:Θ (a/2 ^ (j+1)=a/2 ^ j/2):=hs
  clear hs
  have P8:Θ (fw a j=decide (a/2 ^ j%2=1)):=rfl
  obtain ⟨n,hn⟩:∃n,a/2 ^ j=n:=⟨_,rfl⟩
  rw [hn] at hb HS P8
  simp only [hn]
  have ht:=MC n
  have hh:=Cy n
  by_cases hlt:j<k
  ·by_cases oG:n.tmod 2<0
   ·have h2:=ht.2.1 oG
    go_wp2
    go_round
    case rel=>exact ⟨j+1,by omega,by go_num,by rw [HS.o,<-hh,h2.2]⟩
    case measure=>simp [intOf];omega
   ·go_wp2
    go_round
    case rel=>exact ⟨j+1,by omega,by go_num,by rw [HS.o,<-hh,ht.1 (by omega)]⟩
    case measure=>simp [intOf];omega
  ·have:j=k:=by omega
   subst this
   go_wp2
   go_ret
   exact ⟨P7 (by rw [P8.o,Fv n]),rfl⟩
theorem CJ (f:Nat->Bool) (j:Nat):wrap64 (iB f (j+1):Nat)=if f j=true then wrap64 (wrap64 (iB f j:Nat)+wrap64 ((2:Int) ^ j)) else wrap64 (iB f j:Nat):=by
 by_cases h:f j=true
 ·rw [if_pos h,Ba];simp [iB,h]
 ·rw [if_neg h];simp [iB,h]
theorem Fw (j:Nat):wrap64 (wrap64 ((2:Int) ^ j)+wrap64 ((2:Int) ^ j))=wrap64 ((2:Int) ^ (j+1)):=by
 rw [Ba,Int.pow_succ];congr 1;omega
theorem Fx (op a b:Int) (w:World) (ho:op=6∨op=7∨op=8) (hlo:-9223372036854775808<=a) (eY:a<=9223372036854775807) (qM:-9223372036854775808<=b) (qN:b<=9223372036854775807) :
  χ 234 #[ι op,ι a,ι b] w fun e w'=>e=.returned (ι (wrap64 (iB (fun i=>CB op (fw a i) (fw b i)) 64:Nat)))/\w'=w:=by
 go_enter func234,ntmps234
 go_wp2
 go_loop [7,8,9] (fun n p i=>∃j:Nat,j<=64/\i=ι j/\p=ι (wrap64 (2 ^ j))/\n=ι (wrap64 (iB (fun i=>CB op (fw a i) (fw b i)) j:Nat))) (fun _ _ i=>64-(intOf i).toNat)
 case atStart=>exact ⟨0,Nat.zero_le _,rfl,by simp [wrap64],by simp [iB,wrap64]⟩
 case round =>
  obtain ⟨j,hj,rfl,rfl,rfl⟩:=hrel
  have VN:Θ (wrap64 (wrap64 ((2:Int) ^ j)+wrap64 ((2:Int) ^ j))=wrap64 ((2:Int) ^ (j+1))):=Fw j
  have HT:Θ (wrap64 (iB (fun i=>CB op (fw a i) (fw b i)) (j+1):Nat)=if CB op (fw a j) (fw b j)=true then wrap64 (wrap64 (iB (fun i=>CB op (fw a i) (fw b i)) j:Nat)+wrap64 ((2:Int) ^ j)) else wrap64 (iB (fun i=>CB op (fw a i) (fw b i)) j:Nat)):=CJ (fun i=>CB op (fw a i) (fw b i)) j
  by_cases hlt:j<64
  ·rcases ho with rfl|rfl|rfl<;>cases hx:fw a j<;>cases hy:fw b j
   all_goals
    go_wp2_with (go_at_call 247;refine (Ka _ _ _ (by omega) (by omega) (by omega)).mono ?_;rintro e w' ⟨rfl,rfl⟩)
    go_round
    case rel=>exact ⟨j+1,by omega,by go_num,by rw [<-VN.o],by rw [HT.o];simp [CB,hx,hy]⟩
    case measure=>simp [intOf];omega
  ·have:j=64:=by omega
   subst this
   go_wp2
   go_ret
   exact ⟨rfl,rfl⟩
theorem lE (a:Int) (w:World) :
  χ 50 #[ι a] w fun e w'=>e=.returned (ι (wrap32 a))/\w'=w:=by
 have h:=yK a
 have hb:=Cx a
 by_cases h1:a.tmod 4294967296<0
 ·by_cases h2:a.tmod 4294967296+4294967296≥2147483648
  ·have HE:Θ (wrap32 a=a.tmod 4294967296+4294967296-4294967296):=h.1 h1 h2
   clear h
   go_enter func50,ntmps50
   go_wp2
   go_ret
   exact ⟨wI (by rw [HE.o];omega),rfl⟩
  ·have HE:Θ (wrap32 a=a.tmod 4294967296+4294967296):=h.2.1 h1 (by omega)
   clear h
   go_enter func50,ntmps50
   go_wp2
   go_ret
   exact ⟨wI (by rw [HE.o]),rfl⟩
 ·by_cases h2:a.tmod 4294967296≥2147483648
  ·have HE:Θ (wrap32 a=a.tmod 4294967296-4294967296):=h.2.2.1 (by omega) h2
   clear h
   go_enter func50,ntmps50
   go_wp2
   go_ret
   exact ⟨wI (by rw [HE.o]),rfl⟩
  ·have HE:Θ (wrap32 a=a.tmod 4294967296):=h.2.2.2 (by omega) (by omega)
   clear h
   go_enter func50,ntmps50
   go_wp2
   go_ret
   exact ⟨wI (by rw [HE.o]),rfl⟩
theorem pB (a:Int):wrap64 (-a)=wrap64 (a.tdiv (-1)):=by
 congr 1;rw [Int.tdiv_neg,Int.tdiv_one]
theorem ND (a b:Int) (h:-9223372036854775808<=a) (h':a<=9223372036854775807):wrap64 (a-wrap64 (wrap64 (a.tdiv b)*b))=a.tmod b:=by
 have h1:=jO a b
 have h2:=Ju a b h h'
 rw [JZ]
 have h3:a-a.tdiv b*b=a.tmod b:=by omega
 have h4:wrap64 (a-wrap64 (a.tdiv b*b))=wrap64 (a-a.tdiv b*b):=by
  generalize a.tdiv b*b=x;unfold wrap64;omega
 rw [h4,h3,Nw h2.1 h2.2]
theorem ju (op a b:Int) (w:World) (hlo:-9223372036854775808<=a) (eY:a<=9223372036854775807) (qM:-9223372036854775808<=b) (qN:b<=9223372036854775807) :
  χ 200 #[ι op,ι a,ι b] w fun e w'=>e=.returned (.tuple #[ι (dD op a b),.bool (ep op b)])/\w'=w:=by
 by_cases h1:op=1
 ·subst h1
  have HE:Θ (dD 1 a b=wrap64 (a+b)/\ep 1 b=true):=⟨by simp [dD],by simp [ep]⟩
  clear hlo eY qM qN
  go_enter func200,ntmps200
  go_wp2
  go_ret2
  exact ⟨eD HE.o.1.symm HE.o.2.symm,rfl⟩
 by_cases h2:op=2
 ·subst h2
  have HE:Θ (dD 2 a b=wrap64 (a-b)/\ep 2 b=true):=⟨by simp [dD],by simp [ep]⟩
  clear hlo eY qM qN
  go_enter func200,ntmps200
  go_wp2
  go_ret2
  exact ⟨eD HE.o.1.symm HE.o.2.symm,rfl⟩
 by_cases h3:op=3
 ·subst h3
  have HE:Θ (dD 3 a b=wrap64 (a*b)/\ep 3 b=true):=⟨by simp [dD],by simp [ep]⟩
  clear hlo eY qM qN
  go_enter func200,ntmps200
  go_wp2
  go_ret2
  exact ⟨eD HE.o.1.symm HE.o.2.symm,rfl⟩
 by_cases wQ:op=6∨op=7∨op=8
 ·have HE:Θ (dD op a b=wrap64 (iB (fun i=>CB op (fw a i) (fw b i)) 64:Nat)/\ep op b=true) :=
   ⟨by have h4:¬op=4:=(by omega);have h5:¬op=5:=(by omega);simp only [dD,if_neg h1,if_neg h2,if_neg h3,if_neg h4,if_neg h5,if_pos wQ],
    by simp only [ep,decide_eq_true_eq];omega⟩
  have hc:=fun w=>Fx op a b w wQ hlo eY qM qN
  clear hlo eY qM qN
  rcases wQ with rfl|rfl|rfl
  all_goals
   go_enter func200,ntmps200
   go_wp2_with (go_at_call 234;refine (hc _).mono ?_;rintro e w' ⟨rfl,rfl⟩)
   go_ret2
   exact ⟨eD HE.o.1.symm HE.o.2.symm,rfl⟩
 by_cases h4:op=4
 ·subst h4
  by_cases hb:b=0
  ·subst hb
   have HE:Θ (dD 4 a 0=0/\ep 4 0=false):=⟨by simp [dD],by simp [ep]⟩
   clear hlo eY qM qN
   go_enter func200,ntmps200
   go_wp2
   go_ret2
   exact ⟨eD HE.o.1.symm HE.o.2.symm,rfl⟩
  ·have HE:Θ (dD 4 a b=wrap64 (a.tdiv b)/\ep 4 b=true):=⟨by simp [dD,hb],by simp [ep,hb]⟩
   clear hlo eY qM qN
   by_cases hm:b=-1
   ·subst hm
    go_enter func200,ntmps200
    go_wp2
    go_ret2
    exact ⟨eD (by rw [HE.o.1];exact pB a) HE.o.2.symm,rfl⟩
   ·go_enter func200,ntmps200
    go_wp2
    go_ret2
    exact ⟨eD HE.o.1.symm HE.o.2.symm,rfl⟩
 by_cases h5:op=5
 ·subst h5
  by_cases hb:b=0
  ·subst hb
   have HE:Θ (dD 5 a 0=0/\ep 5 0=false):=⟨by simp [dD],by simp [ep]⟩
   clear hlo eY qM qN
   go_enter func200,ntmps200
   go_wp2
   go_ret2
   exact ⟨eD HE.o.1.symm HE.o.2.symm,rfl⟩
  ·have HE:Θ (dD 5 a b=a.tmod b/\ep 5 b=true):=⟨by simp [dD,hb],by simp [ep,hb]⟩
   have HR:Θ (wrap64 (a-wrap64 (wrap64 (a.tdiv b)*b))=a.tmod b):=ND a b hlo eY
   clear hlo eY qM qN
   by_cases hm:b=-1
   ·subst hm
    go_enter func200,ntmps200
    go_wp2
    go_ret2
    exact ⟨eD (by rw [HE.o.1,<-HR.o,<-pB,Int.mul_neg_one]) HE.o.2.symm,rfl⟩
   ·go_enter func200,ntmps200
    go_wp2
    go_ret2
    exact ⟨eD (by rw [HE.o.1,<-HR.o]) HE.o.2.symm,rfl⟩
 have e1:dD op a b=0:=by
  simp only [dD,if_neg h1,if_neg h2,if_neg h3,if_neg h4,if_neg h5,if_neg wQ]
 have e2:ep op b=false:=by simp only [ep,decide_eq_false_iff_not];omega
 rw [e1,e2]
 clear e1 e2 hlo eY qM qN
 have h6:¬op=6:=by omega
 have h7:¬op=7:=by omega
 have h8:¬op=8:=by omega
 clear wQ
 go_enter func200,ntmps200
 go_wp2
 go_ret2
 exact ⟨rfl,rfl⟩
theorem wR (op a b:Int) (w:World) :
  χ 201 #[ι op,ι a,ι b] w fun e w'=>e=.returned (.tuple #[ι (wrap32 (dD op (wrap32 a) (wrap32 b))),.bool (ep op (wrap32 b))])/\w'=w:=by
 have ha:=yJ a
 have hb:=yJ b
 go_enter func201,ntmps201
 go_wp2_with (first|(go_at_call 50;refine (lE _ _).mono ?_;rintro e w' ⟨rfl,rfl⟩)|(go_at_call 200;refine (ju _ _ _ _ (by omega) (by omega) (by omega) (by omega)).mono ?_;rintro e w' ⟨rfl,rfl⟩))
 go_ret2
 exact ⟨rfl,rfl⟩
theorem P9 (a:Int):kC 1 a=(a==0):=by unfold kC;by_cases h:a=0<;>simp [h]
theorem Qc (a:Int):kC 2 a=decide (a<0):=by unfold kC;simp
theorem Qd (a:Int):kC 3 a=(a !=0):=by unfold kC;by_cases h:a=0<;>simp [h]
theorem Qe (a:Int):kC 4 a=decide (0<a):=by unfold kC;simp
theorem Qf (c a:Int) (h1:¬c=1) (h2:¬c=2) (h3:¬c=3) (h4:¬c=4):kC c a=false:=by unfold kC;simp [h1,h2,h3,h4]
theorem qO (c a:Int) (w:World) :
  χ 111 #[ι c,ι a] w fun e w'=>e=.returned (.bool (kC c a))/\w'=w:=by
 by_cases h1:c=1
 ·subst h1
  rw [P9]
  go_enter func111,ntmps111
  go_wp2
  go_ret
  exact ⟨rfl,rfl⟩
 by_cases h2:c=2
 ·subst h2
  rw [Qc]
  go_enter func111,ntmps111
  go_wp2
  go_ret
  exact ⟨rfl,rfl⟩
 by_cases h3:c=3
 ·subst h3
  rw [Qd]
  go_enter func111,ntmps111
  go_wp2
  go_ret
  exact ⟨rfl,rfl⟩
 by_cases h4:c=4
 ·subst h4
  rw [Qe]
  go_enter func111,ntmps111
  go_wp2
  go_ret
  exact ⟨rfl,rfl⟩
 rw [Qf c a h1 h2 h3 h4]
 go_enter func111,ntmps111
 go_wp2
 go_ret
 exact ⟨rfl,rfl⟩
section
open Go.RowKit (wrap32 wrap64)
theorem kG (a:Int) (w:World) :
  χ 102 #[ι a] w fun e w'=>e=.returned (ι (wrap32 a))/\w'=w:=by
 go_enter func102,ntmps102
 go_wp2
 go_ret
 exact ⟨wI (JY a),rfl⟩
end
end Go.Proofs.YtgiiapenmjollaaGreat
