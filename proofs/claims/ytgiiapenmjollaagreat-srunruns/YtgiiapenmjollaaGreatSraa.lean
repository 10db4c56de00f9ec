import Derived.WalkKit
import Derived.RowKit3
import Derived.Deep.Slices
import Derived.Below
import Derived.Test.YtgiiapenmjollaaGreatChecked
import Derived.Handy
import Derived.WalkLawsBesides
import Derived.OwnWalk
import Derived.Laws.OwnMore
import Derived.Deep.Draws
import Derived.Deep.AppendLies
import Derived.Maps.OwnSet
import Derived.DeepKeys4
import Derived.RangeFuncNested
import Derived.RangeFuncBound
import Derived.RangeFuncCalls
import Derived.RangeFuncLeaves
import Derived.RangeFuncFrom
import Derived.Shelf.Abstract
import Derived.Shelf.RegionOpen
import Derived.OwnWalkIn
import Derived.TacticsInMore
import Derived.LoopNIn
import Derived.LoopIn
import Derived.BigQuiet
import Derived.Deep.RegionHeld3
namespace Go.Proofs.YtgiiapenmjollaaGreat
set_option linter.all false
set_option maxHeartbeats 40000000
set_option maxRecDepth 100000
open Go.RowKit
open Go.Value (int)
open Go.IntKind (i64)
structure Ty where
 kind:Int
 cls:Int
structure Cl where
 super:Int
 fields:List Ty
structure In where
 op:Int
 a:Int
 b:Int
 c:Int
 n:Int
 args:List Int
structure Hd where
 fr:Int
 til:Int
 pc:Int
 cls:Int
structure Me where
 params:List Ty
 ret:Ty
 stack:Int
 locs:Int
 regs:Int
 code:List In
 hands:List Hd
structure Fi where
 classes:List Cl
 methods:List Me
def cN:Ty:=⟨0,0⟩
def cg:Cl:=⟨0,[]⟩
def fW:In:=⟨0,0,0,0,0,[]⟩
def eD:Hd:=⟨0,0,0,0⟩
def bO:Me:=⟨[],cN,0,0,0,[],[]⟩
def nth {α:Type} (d:α) (l:List α) (i:Nat):α:=l.getD i d
theorem bJ {α:Type} {d:α} {l:List α} {i:Nat} (h:i<l.length):nth d l i∈l:=by simp [nth,List.getD,h]
theorem bU {α:Type} {d:α} {l:List α} {i:Nat} (h:i<l.length):nth d l i=l[i]:=by simp [nth,List.getD,h]
def cP (n:Int):Prop:=-9223372036854775808<=n/\n<=9223372036854775807
def dp (w:World) (A:Option Addr) (l:List Ty):Prop :=
 l.length<=maxLen/\(l.length=0∨∃b off,A=some ⟨b,off,none⟩/\∀i,i<l.length ->
  w.cell? ⟨b,off+i*2,none⟩=some (int i64 (nth cN l i).kind)/\w.cell? ⟨b,off+i*2+1,none⟩=some (int i64 (nth cN l i).cls)
  /\ cP (nth cN l i).kind/\cP (nth cN l i).cls)
def ct (w:World) (A:Option Addr) (l:List Cl):Prop :=
 l.length<=maxLen/\(l.length=0∨∃b off,A=some ⟨b,off,none⟩/\∀i,i<l.length ->
  w.cell? ⟨b,off+i*2,none⟩=some (int i64 (nth cg l i).super)/\cP (nth cg l i).super /\
  ∃A' c,w.cell? ⟨b,off+i*2+1,none⟩=some (.slice A' (nth cg l i).fields.length c)/\dp w A' (nth cg l i).fields)
def cL (w:World) (A:Option Addr) (l:List Int):Prop :=
 l.length<=maxLen/\(l.length=0∨∃b off,A=some ⟨b,off,none⟩/\∀i,i<l.length->w.cell? ⟨b,off+i,none⟩=some (int i64 (nth (0:Int) l i))/\cP (nth (0:Int) l i))
def In.ok (x:In):Prop:=cP x.op/\cP x.a/\cP x.b/\cP x.c/\cP x.n
def oK (w:World) (A:Option Addr) (l:List In):Prop :=
 l.length<=maxLen/\(l.length=0∨∃b off,A=some ⟨b,off,none⟩/\∀i,i<l.length ->
  w.cell? ⟨b,off+i*6,none⟩=some (int i64 (nth fW l i).op)/\w.cell? ⟨b,off+i*6+1,none⟩=some (int i64 (nth fW l i).a)/\w.cell? ⟨b,off+i*6+2,none⟩=some (int i64 (nth fW l i).b)
  /\ w.cell? ⟨b,off+i*6+3,none⟩=some (int i64 (nth fW l i).c)/\w.cell? ⟨b,off+i*6+4,none⟩=some (int i64 (nth fW l i).n)/\(nth fW l i).ok
  /\ ∃A' c,w.cell? ⟨b,off+i*6+5,none⟩=some (.slice A' (nth fW l i).args.length c)/\cL w A' (nth fW l i).args)
def Hd.ok (x:Hd):Prop:=cP x.fr/\cP x.til/\cP x.pc/\cP x.cls
def kQ (w:World) (A:Option Addr) (l:List Hd):Prop :=
 l.length<=maxLen/\(l.length=0∨∃b off,A=some ⟨b,off,none⟩/\∀i,i<l.length ->
  w.cell? ⟨b,off+i*4,none⟩=some (int i64 (nth eD l i).fr)/\w.cell? ⟨b,off+i*4+1,none⟩=some (int i64 (nth eD l i).til)/\w.cell? ⟨b,off+i*4+2,none⟩=some (int i64 (nth eD l i).pc)
  /\ w.cell? ⟨b,off+i*4+3,none⟩=some (int i64 (nth eD l i).cls)/\(nth eD l i).ok)
def Me.ok (x:Me):Prop:=cP x.ret.kind/\cP x.ret.cls/\cP x.stack/\cP x.locs/\cP x.regs
def kZ (w:World) (m:Me) (P C K:Option Addr):Prop:=dp w P m.params/\oK w C m.code/\kQ w K m.hands/\m.ok
def eE (w:World) (A:Option Addr) (l:List Me):Prop :=
 l.length<=maxLen/\(l.length=0∨∃b off,A=some ⟨b,off,none⟩/\∀i,i<l.length->∃P C K p c k,
  w.cell? ⟨b,off+i*8,none⟩=some (.slice P (nth bO l i).params.length p)/\w.cell? ⟨b,off+i*8+1,none⟩=some (int i64 (nth bO l i).ret.kind)/\w.cell? ⟨b,off+i*8+2,none⟩=some (int i64 (nth bO l i).ret.cls)
  /\ w.cell? ⟨b,off+i*8+3,none⟩=some (int i64 (nth bO l i).stack)/\w.cell? ⟨b,off+i*8+4,none⟩=some (int i64 (nth bO l i).locs)/\w.cell? ⟨b,off+i*8+5,none⟩=some (int i64 (nth bO l i).regs)
  /\ w.cell? ⟨b,off+i*8+6,none⟩=some (.slice C (nth bO l i).code.length c)/\w.cell? ⟨b,off+i*8+7,none⟩=some (.slice K (nth bO l i).hands.length k)/\kZ w (nth bO l i) P C K)
def Bl (w w':World):Prop:=Below w.heap.size w w'
theorem Bl.refl (w:World):Bl w w:=Below.refl _ _
section
variable {a:World}
theorem Bl.trans {b c:World} (h:Bl a b) (k:Bl b c):Bl a c:=Below.trans h (Below.mono k h.size)
theorem Bl.alloc {w:World} (h:Bl a w) (o:Obj):Bl a (w.alloc o):=Below.alloc h h.size o
theorem Bl.drew {w:World} (h:Bl a w):Bl a w.drew:=Below.drew h
theorem Bl.setCell {w:World} (h:Bl a w) {p:Addr} (hp:a.heap.size<=p.block) (u:Value):Bl a (w.setCell p u):=Below.setCell h hp u
theorem Bl.size {w:World} (h:Bl a w):a.heap.size<=w.heap.size:=Below.size h
end
theorem bC {w:World} {b o:Nat} {v:Value} (hc:w.cell? ⟨b,o,none⟩=some v):b<w.heap.size:=by
 by_cases hb:b<w.heap.size
 ·exact hb
 ·simp [World.cell?,hb] at hc
theorem ak {w:World} {cs:Array Value} {t:TypeId} {o:Nat} {v:Value} (h:cs[o]?=some v):(w.alloc (.cells cs t)).cell? ⟨w.heap.size,o,none⟩=some v:=by
 have e:(w.alloc (.cells cs t)).heap[w.heap.size]?=some (.cells cs t):=by
  show (w.heap.push _)[w.heap.size]?=_
  simp
 unfold World.cell?
 rw [e]
 simpa using h
section
variable {W w':World}
theorem Bl.cell (h:Bl W w') {b o:Nat} {v:Value} (hc:W.cell? ⟨b,o,none⟩=some v):w'.cell? ⟨b,o,none⟩=some v :=
 (Below.cell h (p:=⟨b,o,none⟩) (bC hc)).trans hc
theorem cL.bl (h:Bl W w') {A:Option Addr} {l:List Int} (hl:cL W A l):cL w' A l:=by
 refine ⟨hl.1,?_⟩
 rcases hl.2 with h0|⟨b,off,rfl,hi⟩
 ·exact Or.inl h0
 right
 exact ⟨b,off,rfl,fun i hlt=>⟨h.cell (hi i hlt).1,(hi i hlt).2⟩⟩
theorem oK.bl (h:Bl W w') {A:Option Addr} {l:List In} (hl:oK W A l):oK w' A l:=by
 refine ⟨hl.1,?_⟩
 rcases hl.2 with h0|⟨b,off,rfl,hi⟩
 ·exact Or.inl h0
 right
 refine ⟨b,off,rfl,fun i hlt=>?_⟩
 obtain ⟨h0,h1,h2,h3,h4,h5,A',c,h6,h7⟩:=hi i hlt
 exact ⟨h.cell h0,h.cell h1,h.cell h2,h.cell h3,h.cell h4,h5,A',c,h.cell h6,h7.bl h⟩
theorem kQ.bl (h:Bl W w') {A:Option Addr} {l:List Hd} (hl:kQ W A l):kQ w' A l:=by
 refine ⟨hl.1,?_⟩
 rcases hl.2 with h0|⟨b,off,rfl,hi⟩
 ·exact Or.inl h0
 right
 refine ⟨b,off,rfl,fun i hlt=>?_⟩
 obtain ⟨h0,h1,h2,h3,h4⟩:=hi i hlt
 exact ⟨h.cell h0,h.cell h1,h.cell h2,h.cell h3,h4⟩
theorem dp.bl (h:Bl W w') {A:Option Addr} {l:List Ty} (hl:dp W A l):dp w' A l:=by
 refine ⟨hl.1,?_⟩
 rcases hl.2 with h0|⟨b,off,rfl,hi⟩
 ·exact Or.inl h0
 right
 exact ⟨b,off,rfl,fun i hlt=>⟨h.cell (hi i hlt).1,h.cell (hi i hlt).2.1,(hi i hlt).2.2⟩⟩
theorem ct.bl (h:Bl W w') {A:Option Addr} {l:List Cl} (hl:ct W A l):ct w' A l:=by
 refine ⟨hl.1,?_⟩
 rcases hl.2 with h0|⟨b,off,rfl,hi⟩
 ·exact Or.inl h0
 right
 refine ⟨b,off,rfl,fun i hlt=>⟨h.cell (hi i hlt).1,(hi i hlt).2.1,?_⟩⟩
 obtain ⟨A',c,h1,h2⟩:=(hi i hlt).2.2
 exact ⟨A',c,h.cell h1,h2.bl h⟩
theorem kZ.bl (h:Bl W w') {m:Me} {P C K:Option Addr} (hl:kZ W m P C K):kZ w' m P C K :=
 ⟨hl.1.bl h,hl.2.1.bl h,hl.2.2.1.bl h,hl.2.2.2⟩
theorem eE.bl (h:Bl W w') {A:Option Addr} {l:List Me} (hl:eE W A l):eE w' A l:=by
 refine ⟨hl.1,?_⟩
 rcases hl.2 with h0|⟨b,off,rfl,hi⟩
 ·exact Or.inl h0
 right
 refine ⟨b,off,rfl,fun i hlt=>?_⟩
 obtain ⟨P,C,K,p,c,k,h0,h1,h2,h3,h4,h5,h6,h7,h8⟩:=hi i hlt
 exact ⟨P,C,K,p,c,k,h.cell h0,h.cell h1,h.cell h2,h.cell h3,h.cell h4,h.cell h5,h.cell h6,h.cell h7,h8.bl h⟩
end
def fu (n:Nat) (t:Ty):Bool:=decide ((t.kind=3/\0<=t.cls/\t.cls<n)∨((t.kind=1∨t.kind=2)/\t.cls=0))
def rH (l:List Cl) (i:Nat):Bool :=
 decide ((i=0∨(0<=(nth cg l i).super/\(nth cg l i).super<i))/\(nth cg l i).fields.length<=6)&&(nth cg l i).fields.all (fu l.length)
def eQ (l:List Cl):Bool:=decide (4<=l.length/\l.length<=12/\(nth cg l 0).super=-1)&&(List.range l.length).all (rH l)
theorem nd {l:List Cl} (h:l.length<4∨12<l.length∨(nth cg l 0).super≠-1):eQ l=false:=by
 have:¬(4<=l.length/\l.length<=12/\(nth cg l 0).super=-1):=by omega
 unfold eQ;rw [decide_eq_false this];rfl
section
variable {l:List Cl} {i:Nat}
theorem sU (hi:i<l.length) (h:rH l i=false):eQ l=false:=by
 have:(List.range l.length).all (rH l)=false:=by
  rw [List.all_eq_false];exact ⟨i,by simpa using hi,by simp [h]⟩
 simp [eQ,this]
theorem x8 (h:¬((i=0∨(0<=(nth cg l i).super/\(nth cg l i).super<i))/\(nth cg l i).fields.length<=6)):rH l i=false:=by
 unfold rH;rw [decide_eq_false h];rfl
theorem N0 {k:Nat} (hk:k<(nth cg l i).fields.length) (h:fu l.length (nth cN (nth cg l i).fields k)=false):rH l i=false:=by
 have:(nth cg l i).fields.all (fu l.length)=false:=by
  rw [List.all_eq_false]
  exact ⟨nth cN (nth cg l i).fields k,bJ hk,by rw [h];decide⟩
 unfold rH;rw [this,Bool.and_false]
theorem He (h:(i=0∨(0<=(nth cg l i).super/\(nth cg l i).super<i))/\(nth cg l i).fields.length<=6) (ht:∀k,k<(nth cg l i).fields.length->fu l.length (nth cN (nth cg l i).fields k)=true):rH l i=true:=by
 have:(nth cg l i).fields.all (fu l.length)=true:=by
  generalize (nth cg l i).fields=f at ht
  rw [List.all_eq_true]
  intro x hx
  obtain ⟨k,hk,rfl⟩:=List.getElem_of_mem hx
  rw [<-bU hk];exact ht k hk
 unfold rH;rw [this,decide_eq_true h];rfl
end
theorem vJ {l:List Cl} (h:4<=l.length/\l.length<=12/\(nth cg l 0).super=-1) (hc:∀i,i<l.length->rH l i=true):eQ l=true:=by
 have:(List.range l.length).all (rH l)=true:=by
  rw [List.all_eq_true];intro i hi;exact hc i (by simpa using hi)
 unfold eQ;rw [this,decide_eq_true h];rfl
def bZ:List Ty->Nat
 | []=>0
 | t::l=>(if t.kind=2 then 2 else 1)+bZ l
def mX (nc n:Nat) (h:Hd):Bool:=decide (0<=h.fr/\h.fr<h.til/\h.til<=n/\0<=h.pc/\h.pc<n/\0<=h.cls/\h.cls<nc)
def ng (nc:Nat) (t:Ty):Bool:=decide (t.kind=0/\t.cls=0)||fu nc t
def ew (nc:Nat) (m:Me) (most:Int):Bool :=
 decide (m.params.length<=4/\m.hands.length<=8/\1<=m.code.length/\(m.code.length:Int)<=most)&&m.params.all (fu nc)&&m.hands.all (mX nc m.code.length)&&ng nc m.ret
def bE (cs:List Cl) (nm iK:Nat) (locs:Int) (i:In):Bool :=
 decide (i.c=0/\i.args.length=0) &&
 (if i.op=1 then decide (i.a=0/\i.b=0/\-2147483648<=i.n/\i.n<=2147483647)
 else if i.op=2 then decide (i.a=0/\i.b=0)
 else decide (i.n=0) &&
  (if i.op=4∨i.op=5 then decide ((i.b=2/\0<=i.a/\i.a<=locs-2)∨((i.b=1∨i.b=3)/\0<=i.a/\i.a<locs))
  else if i.op=12 then decide (0<=i.a/\i.a<iK/\1<=i.b/\i.b<=4)
  else if i.op=15∨i.op=16 then decide (0<=i.a/\i.a<cs.length/\0<=i.b/\i.b<(nth cg cs i.a.toNat).fields.length)
  else decide (i.b=0) &&
   (if i.op=3∨i.op=8∨i.op=9∨i.op=10∨i.op=20∨i.op=21∨i.op=22∨i.op=23∨i.op=25 then decide (i.a=0)
   else if i.op=6∨i.op=7 then decide (1<=i.a/\i.a<=8)
   else if i.op=11∨i.op=13 then decide (0<=i.a/\i.a<iK)
   else if i.op=14∨i.op=17∨i.op=18 then decide (0<=i.a/\i.a<cs.length)
   else if i.op=19 then decide (0<=i.a/\i.a<nm)
   else if i.op=24 then decide (1<=i.a/\i.a<=2)
   else false)))
def fw (cs:List Cl) (nm:Nat) (m:Me):Bool :=
 ew cs.length m 400&&decide (m.regs=0/\0<=m.stack/\m.stack<=30/\(bZ m.params:Int)<=m.locs/\m.locs<=60)&&m.code.all (bE cs nm m.code.length m.locs)
def bW (f:Fi):Bool:=eQ f.classes&&decide (1<=f.methods.length/\f.methods.length<=8)&&f.methods.all (fw f.classes f.methods.length)
theorem lS {α:Type} {d:α} {p:α->Bool} {l:List α} {k:Nat} (hk:k<l.length) (h:p (nth d l k)=false):l.all p=false:=by
 rw [List.all_eq_false]
 exact ⟨nth d l k,bJ hk,by rw [h];decide⟩
theorem jY {α:Type} {d:α} {p:α->Bool} {l:List α} (h:∀k,k<l.length->p (nth d l k)=true):l.all p=true:=by
 rw [List.all_eq_true]
 intro x hx
 obtain ⟨k,hk,rfl⟩:=List.getElem_of_mem hx
 rw [<-bU (d:=d) hk];exact h k hk
theorem rY (l:List Ty):bZ l<=2*l.length:=by
 induction l with
 | nil=>simp [bZ]
 | cons t l ih=>simp only [bZ,List.length_cons];split<;>omega
theorem oL (l:List Ty) (k:Nat) (h:k<l.length):bZ (l.take (k+1))=bZ (l.take k)+(if (nth cN l k).kind=2 then 2 else 1):=by
 induction l generalizing k with
 | nil=>simp at h
 | cons t l ih =>
  cases k with
  | zero=>simp [bZ,nth]
  | succ k =>
   have:=ih k (by simpa using h)
   have e:nth cN (t::l) (k+1)=nth cN l k:=by simp [nth]
   rw [e,List.take_succ_cons,List.take_succ_cons,bZ,bZ,this];omega
section
def par (l:List Cl) (c:Nat):Nat:=(nth cg l c).super.toNat
def upsF (l:List Cl):Nat->Nat->List Nat
 | 0,_=>[]
 | k+1,c=>c::if c=0 then [] else upsF l k (par l c)
def ups (l:List Cl) (c:Nat):List Nat:=upsF l (c+1) c
structure Tree (l:List Cl):Prop where
 zero:(nth cg l 0).super=-1
 up:∀c,0<c->c<l.length->0<=(nth cg l c).super/\(nth cg l c).super<c
theorem pL {l:List Cl} (h:eQ l=true):Tree l/\4<=l.length/\l.length<=12:=by
 unfold eQ at h
 rw [Bool.and_eq_true,decide_eq_true_eq,List.all_eq_true] at h
 refine ⟨⟨h.1.2.2,fun c h0 hc=>?_⟩,h.1.1,h.1.2.1⟩
 have:=h.2 c (by simpa using hc)
 unfold rH at this
 rw [Bool.and_eq_true,decide_eq_true_eq] at this
 rcases this.1.1 with h1|h1
 ·omega
 ·exact h1
section
variable {l:List Cl}
theorem pM (ht:Tree l) {c:Nat} (h0:0<c) (hc:c<l.length):par l c<c:=by
 have:=ht.up c h0 hc
 unfold par;omega
theorem rZ (ht:Tree l) {c:Nat} (h0:0<c) (hc:c<l.length):(nth cg l c).super=(par l c:Nat):=by
 have:=ht.up c h0 hc
 unfold par;omega
theorem upsF_more (ht:Tree l) (c:Nat):∀k,c<l.length->c<k->upsF l k c=upsF l (c+1) c:=by
 induction c using Nat.strongRecOn with
 | _ c ih =>
  intro k hc hk
  obtain ⟨k,rfl⟩:∃k',k=k'+1:=⟨k-1,by omega⟩
  unfold upsF
  by_cases h0:c=0
  ·rw [if_pos h0,if_pos h0]
  ·rw [if_neg h0,if_neg h0]
   have hp:=pM ht (by omega) hc
   rw [ih _ hp k (by omega) (by omega),ih _ hp c (by omega) (by omega)]
theorem ups_zero:ups l 0=[0]:=rfl
theorem ups_step (ht:Tree l) {c:Nat} (h0:0<c) (hc:c<l.length):ups l c=c::ups l (par l c):=by
 have hp:=pM ht h0 hc
 show upsF l (c+1) c=_
 rw [upsF,if_neg (by omega),upsF_more ht _ _ (by omega) hp]
 rfl
theorem ups_head (c:Nat):c∈ups l c:=by unfold ups upsF;simp
theorem ups_le (ht:Tree l) (c:Nat) (hc:c<l.length):∀x,x∈ups l c->x<=c:=by
 induction c using Nat.strongRecOn with
 | _ c ih =>
  intro x hx
  by_cases h0:c=0
  ·subst h0;rw [ups_zero] at hx;simp at hx;omega
  ·rw [ups_step ht (by omega) hc] at hx
   have hp:=pM ht (by omega) hc
   rcases List.mem_cons.1 hx with rfl|hx
   ·exact Nat.le_refl _
   ·have:=ih _ hp (by omega) x hx;omega
def n8 (l:List Cl) (c d j:Nat):Prop:=j∈ups l c/\j∈ups l d/\∀x,x∈ups l c->x∈ups l d->x<=j
theorem n8.one {c d i j:Nat} (h:n8 l c d i) (k:n8 l c d j):i=j :=
 Nat.le_antisymm (k.2.2 _ h.1 h.2.1) (h.2.2 _ k.1 k.2.1)
theorem n8.symm {c d i:Nat} (h:n8 l c d i):n8 l d c i:=⟨h.2.1,h.1,fun x a b=>h.2.2 x b a⟩
theorem most {j:Nat}:∀(L:List Nat) (a:Nat),a<=j->(∀x∈L,x<=j)->(j=a∨j∈L)->L.foldl max a=j
 | [],a,_,_,h=>by
  rcases h with h|h
  ·exact h.symm
  ·cases h
 | x::L,a,ha,hL,h=>by
  have hx:=hL x (by simp)
  refine most L (max a x) (by omega) (fun y hy=>hL y (List.mem_cons_of_mem _ hy)) ?_
  rcases h with h|h
  ·left;omega
  ·rcases List.mem_cons.1 h with h|h
   ·left;omega
   ·exact Or.inr h
def fK (l:List Cl) (c d:Nat):Bool:=decide (d∈ups l c)
theorem zx {c d:Nat}:fK l c d=true↔d∈ups l c:=by unfold fK;simp
theorem Dr (c:Nat):fK l c c=true:=zx.2 (ups_head c)
theorem Ds (ht:Tree l) {c d:Nat} (hc:c<l.length) (hd:d<c):fK l c d=fK l (par l c) d:=by
 unfold fK
 rw [ups_step ht (by omega) hc]
 have:d≠c:=by omega
 simp [this]
theorem Hf (ht:Tree l) {c d:Nat} (hc:c<l.length) (hd:c<d):fK l c d=false:=by
 unfold fK
 rw [decide_eq_false_iff_not]
 intro h;have:=ups_le ht _ hc _ h;omega
def kU (l:List Cl) (c d:Int):Bool:=decide (0<=c/\c<l.length/\0<=d/\d<l.length)
def Dt (l:List Cl) (c d:Int):Bool:=eQ l&&kU l c d&&fK l c.toNat d.toNat
end
end
section
open Go.RowKit (wrap32 wrap64)
theorem vK {k:IntKind} {a b:Int} (h:a=b):Ending.returned (.int k a)=.returned (.int k b):=by rw [h]
theorem x9 (a:Int):-2147483648<=wrap32 a/\wrap32 a<=2147483647:=by unfold wrap32;omega
theorem LG (a:Int):-9223372036854775808<=wrap64 a/\wrap64 a<=9223372036854775807:=by unfold wrap64;omega
theorem Hg (a:Int):wrap64 (wrap32 a)=wrap32 a:=by unfold wrap64 wrap32;omega
theorem LH {a:Int} (h:-9223372036854775808<=a) (h':a<=9223372036854775807):wrap64 a=a:=by unfold wrap64;omega
theorem zy (a b:Int):wrap64 (wrap64 a+wrap64 b)=wrap64 (a+b):=by unfold wrap64;omega
theorem AP {a b:Int} (k:Int) (h:a=b+18446744073709551616*k):wrap64 a=wrap64 b:=by unfold wrap64;omega
section
variable (a:Int)
theorem Hh (b:Int):wrap64 (wrap64 a*b)=wrap64 (a*b):=by
 have h:wrap64 a=a+18446744073709551616*(-((a+9223372036854775808)/18446744073709551616)):=by unfold wrap64;omega
 rw [h,Int.add_mul,Int.mul_assoc]
 exact AP _ rfl
theorem jS (b:Int):a.tdiv b*b+a.tmod b=a:=Int.tdiv_mul_add_tmod a b
theorem ru (b:Int):a.tmod b=0∨(a.tmod b<0↔a<0):=by
 rcases Int.lt_trichotomy a 0 with h|h|h
 ·have h1:0<=(-a).tmod b:=Int.tmod_nonneg _ (by omega)
  rw [Int.neg_tmod] at h1
  omega
 ·subst h;left;simp
 ·have:0<=a.tmod b:=Int.tmod_nonneg _ (by omega)
  omega
theorem Hi (b:Int) (h:-9223372036854775808<=a) (h':a<=9223372036854775807):-9223372036854775808<=a.tmod b/\a.tmod b<=9223372036854775807:=by
 have h1:=Int.natAbs_tmod a b
 have h2:(a.tmod b).natAbs<=a.natAbs:=by rw [h1];exact Nat.mod_le _ _
 have:=ru a b
 omega
theorem ya :
  (a.tmod 4294967296<0->a.tmod 4294967296+4294967296≥2147483648->wrap32 a=a.tmod 4294967296+4294967296-4294967296)
  /\ (a.tmod 4294967296<0->a.tmod 4294967296+4294967296<2147483648->wrap32 a=a.tmod 4294967296+4294967296)
  /\ (0<=a.tmod 4294967296->a.tmod 4294967296≥2147483648->wrap32 a=a.tmod 4294967296-4294967296)
  /\ (0<=a.tmod 4294967296->a.tmod 4294967296<2147483648->wrap32 a=a.tmod 4294967296):=by
 have h1:=jS a 4294967296
 have h2:a.tmod 4294967296<4294967296:=Int.tmod_lt_of_pos _ (by omega)
 have h3:-4294967296<a.tmod 4294967296:=by
  have:=Int.lt_tmod_of_pos a (b:=4294967296) (by omega);omega
 unfold wrap32
 refine ⟨?_,?_,?_,?_⟩<;>intros<;>omega
theorem AQ:-4294967295<=a.tmod 4294967296/\a.tmod 4294967296<=4294967295:=by
 have h2:a.tmod 4294967296<4294967296:=Int.tmod_lt_of_pos _ (by omega)
 have h3:-4294967296<a.tmod 4294967296:=by
  have:=Int.lt_tmod_of_pos a (b:=4294967296) (by omega);omega
 omega
end
def fy (n:Int) (k:Nat):Bool:=decide (n/2 ^ k%2=1)
theorem KB (n:Int):(0<=n.tmod 2->n.tmod 2=n%2)/\(n.tmod 2<0->n.tmod 2+2=n%2/\n%2=1)/\-1<=n.tmod 2/\n.tmod 2<=1:=by
 have h1:=jS n 2
 have h2:n.tmod 2<2:=Int.tmod_lt_of_pos _ (by omega)
 have h3:-2<n.tmod 2:=by
  have:=Int.lt_tmod_of_pos n (b:=2) (by omega);omega
 omega
theorem AR (n:Int):(n-n%2).tdiv 2=n/2:=by
 have:n-n%2=2*(n/2):=by omega
 rw [this,Int.mul_tdiv_cancel_left _ (by omega)]
theorem sV (a:Int) (k:Nat):a/2 ^ (k+1)=a/2 ^ k/2:=by
 rw [Int.pow_succ,Int.ediv_ediv_of_nonneg (Int.le_of_lt (Int.pow_pos (by omega)))]
def iz (f:Nat->Bool):Nat->Nat
 | 0=>0
 | k+1=>iz f k+if f k then 2 ^ k else 0
theorem pN {f g:Nat->Bool}:∀k,(∀i,i<k->f i=g i)->iz f k=iz g k
 | 0,_=>rfl
 | k+1,h=>by
  have:=pN k (fun i hi=>h i (by omega))
  simp only [iz];rw [this,h k (by omega)]
theorem nh (x:Nat):∀k,iz (fun i=>x.testBit i) k=x%2 ^ k
 | 0=>by simp [iz,Nat.mod_one]
 | k+1=>by
  simp only [iz]
  rw [nh x k,Nat.mod_pow_succ]
  have hb:x.testBit k=decide (x/2 ^ k%2=1):=Nat.testBit_eq_decide_div_mod_eq
  have:x/2 ^ k%2<2:=Nat.mod_lt _ (by omega)
  by_cases h:x/2 ^ k%2=1
  ·simp [hb,h]
  ·have:x/2 ^ k%2=0:=by omega
   simp [hb,this]
theorem AU (i:Nat) (h:i<64):(2:Int) ^ 64=2 ^ i*(2*2 ^ (63-i)):=by
 rw [<-Int.mul_assoc,<-Int.pow_succ,<-Int.pow_add];congr 1;omega
theorem mq (a:Int) (i:Nat) (h:i<64):(BitVec.ofInt 64 a).toNat.testBit i=fy a i:=by
 rw [BitVec.toNat_ofInt,Nat.testBit_eq_decide_div_mod_eq]
 unfold fy
 have hm:(0:Int)<=a%((2 ^ 64:Nat):Int):=Int.emod_nonneg _ (by decide)
 have hc:(((a%((2 ^ 64:Nat):Int)).toNat/2 ^ i%2:Nat):Int)=a/2 ^ i%2:=by
  rw [Int.natCast_emod,Int.natCast_ediv,Int.toNat_of_nonneg hm,Int.natCast_pow]
  have hp:(0:Int)<2 ^ i:=Int.pow_pos (by omega)
  have he:a=a%((2 ^ 64:Nat):Int)+2 ^ i*(2*2 ^ (63-i)*(a/((2 ^ 64:Nat):Int))):=by
   have hs:=AU i h
   have hd:=Int.emod_add_mul_ediv a ((2 ^ 64:Nat):Int)
   rw [<-Int.mul_assoc,<-hs]
   have U6:(((2 ^ 64:Nat):Int))=(2:Int) ^ 64:=by decide
   rw [U6] at hd ⊢
   exact hd.symm
  conv=>rhs;rw [he]
  rw [Int.add_mul_ediv_left _ _ (by omega),Int.mul_assoc]
  simp
 have:((a%((2 ^ 64:Nat):Int)).toNat/2 ^ i%2=1)↔(a/2 ^ i%2=1):=by omega
 exact decide_eq_decide.mpr this
def AV (op:Int) (x y:Bool):Bool:=(decide (op=6)&&(x&&y))||(decide (op=7)&&(x||y))||(decide (op=8)&&(x !=y))
theorem pO (f:Bool->Bool->Bool) (a b:Int) (r:BitVec 64)
  (h:∀i,i<64->r.toNat.testBit i=f ((BitVec.ofInt 64 a).toNat.testBit i) ((BitVec.ofInt 64 b).toNat.testBit i)) :
  IntKind.i64.wrap (r.toNat:Int)=wrap64 (iz (fun i=>f (fy a i) (fy b i)) 64:Nat):=by
 have hs:iz (fun i=>f (fy a i) (fy b i)) 64=r.toNat:=by
  rw [<-Nat.mod_eq_of_lt r.isLt,<-nh]
  refine pN _ fun i hi=>?_
  rw [h i hi,mq _ _ hi,mq _ _ hi]
 rw [hs];exact IntWalk.i64_left _
theorem Dv (a b:Int):bits .and .i64 a b=wrap64 (iz (fun i=>fy a i&&fy b i) 64:Nat) :=
 pO (fun x y=>x&&y) a b _ fun i _=>by
  show (BitVec.ofInt 64 a &&& BitVec.ofInt 64 b).toNat.testBit i=_
  rw [BitVec.toNat_and,Nat.testBit_and]
theorem Hj (a b:Int):bits .or .i64 a b=wrap64 (iz (fun i=>fy a i||fy b i) 64:Nat) :=
 pO (fun x y=>x||y) a b _ fun i _=>by
  show (BitVec.ofInt 64 a ||| BitVec.ofInt 64 b).toNat.testBit i=_
  rw [BitVec.toNat_or,Nat.testBit_or]
theorem Dw (a b:Int):bits .xor .i64 a b=wrap64 (iz (fun i=>fy a i !=fy b i) 64:Nat) :=
 pO (fun x y=>x !=y) a b _ fun i _=>by
  show (BitVec.ofInt 64 a ^^^ BitVec.ofInt 64 b).toNat.testBit i=_
  rw [BitVec.toNat_xor,Nat.testBit_xor]
def dF (op a b:Int):Int :=
 if op=1 then wrap64 (a+b) else if op=2 then wrap64 (a-b) else if op=3 then wrap64 (a*b)
 else if op=4 then (if b=0 then 0 else wrap64 (a.tdiv b)) else if op=5 then (if b=0 then 0 else a.tmod b)
 else if op=6∨op=7∨op=8 then wrap64 (iz (fun i=>AV op (fy a i) (fy b i)) 64:Nat) else 0
def ey (op b:Int):Bool:=decide (1<=op/\op<=8/\¬(b=0/\(op=4∨op=5)))
def mf (a b:Int):Int:=if a<b then -1 else if b<a then 1 else 0
def jB (c a:Int):Bool:=(decide (c=1)&&decide (a=0))||(decide (c=2)&&decide (a<0))||(decide (c=3)&&decide (a≠0))||(decide (c=4)&&decide (0<a))
theorem Hl (a b:Int):dF 6 a b=bits .and .i64 a b:=by rw [Dv];simp [dF,AV]
theorem LI (a b:Int):dF 7 a b=bits .or .i64 a b:=by rw [Hj];simp [dF,AV]
theorem Hm (a b:Int):dF 8 a b=bits .xor .i64 a b:=by rw [Dw];simp [dF,AV]
end
structure Va where
 kind:Int
 n:Int
structure pB where
 cls:Int
 fld:Int
 v:Va
structure Ob where
 cls:Int
 held:List pB
structure Sh where
 fin:Int
 value:Int
 cls:Int
 out:List Int
 used:Int
 steps:Int
structure Hp where
 file:Fi
 objs:List Ob
 input:List Int
 calls:Int
 fuel:Int
 sh:Sh
 over:Bool
 thrown:Int
def ag:Va:=⟨0,0⟩
def cH:pB:=⟨0,0,ag⟩
def cB:Ob:=⟨0,[]⟩
def Hp.fin (h:Hp) (how:Int):Hp:=if h.over=true then h else { h with over:=true,sh:={ h.sh with fin:=how } }
def Hp.stops (h:Hp):Bool:=h.over||decide (0<=h.thrown)
def Hp.must (h:Hp) (b:Bool):Hp:=if b=true then h else h.fin 6
def Hp.mustB (h:Hp) (b:Bool):Bool:=b&&!h.over
def jc (t:Ty):Va:=⟨t.kind,if t.kind=3 then -1 else 0⟩
def iA (cs:List Cl) (c d:Nat):List pB :=
 if fK cs c d=true then (List.range (nth cg cs d).fields.length).map (fun k=>⟨(d:Nat),(k:Nat),jc (nth cN (nth cg cs d).fields k)⟩) else []
def dA (cs:List Cl) (c:Nat):List pB:=(List.range cs.length).flatMap (iA cs c)
def Hp.full (h:Hp):Bool:=decide (100<=h.objs.length)
def Hp.new (h:Hp) (c:Int):Hp:=if h.full=true then h.fin 4 else { h with objs:=h.objs++[⟨c,dA h.file.classes c.toNat⟩] }
def Hp.newV (h:Hp):Va:=if h.full=true then ag else ⟨3,(h.objs.length:Nat)⟩
def Hp.raise (h:Hp) (c:Int):Hp:=if (h.new c).over=true then h.new c else { h.new c with thrown:=h.newV.n }
def gH (cs:List Cl) (x y:Int):Bool:=kU cs x y&&fK cs x.toNat y.toNat
def Hp.obj (h:Hp) (n:Int):Ob:=nth cB h.objs n.toNat
def Hp.of (h:Hp) (v:Va) (t:Ty):Bool :=
 decide (v.kind=t.kind)&&(decide (t.kind≠3)||(decide (v.n<0)||gH h.file.classes (h.obj v.n).cls t.cls))
def isRef (v:Va):Bool:=decide (v.kind=3)
def Hp.throw (h:Hp) (v:Va):Hp :=
 if h.mustB (isRef v)=true then (if v.n<0 then h.raise 1 else { h with thrown:=v.n }) else h.must (isRef v)
def fI (l:List pB) (c k:Int):Int:=match l.findIdx? (fun x=>decide (x.cls=c/\x.fld=k)) with
 | some i=>(i:Nat)
 | none=>-1
def Hp.findH (h:Hp) (r:Va) (c:Int):Hp :=
 if h.mustB (h.of r ⟨3,c⟩)=true then (if r.n<0 then h.raise 1 else h) else h.must (h.of r ⟨3,c⟩)
def Hp.findN (h:Hp) (r:Va) (c k:Int):Int :=
 if h.mustB (h.of r ⟨3,c⟩)=true then (if r.n<0 then -1 else fI (h.obj r.n).held c k) else -1
def Hp.getV (h:Hp) (r:Va) (c k:Int):Va :=
 if h.findN r c k<0 then ag else (nth cH (h.obj r.n).held (h.findN r c k).toNat).v
def Hp.setV (h:Hp) (n:Nat) (j:Nat) (v:Va):Hp :=
 { h with objs:=h.objs.set n { nth cB h.objs n with held:=(nth cB h.objs n).held.set j { nth cH (nth cB h.objs n).held j with v:=v } } }
def dW (cs:List Cl) (c k:Int):Ty:=nth cN (nth cg cs c.toNat).fields k.toNat
def Hp.put (h:Hp) (r:Va) (c k:Int) (v:Va):Hp :=
 if h.mustB (h.of v (dW h.file.classes c k))=true then (if h.findN r c k<0 then h.findH r c else (h.findH r c).setV r.n.toNat (h.findN r c k).toNat v)
 else h.must (h.of v (dW h.file.classes c k))
def Hp.cast (h:Hp) (v:Va) (c:Int):Hp :=
 if h.mustB (isRef v)=true then (if h.of v ⟨3,c⟩=true then h else h.raise 3) else h.must (isRef v)
def Hp.isV (h:Hp) (v:Va) (c:Int):Va :=
 ⟨1,if (h.mustB (isRef v)&&(decide (0<=v.n)&&gH h.file.classes (h.obj v.n).cls c))=true then 1 else 0⟩
def cv (a b:Va) (k:Int):Bool:=decide (a.kind=k)&&decide (b.kind=k)
def Hp.emit (h:Hp) (v:Va) (k:Int):Hp :=
 if h.mustB (decide (v.kind=k))=true then { h with sh:={ h.sh with out:=h.sh.out++[v.n] } } else h.must (decide (v.kind=k))
def Hp.dry (h:Hp):Bool:=decide ((h.input.length:Int)<=h.sh.used)
def Hp.input' (h:Hp):Hp:=if h.dry=true then h.fin 3 else { h with sh:={ h.sh with used:=h.sh.used+1 } }
def Hp.inV (h:Hp):Va:=if h.dry=true then ag else ⟨2,nth (0:Int) h.input h.sh.used.toNat⟩
def Hp.step (h:Hp):Hp:=if h.over=true then h else if h.fuel<=h.sh.steps then h.fin 0 else { h with sh:={ h.sh with steps:=h.sh.steps+1 } }
def Hp.stepB (h:Hp):Bool:=!h.over&&decide (h.sh.steps<h.fuel)
def cF (l:List Va) (a:Nat):List Va :=
 if (nth ag l a).kind=9 then (l.set (a-1) ag).set a ag else if (nth ag l a).kind=2 then (l.set (a+1) ag).set a ag else l.set a ag
def eZ (l:List Va) (a:Nat) (v:Va):List Va :=
 if v.kind=2 then (((cF (cF l a) (a+1)).set (a+1) ⟨9,0⟩).set a v) else (cF l a).set a v
def aQ:List Va->Nat
 | []=>0
 | v::l=>(if v.kind=2 then 2 else 1)+aQ l
theorem dX {h:Hp} {b:Bool} (hm:h.mustB b=true):b=true/\h.over=false/\h.must b=h:=by
 unfold Hp.mustB at hm
 simp at hm
 refine ⟨hm.1,hm.2,?_⟩
 unfold Hp.must;rw [if_pos hm.1]
theorem mF {h:Hp} {r:Va} {c:Int} (ho:h.of r ⟨3,c⟩=true):r.kind=3:=by
 unfold Hp.of at ho
 simp at ho
 exact ho.1
theorem r9 (l:List pB) (c k:Int):fI l c k=-1∨∃q:Nat,q<l.length/\fI l c k=q:=by
 unfold fI
 cases h:l.findIdx? (fun x=>decide (x.cls=c/\x.fld=k)) with
 | none=>exact Or.inl rfl
 | some i =>
  rw [List.findIdx?_eq_some_iff_getElem] at h
  exact Or.inr ⟨i,h.1,rfl⟩
theorem eu {α:Type} {d:α} {l:List α} {n:Nat} {x:α} (h:n<l.length):nth d (l.set n x) n=x:=by simp [nth,List.getD,h]
theorem dY {α:Type} {d:α} {l:List α} {n i:Nat} {x:α} (h:n≠i):nth d (l.set n x) i=nth d l i:=by simp [nth,List.getD,List.getElem?_set_ne h]
theorem fR (l:List Va) (a:Nat):(cF l a).length=l.length:=by unfold cF;split<;>(try split)<;>simp
theorem fS (l:List Va) (a:Nat) (v:Va):(eZ l a v).length=l.length:=by unfold eZ;split<;>simp [fR]
theorem lT {x y:Int} (h:x=y):Ending.returned (int i64 x)=.returned (int i64 y):=by rw [h]
theorem aj {x y:Bool} (h:x=y):Ending.returned (.bool x)=.returned (.bool y):=by rw [h]
theorem iV (A:Option Addr) (n c:Nat) (k x:Int) (w:World) :
  Calls Tryz.prog 49 #[.slice A n c,.agg #[int i64 k,int i64 x]] w fun e w'=>e=.returned (.bool (fu n ⟨k,x⟩))/\Bl w w':=by
 by_cases h3:k=3
 ·subst h3
  go_enter Tryz.func49,Tryz.ntmps49
  go_wp2
  all_goals
   go_ret
   refine ⟨aj ?_,(Bl.refl _).alloc _⟩
   unfold fu
   rw [Bool.eq_iff_iff];simp;omega
 ·go_enter Tryz.func49,Tryz.ntmps49
  go_wp2
  all_goals
   go_ret
   refine ⟨aj ?_,(Bl.refl _).alloc _⟩
   unfold fu
   rw [Bool.eq_iff_iff];simp;omega
theorem pP (A:Option Addr) (c:Nat) (l:List Cl) (w:World) (hl:ct w A l) :
  Calls Tryz.prog 19 #[.slice A l.length c] w fun e w'=>e=.returned (.bool (eQ l))/\Bl w w':=by
 obtain ⟨hm,hl⟩:=hl
 unfold maxLen at hm
 by_cases h4:l.length<4
 ·have hb:=nd (Or.inl h4)
  rw [hb]
  clear hb hl
  go_enter Tryz.func19,Tryz.ntmps19
  go_wp2
  go_ret
  exact ⟨rfl,Bl.refl _⟩
 by_cases pQ:12<l.length
 ·have hb:=nd (Or.inr (Or.inl pQ))
  rw [hb]
  clear hb hl
  go_enter Tryz.func19,Tryz.ntmps19
  go_wp2
  go_ret
  exact ⟨rfl,Bl.refl _⟩
 rcases hl with hl|⟨b,off,rfl,hc⟩
 ·omega
 have hs0:=(hc 0 (by omega)).1
 rw [Nat.zero_mul,Nat.add_zero] at hs0
 by_cases h0:(nth cg l 0).super=-1
 ·rw [h0] at hs0
  have HB:Hid ((∀i,i<l.length->rH l i=true)->eQ l=true):=fun h=>vJ ⟨by omega,by omega,h0⟩ h
  go_enter Tryz.func19,Tryz.ntmps19
  go_wp2
  go_loopw [4] (fun i wr=>∃k:Nat,k<=l.length/\i=int i64 k/\Hid (∀j,j<k->rH l j=true)/\Hid (Bl w wr)) (fun i _=>l.length-(intOf i).toNat)
  case atStart=>exact ⟨0,Nat.zero_le _,rfl,fun j hj=>absurd hj (Nat.not_lt_zero _),Bl.refl _⟩
  case round =>
   obtain ⟨k,hk,rfl,vL,hg⟩:=hrel
   clear hs0 h0
   by_cases hlt:k<l.length
   ·obtain ⟨pR,Hn,A',c',jC,hty⟩:=hc k hlt
    replace pR:=Bl.cell hg.out pR
    replace jC:=Bl.cell hg.out jC
    replace hty:=dp.bl hg.out hty
    have kA:Hid (¬((k=0∨(0<=(nth cg l k).super/\(nth cg l k).super<k))/\(nth cg l k).fields.length<=6)->eQ l=false):=fun h=>sU hlt (x8 h)
    have N1:Hid (∀q,q<(nth cg l k).fields.length->fu l.length (nth cN (nth cg l k).fields q)=false->eQ l=false):=fun q hq h=>sU hlt (N0 hq h)
    have Dx:Hid (((k=0∨(0<=(nth cg l k).super/\(nth cg l k).super<k))/\(nth cg l k).fields.length<=6)->(∀q,q<(nth cg l k).fields.length->fu l.length (nth cN (nth cg l k).fields q)=true)->rH l k=true):=He
    clear hc HB
    obtain ⟨KC,hty⟩:=hty
    unfold maxLen at KC
    generalize hS:(nth cg l k).super=S at *
    generalize hF:(nth cg l k).fields=F at *
    clear hS hF
    go_wp2
    all_goals first
     | (go_ret;exact ⟨aj (kA.out (by omega)).symm,hg.out⟩)
     | skip
    all_goals
     have HK:Hid ((∀q,q<F.length->fu l.length (nth cN F q)=true)->rH l k=true):=Dx.out (by omega)
     go_loopw [5] (fun i wr=>∃q:Nat,q<=F.length/\i=int i64 q/\Hid (∀j,j<q->fu l.length (nth cN F j)=true)/\Hid (Bl w wr)/\wr.cell? ⟨b,off+k*2+1,none⟩=some (.slice A' F.length c')/\Hid (dp wr A' F)) (fun i _=>F.length-(intOf i).toNat)
     case atStart=>exact ⟨0,Nat.zero_le _,rfl,fun j hj=>absurd hj (Nat.not_lt_zero _),hg,jC,⟨KC,hty⟩⟩
     case round =>
      clear pR jC hty hg
      obtain ⟨q,hq,rfl,mG,hg,jC,hty⟩:=hrel
      by_cases eR:q<F.length
      ·rcases hty.out.2 with h0|⟨b',gj,rfl,hcell⟩
       ·omega
       obtain ⟨KE,N2,-,-⟩:=hcell q eR
       clear hcell
       cases hT:fu l.length (nth cN F q)
       ·have LJ:fu l.length ⟨(nth cN F q).kind,(nth cN F q).cls⟩=false:=hT
        have HF:=N1.out q eR hT
        clear N1 hT
        go_wp2_with (go_at_call 49;refine (iV _ _ _ _ _ _).mono ?_;rintro e w1 ⟨rfl,iL⟩)
        go_ret
        exact ⟨aj HF.symm,Bl.trans hg.out iL⟩
       ·have LJ:fu l.length ⟨(nth cN F q).kind,(nth cN F q).cls⟩=true:=hT
        have HT:Hid (fu l.length (nth cN F q)=true):=hT
        clear hT
        go_wp2_with (go_at_call 49;refine (iV _ _ _ _ _ _).mono ?_;rintro e w1 ⟨rfl,iL⟩)
        go_roundw
        case rel=>exact ⟨q+1,by omega,by go_num,fun j hj=>if h:j<q then mG.out j h else by have:j=q:=(by omega);subst this;exact HT.out,Bl.trans hg.out iL,Bl.cell iL jC,dp.bl iL hty.out⟩
        case measure=>simp [intOf];omega
      ·have hkk:q=F.length:=by omega
       subst hkk
       have U7:Hid (rH l k=true):=HK.out mG.out
       go_wp2
       go_roundw
       case rel=>exact ⟨k+1,by omega,by go_num,fun j hj=>if h:j<k then vL.out j h else by have:j=k:=(by omega);subst this;exact U7.out,hg⟩
       case measure=>simp [intOf];omega
   ·have hkk:k=l.length:=by omega
    subst hkk
    have Dy:=HB.out vL.out
    clear HB hc
    go_wp2
    go_ret
    exact ⟨aj Dy.symm,hg.out⟩
 ·have hb:=nd (Or.inr (Or.inr h0))
  rw [hb]
  clear hb hc
  have QQ:((nth cg l 0).super !=-1)=true:=by simpa using h0
  go_enter Tryz.func19,Tryz.ntmps19
  go_wp2
  go_ret
  exact ⟨rfl,Bl.refl _⟩
abbrev aV (how k n:Int):Ending:=.panicked [{ v:=.iface 102 (.agg #[int i64 how,int i64 k,int i64 n]),recovered:=false }]
abbrev cn (v:Va):Value:=.agg #[int i64 v.kind,int i64 v.n]
theorem bK:(Tryz.prog.info? 100).map (·.size)=some 2:=by kernel_rfl
theorem QR {w:World} {b:Nat} {cs:Array Value} {t:TypeId} (hb:b=w.heap.size):(w.alloc (.cells cs t)).heap[b]?=some (.cells cs t (0,0)):=by
 subst hb
 show (w.heap.push _)[w.heap.size]?=_
 simp
theorem ku (how:Int) (w:World):Calls Tryz.prog 99 #[int i64 how] w fun e w'=>e=aV how 0 0/\w'=w:=by
 go_enter Tryz.func99,Tryz.ntmps99
 go_wp2
 exact ⟨rfl,rfl,rfl⟩
theorem jd (w:World):Calls Tryz.prog 86 #[] w fun e w'=>e=aV 6 0 0/\w'=w:=by
 go_enter Tryz.func86,Tryz.ntmps86
 go_wp2_with (go_at_call 99;refine (ku 6 _).mono ?_;rintro e w1 ⟨rfl,hw⟩;rw [hw];clear hw w1)
 exact ⟨rfl,rfl,rfl⟩
section
variable (v:Va) (k:Int) (w:World)
theorem eI (h:v.kind=k):Calls Tryz.prog 144 #[cn v,int i64 k] w fun e w'=>e=.returned (cn v)/\Bl w w':=by
 subst h
 go_enter Tryz.func144,Tryz.ntmps144
 go_wp2
 refine bodyPost_ret (results_cell_row rfl _ _ (w.heap.size+1) _ _ _ _ rfl (QR (by simp)) Tryz.underlying100 rfl bK) rfl ?_
 exact ⟨rfl,((Bl.refl w).alloc _).alloc _⟩
theorem lU (h:v.kind≠k):Calls Tryz.prog 144 #[cn v,int i64 k] w fun e w'=>e=aV 6 0 0/\Bl w w':=by
 have hz:(v.kind !=k)=true:=by simpa using h
 go_enter Tryz.func144,Tryz.ntmps144
 go_wp2_with (go_at_call 86;refine (jd _).mono ?_;rintro e w1 ⟨rfl,hw⟩;rw [hw];clear hw w1)
 exact ⟨rfl,rfl,((Bl.refl w).alloc _).alloc _⟩
end
section
variable {w:World} {b:Nat}
theorem af {o:Obj} (h:w.heap[b]?=some o):b<w.heap.size:=by
 by_cases hb:b<w.heap.size
 ·exact hb
 ·simp [hb] at h
theorem ax {i:Nat} {cs:Array Value} {t:TypeId} {f:Nat×Nat} (h:w.heap[b]?=some (.cells cs t f)) (v:Value) :
  (w.setCell ⟨b,i,none⟩ v).heap[b]?=some (.cells (cs.setIfInBounds i v) t f):=by
 simp [World.setCell,Array.getElem?_modify,h]
theorem aA {b' i:Nat} {s:Option _} (hb:b'≠b) (v:Value):(w.setCell ⟨b,i,s⟩ v).heap[b']?=w.heap[b']?:=Below.heap_setCell _ _ _ _ hb
theorem aa {i:Nat} {cs:Array Value} {t:TypeId} {f:Nat×Nat} (h:w.heap[b]?=some (.cells cs t f)):w.cell? ⟨b,i,none⟩=cs[i]?:=by simp [World.cell?,h]
theorem ay {cs:Array Value} {t:TypeId} (h:w.heap[b]?=some (.cells cs t (0,0))) (i:Nat):w.frozen? ⟨b,i,none⟩=false:=by simp [World.frozen?,h]
end
theorem df {w:World} {base:Nat} {e:TypeId} {size n:Nat} {v:Value} {xs:List Value} (ho:w.ownsRow base e size v n xs) {b i:Nat} {cs:Array Value} {t:TypeId} {f:Nat×Nat} (hb:w.heap[b]?=some (.cells cs t f)) (ht:t≠e) (u:Value) :
  (w.setCell ⟨b,i,none⟩ u).ownsRow base e size v n xs:=by
 refine ⟨ho.1,?_⟩
 rcases ho.2 with h0|⟨g,cap,cur,h1,h2,h3,h4⟩
 ·exact Or.inl h0
 ·refine Or.inr ⟨g,cap,cur,h1,h2,?_,h4⟩
  rw [aA]
  ·exact h3
  ·rintro rfl;rw [hb] at h3;simp at h3;exact ht h3.2.1
theorem aD (w:World) (cs:Array Value) (t:TypeId):(w.alloc (.cells cs t)).heap[w.heap.size]?=some (.cells cs t (0,0)):=by
 show (w.heap.push _)[w.heap.size]?=_
 simp
theorem aR {a w:World} (h:Bl a w) (n:Nat):Bl a (w.drewN n):=⟨h.os,h.tape,h.output,h.size,h.block⟩
section
variable {w w':World} {base:Nat} {e:TypeId} {size n:Nat} {v:Value} {xs:List Value}
theorem dg (hg:w.grownBy w' v.ownBlock) (ho:w.ownsRow base e size v n xs) {b:Nat} {cs:Array Value} {t:TypeId} {f:Nat×Nat} (hb:w.heap[b]?=some (.cells cs t f)) (ht:t≠e):w'.heap[b]?=some (.cells cs t f):=by
 rw [hg.block b (af hb)]
 ·exact hb
 ·intro hc
  rcases ho.2 with ⟨rfl,-⟩|⟨gb,cap,cur,rfl,h2,h3,h4⟩
  ·simp [Value.ownBlock] at hc
  ·simp [Value.ownBlock] at hc
   subst hc
   rw [hb] at h3
   simp at h3
   exact ht h3.2.1
theorem jZ (hg:w.grownBy w' v.ownBlock) (ho:w.ownsRow base e size v n xs) {mr:Nat} {e':TypeId} {zz n':Nat} {v':Value} {PY:List Value} (hr:w.ownsRow mr e' zz v' n' PY) (ht:e'≠e):w'.ownsRow mr e' zz v' n' PY:=by
 refine ⟨hr.1,?_⟩
 rcases hr.2 with h0|⟨gb,cap,cur,h1,h2,h3,h4⟩
 ·exact Or.inl h0
 ·exact Or.inr ⟨gb,cap,cur,h1,h2,dg hg ho h3 ht,h4⟩
theorem mH (hg:w.grownBy w' v.ownBlock) (ho:w.ownsRow base e size v n xs) (hb:base<=w.heap.size):Below base w w' :=
 (Below.refl base w).grown hg hb fun k hk=>(ho.lt k hk).1
end
theorem bc {w:World} {base:Nat} {e:TypeId} {size n:Nat} {v:Value} {xs:List Value} (ho:w.ownsRow base e size v n xs) {b:Nat} {cs:Array Value} {t:TypeId} {f:Nat×Nat} (hb:w.heap[b]?=some (.cells cs t f)) (ht:t≠e):v.ownBlock≠some b:=by
 intro hc
 rcases ho.2 with ⟨rfl,-⟩|⟨gb,cap,cur,rfl,h2,h3,h4⟩
 ·simp [Value.ownBlock] at hc
 ·simp [Value.ownBlock] at hc
  subst hc
  rw [hb] at h3
  simp at h3
  exact ht h3.2.1
def aL:List Va->List Value
 | []=>[]
 | v::l=>int i64 v.kind::int i64 v.n::aL l
theorem eF (l:List Va):(aL l).length=l.length*2:=by
 induction l with
 | nil=>rfl
 | cons x l ih=>simp [aL,ih];omega
theorem fL:∀(l:List Va) (i:Nat),i<l.length->(aL l)[i*2]?=some (int i64 (nth ag l i).kind)/\(aL l)[i*2+1]?=some (int i64 (nth ag l i).n)
 | [],i,h=>by simp at h
 | x::l,0,_=>by simp [aL,nth]
 | x::l,i+1,h=>by
  have:=fL l i (by simpa using h)
  have e:(i+1)*2=i*2+1+1:=by omega
  rw [e]
  simpa [aL,nth] using this
theorem k8:∀(l:List Va) (i:Nat) (v:Va),i<l.length->aL (l.set i v)=((aL l).set (i*2) (int i64 v.kind)).set (i*2+1) (int i64 v.n)
 | [],i,v,h=>by simp at h
 | x::l,0,v,_=>by simp [aL]
 | x::l,i+1,v,h=>by
  have:=k8 l i v (by simpa using h)
  have e1:(i+1)*2=i*2+1+1:=by omega
  have e2:(i+1)*2+1=i*2+1+1+1:=by omega
  rw [e2,e1]
  simp [aL,this]
theorem oM:∀(l:List Va) (u:Value),u∈aL l->u.oneCell'=true
 | [],u,h=>by simp [aL] at h
 | x::l,u,h=>by
  simp only [aL,List.mem_cons] at h
  rcases h with rfl|rfl|h
  ·rfl
  ·rfl
  ·exact oM l u h
theorem fe (l k:List Va):aL (l++k)=aL l++aL k:=by
 induction l with
 | nil=>rfl
 | cons x l ih=>simp [aL,ih]
theorem ab {p:Prop} (h:p):Hid p:=h
abbrev jD (t:Ty):Value:=.agg #[int i64 t.kind,int i64 t.cls]
abbrev je (t:Ty):Obj:=.cells #[int i64 t.kind,int i64 t.cls] 45
abbrev dL (v:Va):Obj:=.cells #[int i64 v.kind,int i64 v.n] 100
abbrev eT:Obj:=.cells #[int i64 0,int i64 0] 100
theorem dE (w:World) (a b c:Array Value) (s t u:TypeId):(((w.alloc (.cells a s)).alloc (.cells b t)).alloc (.cells c u)).heap[w.heap.size]?=some (.cells a s (0,0))/\(((w.alloc (.cells a s)).alloc (.cells b t)).alloc (.cells c u)).heap[w.heap.size+1]?=some (.cells b t (0,0))
  /\ (((w.alloc (.cells a s)).alloc (.cells b t)).alloc (.cells c u)).heap[w.heap.size+1+1]?=some (.cells c u (0,0)):=by
 have h1:(w.alloc (.cells a s)).heap.size=w.heap.size+1:=by simp
 have h2:((w.alloc (.cells a s)).alloc (.cells b t)).heap.size=w.heap.size+1+1:=by simp
 refine ⟨?_,?_,?_⟩
 ·rw [Below.heap_alloc _ _ _ (by omega),Below.heap_alloc _ _ _ (by omega)];exact aD _ _ _
 ·rw [Below.heap_alloc _ _ _ (by omega),<-h1];exact aD _ _ _
 ·rw [<-h2];exact aD _ _ _
theorem ai {w w':World} (h:Bl w w') {b:Nat} {o:Obj} (hb:w.heap[b]?=some o):w'.heap[b]?=some o:=(h.block b (af hb)).trans hb
section
variable {w:World} {b:Nat} {k n:Value}
theorem aK {t:TypeId} (q:w.heap[b]?=some (.cells #[k,n] t (0,0))):w.cell? ⟨b,0,none⟩=some k:=by rw [aa q];rfl
theorem aI {t:TypeId} (q:w.heap[b]?=some (.cells #[k,n] t (0,0))):w.cell? ⟨b,1,none⟩=some n:=by rw [aa q];rfl
theorem bQ {k' n':Value} {t:TypeId} (q:w.heap[b]?=some (.cells #[k,n] t (0,0))):((w.setCell ⟨b,0,none⟩ k').setCell ⟨b,1,none⟩ n').heap[b]?=some (.cells #[k',n'] t (0,0)):=by
 rw [ax (ax q _) _];rfl
end
theorem kB {w0 w:World} (h:Bl w0 w) {b:Nat} (hb:w0.heap.size<=b) (k n:Value):Bl w0 ((w.setCell ⟨b,0,none⟩ k).setCell ⟨b,1,none⟩ n):=(h.setCell (p:=⟨b,0,none⟩) hb k).setCell (p:=⟨b,1,none⟩) hb n
theorem Ho {W:World} {cs:Array Value} {t:TypeId} {o:Obj} {n:Nat} (hn:n=W.heap.size):((W.alloc (.cells cs t)).alloc o).heap[n]?=some (.cells cs t (0,0)):=by
 subst hn
 rw [Below.heap_alloc _ _ _ (by simp)]
 exact aD _ _ _
theorem cQ {w:World} (b i:Nat) (v:Value):w.grownBy (w.setCell ⟨b,i,none⟩ v) (some b) :=
 ⟨rfl,rfl,rfl,by simp [World.setCell],fun k hk hb=>aA (fun e=>hb (by rw [e])) v⟩
theorem fT {x y z:World} {row:Option Nat} (h:x.grownBy y row) (k:y.grownBy z row):x.grownBy z row :=
 ⟨k.os.trans h.os,k.tape.trans h.tape,k.output.trans h.output,Nat.le_trans h.size k.size,fun i hi hb=>(k.block i (Nat.lt_of_lt_of_le hi h.size) hb).trans (h.block i hi hb)⟩
section
open Go.Maps (Keyed has)
abbrev jf (o c k:Int):Value:=.agg #[.int .i64 o,.int .i64 c,.int .i64 k]
def ju (o c k:Int):Lit:=.string (keyBytes [.int .i64 o,.int .i64 c,.int .i64 k])
theorem AW:laidOutB Tryz.prog=true:=by kernel_rfl
theorem sa:(265:TypeId)<Tryz.prog.types.size:=of_decide_eq_true (by kernel_rfl)
theorem yb:(match Tryz.prog.underlying 265 with|some (.array _ _)|some (.struct _)=>true|_=>false)=true:=by rw [Tryz.underlying265]
theorem Dz:Tryz.prog.keyTypeAt 2 265=true:=by kernel_rfl
set_option maxRecDepth 1000000 in
theorem j6:Keyed Tryz.prog 265:=Keyed.of_law (deep_law_laid (P:=Tryz.prog) (k:=265) AW (m:=2) (by omega) sa Dz yb)
theorem yd:Tryz.prog.keyType 265=true:=by kernel_rfl
theorem oO:Tryz.prog.cellsOf 265=3:=by kernel_rfl
theorem AX:Tryz.prog.cellsOf 3=1:=by kernel_rfl
theorem LK {n:Int} (h:cP n):(Lit.int .i64 n).wf=true:=by
 unfold cP at h
 simp [Lit.wf,IntKind.min,IntKind.max,IntKind.bits,IntKind.signed]
 omega
theorem pS (d:Nat) {n:Int} (h:cP n):Tryz.prog.keyLits (d+1) 3 [.int .i64 n]=some [.int .i64 n]:=by
 unfold Program.keyLits
 rw [Tryz.underlying3]
 simp [LK h]
theorem ye (d:Nat) {o c k:Int} (ho:cP o) (hc:cP c) (hk:cP k):Tryz.prog.keyLits (d+1+1) 265 [.int .i64 o,.int .i64 c,.int .i64 k]=some [.int .i64 o,.int .i64 c,.int .i64 k]:=by
 have h1:=pS d ho
 have h2:=pS d hc
 have h3:=pS d hk
 unfold Program.keyLits
 rw [Tryz.underlying265]
 simp [oO,AX,h1,h2,h3]
theorem AY:∃d,Tryz.prog.types.size+1=d+1+1:=by
 have h:(265:Nat)<Tryz.prog.types.size:=sa
 exact ⟨Tryz.prog.types.size-1,by omega⟩
theorem lV {o c k:Int} (ho:cP o) (hc:cP c) (hk:cP k):keyOf Tryz.prog 265 (jf o c k)=some (ju o c k):=by
 obtain ⟨d,hd⟩:=AY
 unfold keyOf
 rw [Tryz.underlying265,hd]
 dsimp only
 have hf:(jf o c k).formed Tryz.prog 265=true:=by simp [Value.formed,Tryz.underlying265,oO]
 rw [yd,hf]
 have Nx:(jf o c k).cells.toList=[.int .i64 o,.int .i64 c,.int .i64 k]:=rfl
 rw [Nx,ye d ho hc hk]
 rfl
theorem DB {o c k o' c' k':Int} (ho:cP o) (hc:cP c) (hk:cP k) (pT:cP o') (Nx:cP c') (Hq:cP k') (h:ju o c k=ju o' c' k'):o=o'/\c=c'/\k=k':=by
 have h1:=lV ho hc hk
 have h2:=lV pT Nx Hq
 rw [<-h] at h2
 have:=j6.inj h1 h2
 simp at this
 exact this
end
def im (v:Va):Va:=⟨v.kind,if v.kind=3 then v.n+1 else v.n⟩
theorem zA (v:Va):(im v).kind=v.kind:=rfl
theorem eJ {v:Va} (h:v.kind≠3):im v=v:=by unfold im;rw [if_neg h]
theorem gp {v:Va} (h:v.kind=3):im v=⟨3,v.n+1⟩:=by unfold im;rw [if_pos h,h]
theorem gq {α:Type} (d:α) (l:List α) (i j:Nat) (v:α):nth d (l.set i v) j=if i=j/\i<l.length then v else nth d l j:=by
 unfold nth
 simp only [List.getD_eq_getElem?_getD,List.getElem?_set]
 by_cases h:i=j
 ·subst h
  by_cases hl:i<l.length
  ·simp [hl]
  ·simp [hl]
 ·simp [h]
theorem Hr {α:Type} {d:α} {l:List α} {i:Nat} (h:l.length<=i):nth d l i=d:=by
 unfold nth
 simp [List.getD_eq_getElem?_getD,h]
structure mI (l k:List Va):Prop where
 len:k.length=l.length
 zero:(nth ag l 0).kind≠9
 pair:∀i,(nth ag l i).kind=2↔(nth ag l (i+1)).kind=9
 rd:∀i,1<=(nth ag l i).kind->(nth ag l i).kind<=3->nth ag k i=im (nth ag l i)
 long:∀i,(nth ag l i).kind=2->(nth ag k (i+1)).kind=4
 back:∀i,1<=(nth ag k i).kind->(nth ag k i).kind<=3->((nth ag k i).kind=2->(nth ag k (i+1)).kind=4)->(nth ag l i).kind=(nth ag k i).kind
def jT (k:List Va) (a:Nat) (v:Va):List Va:=if v.kind=2 then (k.set a v).set (a+1) ⟨4,0⟩ else k.set a v
theorem vM (k:List Va) (a:Nat) (v:Va):(jT k a v).length=k.length:=by unfold jT;split<;>simp
section
variable (l:List Va) (a:Nat)
theorem fg:(cF l a).length=l.length:=fR l a
theorem kC (v:Va):(eZ l a v).length=l.length:=fS l a v
theorem nj (j:Nat) (ha:a<l.length):nth ag (cF l a) j=if j=a∨((nth ag l a).kind=9/\j=a-1)∨((nth ag l a).kind=2/\j=a+1) then ag else nth ag l j:=by
 have hz:∀(l:List Va) i,nth ag (l.set i ag) j=if i=j then ag else nth ag l j:=by
  intro l i
  rw [gq]
  by_cases h:i=j
  ·by_cases hl:i<l.length
   ·rw [if_pos ⟨h,hl⟩,if_pos h]
   ·rw [if_neg (fun x=>hl x.2),if_pos h,Hr (by omega)]
  ·rw [if_neg (fun x=>h x.1),if_neg h]
 unfold cF
 by_cases h9:(nth ag l a).kind=9
 ·rw [if_pos h9,hz,hz]
  have h2:¬(nth ag l a).kind=2:=by omega
  by_cases h1:a=j
  ·rw [if_pos h1,if_pos (Or.inl h1.symm)]
  ·rw [if_neg h1]
   by_cases h3:a-1=j
   ·rw [if_pos h3,if_pos (Or.inr (Or.inl ⟨h9,h3.symm⟩))]
   ·rw [if_neg h3,if_neg];rintro (h|h|h)
    ·exact h1 h.symm
    ·exact h3 h.2.symm
    ·exact h2 h.1
 ·rw [if_neg h9]
  by_cases h2:(nth ag l a).kind=2
  ·rw [if_pos h2,hz,hz]
   by_cases h1:a=j
   ·rw [if_pos h1,if_pos (Or.inl h1.symm)]
   ·rw [if_neg h1]
    by_cases h3:a+1=j
    ·rw [if_pos h3,if_pos (Or.inr (Or.inr ⟨h2,h3.symm⟩))]
    ·rw [if_neg h3,if_neg];rintro (h|h|h)
     ·exact h1 h.symm
     ·exact h9 h.1
     ·exact h3 h.2.symm
  ·rw [if_neg h2,hz]
   by_cases h1:a=j
   ·rw [if_pos h1,if_pos (Or.inl h1.symm)]
   ·rw [if_neg h1,if_neg];rintro (h|h|h)
    ·exact h1 h.symm
    ·exact h9 h.1
    ·exact h2 h.1
end
theorem mI.los {l k:List Va} (h:mI l k) {a:Nat} (ha:a<l.length) (x:Va) (hx:x.kind=0∨4<x.kind):mI (cF l a) (k.set a x):=by
 have e:=fun j=>nj l a j ha
 have e':=fun j=>gq ag k a j x
 have hk:a<k.length:=by rw [h.len];exact ha
 refine ⟨?_,?_,fun i=>?_,fun i h1 h2=>?_,fun i h1=>?_,fun i h1 h2 h3=>?_⟩
 ·rw [List.length_set,fg,h.len]
 ·rw [e];split
  ·decide
  ·exact h.zero
 ·rw [e,e]
  have hp:=h.pair i
  have vl:=h.pair a
  have Ht:=h.pair (a-1)
  have hz:=h.zero
  by_cases c1:i=a
  ·subst c1
   rw [if_pos (Or.inl rfl)]
   constructor
   ·intro q;exact absurd q (by decide)
   ·intro q
    split at q
    ·exact absurd q (by decide)
    ·rename_i hn
     have:=hp.mpr q
     exact absurd (Or.inr (Or.inr ⟨this,rfl⟩)) hn
  by_cases c2:i+1=a
  ·have U8:i=a-1:=by omega
   rw [if_pos (Or.inl c2:i+1=a∨_)]
   constructor
   ·intro q
    split at q
    ·exact absurd q (by decide)
    ·rename_i hn
     have:=hp.mp q
     rw [c2] at this
     exact absurd (Or.inr (Or.inl ⟨this,U8⟩)) hn
   ·intro q;exact absurd q (by decide)
  by_cases c3:(nth ag l a).kind=2/\i=a+1
  ·have hn:(nth ag l i).kind=9:=by rw [c3.2];exact vl.mp c3.1
   rw [if_pos (Or.inr (Or.inr c3))]
   rw [if_neg (by rintro (q|q|q)<;>omega)]
   constructor
   ·intro q;exact absurd q (by decide)
   ·intro q
    have:=hp.mpr q
    omega
  by_cases c4:(nth ag l a).kind=9/\i+1=a-1
  ·have hn:(nth ag l (a-1)).kind=2:=by
    have e1:a-1+1=a:=by omega
    rw [e1] at Ht
    exact Ht.mpr c4.1
   rw [if_pos (Or.inr (Or.inl c4):i+1=a∨((nth ag l a).kind=9/\i+1=a-1)∨_)]
   rw [if_neg (by rintro (q|q|q)<;>omega)]
   constructor
   ·intro q
    have:=hp.mp q
    rw [c4.2] at this
    omega
   ·intro q;exact absurd q (by decide)
  rw [if_neg (by rintro (q|q|q)<;>omega)]
  by_cases c5:(nth ag l a).kind=9/\i=a-1
  ·exact absurd c5.2 (by omega)
  rw [if_neg]
  ·exact hp
  ·rintro (q|q|q)
   ·omega
   ·exact c4 q
   ·omega
 ·rw [e] at h1 h2 ⊢
  split at h1
  ·exact absurd h1 (by decide)
  ·rename_i hn
   rw [if_neg hn] at h2 ⊢
   rw [e',if_neg (fun q=>hn (Or.inl q.1.symm))]
   exact h.rd i h1 h2
 ·rw [e] at h1
  split at h1
  ·exact absurd h1 (by decide)
  ·rename_i hn
   have hl:=h.long i h1
   rw [e',if_neg]
   ·exact hl
   ·rintro ⟨q,-⟩
    have hp:=(h.pair i).mp h1
    rw [<-q] at hp
    exact hn (Or.inr (Or.inl ⟨hp,by omega⟩))
 ·rw [e'] at h1 h2
  split at h1
  ·rename_i hq
   rw [if_pos hq] at h2
   omega
  ·rename_i hn
   rw [if_neg hn] at h2
   rw [e',if_neg hn] at h3 ⊢
   have hb:(nth ag l i).kind=(nth ag k i).kind:=by
    refine h.back i h1 h2 fun q=>?_
    have h4:=h3 q
    rw [e'] at h4
    split at h4
    ·omega
    ·exact h4
   rw [e,if_neg]
   ·exact hb
   ·rintro (q|q|q)
    ·exact hn ⟨q.symm,hk⟩
    ·have e1:a-1+1=a:=by
      have:a≠0:=fun z=>h.zero (by rw [<-z];exact q.1)
      omega
     have hp:=h.pair (a-1)
     rw [e1] at hp
     have Tf:=hp.mpr q.1
     rw [<-q.2,hb] at Tf
     have h4:=h3 Tf
     rw [e',q.2,e1,if_pos ⟨rfl,hk⟩] at h4
     omega
    ·have hp:=(h.pair a).mp q.1
     rw [<-q.2,hb] at hp
     omega
theorem mI.sto {l k:List Va} (h:mI l k) {a:Nat} (ha:a<l.length) (v:Va) (hv:1<=v.kind/\v.kind<=3) (h2:v.kind=2->a+1<l.length):mI (eZ l a v) (jT k a (im v)):=by
 have PZ:(im v).kind=v.kind:=rfl
 by_cases hk:v.kind=2
 ·have Hv:=h2 hk
  have r1:=(h.los ha ag (Or.inl rfl)).los (a:=a+1) (by rw [fg];exact Hv) ag (Or.inl rfl)
  have r0:eZ l a v=(((cF (cF l a) (a+1)).set (a+1) ⟨9,0⟩).set a v):=by unfold eZ;rw [if_pos hk]
  have r2:jT k a (im v)=(k.set a (im v)).set (a+1) ⟨4,0⟩:=by unfold jT;rw [if_pos (by rw [PZ];exact hk)]
  rw [r0,r2]
  have yf:(cF (cF l a) (a+1)).length=l.length:=by rw [fg,fg]
  have e:∀j,nth ag (((cF (cF l a) (a+1)).set (a+1) ⟨9,0⟩).set a v) j=if j=a then v else if j=a+1 then ⟨9,0⟩ else nth ag (cF (cF l a) (a+1)) j:=by
   intro j
   rw [gq,gq,List.length_set,yf]
   by_cases c1:j=a
   ·rw [if_pos ⟨c1.symm,ha⟩,if_pos c1]
   ·rw [if_neg (fun q=>c1 q.1.symm),if_neg c1]
    by_cases c2:j=a+1
    ·rw [if_pos ⟨c2.symm,Hv⟩,if_pos c2]
    ·rw [if_neg (fun q=>c2 q.1.symm),if_neg c2]
  have e':∀j,nth ag ((k.set a (im v)).set (a+1) ⟨4,0⟩) j=if j=a then im v else if j=a+1 then ⟨4,0⟩ else nth ag ((k.set a ag).set (a+1) ag) j:=by
   intro j
   rw [gq,gq,gq,gq,List.length_set,List.length_set,h.len]
   by_cases c1:j=a
   ·rw [if_neg (by omega),if_pos ⟨c1.symm,ha⟩,if_pos c1]
   ·rw [if_neg c1]
    by_cases c2:j=a+1
    ·rw [if_pos ⟨c2.symm,Hv⟩,if_pos c2]
    ·rw [if_neg (fun q=>c2 q.1.symm),if_neg (fun q=>c1 q.1.symm),if_neg c2,if_neg (fun q=>c2 q.1.symm),if_neg (fun q=>c1 q.1.symm)]
  have z0:nth ag (cF (cF l a) (a+1)) a=ag:=by
   have hlt:a+1<(cF l a).length:=by rw [fg];exact Hv
   rw [nj _ _ _ hlt]
   split
   ·rfl
   ·rw [nj _ _ _ ha,if_pos (Or.inl rfl)]
  have z1:nth ag (cF (cF l a) (a+1)) (a+1)=ag:=by
   have hlt:a+1<(cF l a).length:=by rw [fg];exact Hv
   rw [nj _ _ _ hlt,if_pos (Or.inl rfl)]
  have zp:∀i,i+1=a->(nth ag (cF (cF l a) (a+1)) i).kind≠2:=by
   intro i hi q
   have:=(r1.pair i).mp q
   rw [hi,z0] at this
   exact absurd this (by decide)
  have zn:(nth ag (cF (cF l a) (a+1)) (a+1+1)).kind≠9:=by
   intro q
   have:=(r1.pair (a+1)).mpr q
   rw [z1] at this
   exact absurd this (by decide)
  refine ⟨?_,?_,fun i=>?_,fun i h1 h3=>?_,fun i h1=>?_,fun i h1 h3 h4=>?_⟩
  ·simp [yf,h.len]
  ·rw [e];split
   ·omega
   ·split
    ·omega
    ·exact r1.zero
  ·rw [e,e]
   by_cases c1:i=a
   ·subst c1;rw [if_pos rfl,if_neg (by omega),if_pos rfl];exact ⟨fun _=>rfl,fun _=>hk⟩
   ·rw [if_neg c1]
    by_cases c2:i=a+1
    ·subst c2
     rw [if_pos rfl,if_neg (by omega),if_neg (by omega)]
     constructor
     ·intro q;exact absurd q (by decide)
     ·intro q;exact absurd q zn
    ·rw [if_neg c2]
     by_cases c3:i+1=a
     ·rw [if_pos c3]
      constructor
      ·intro q;exact absurd q (zp i c3)
      ·intro q;omega
     ·rw [if_neg c3,if_neg (by omega)];exact r1.pair i
  ·rw [e] at h1 h3 ⊢
   rw [e']
   by_cases c1:i=a
   ·rw [if_pos c1,if_pos c1]
   ·rw [if_neg c1] at h1 h3 ⊢
    rw [if_neg c1]
    by_cases c2:i=a+1
    ·rw [if_pos c2] at h3;exact absurd h3 (by decide)
    ·rw [if_neg c2] at h1 h3 ⊢
     rw [if_neg c2]
     exact r1.rd i h1 h3
  ·rw [e] at h1
   rw [e']
   by_cases c1:i=a
   ·rw [if_neg (by omega),if_pos (by omega)]
   ·rw [if_neg c1] at h1
    by_cases c2:i=a+1
    ·rw [if_pos c2] at h1;exact absurd h1 (by decide)
    ·rw [if_neg c2] at h1
     by_cases c3:i+1=a
     ·exact absurd h1 (zp i c3)
     ·rw [if_neg c3,if_neg (by omega)]
      exact r1.long i h1
  ·rw [e'] at h1 h3
   rw [e,e']
   by_cases c1:i=a
   ·rw [if_pos c1,if_pos c1];rfl
   ·rw [if_neg c1] at h1 h3
    rw [if_neg c1,if_neg c1]
    by_cases c2:i=a+1
    ·rw [if_pos c2] at h3;exact absurd h3 (by decide)
    ·rw [if_neg c2] at h1 h3
     rw [if_neg c2,if_neg c2]
     refine r1.back i h1 h3 fun q=>?_
     have h5:=h4 (by rw [e',if_neg c1,if_neg c2];exact q)
     rw [e'] at h5
     by_cases c3:i+1=a
     ·rw [if_pos c3] at h5
      rw [PZ,hk] at h5
      exact absurd h5 (by decide)
     ·rw [if_neg c3,if_neg (by omega)] at h5
      exact h5
 ·have r1:=h.los ha ag (Or.inl rfl)
  have r0:eZ l a v=(cF l a).set a v:=by unfold eZ;rw [if_neg hk]
  have r2:jT k a (im v)=k.set a (im v):=by unfold jT;rw [if_neg (by rw [PZ];exact hk)]
  rw [r0,r2]
  have e:∀j,nth ag ((cF l a).set a v) j=if j=a then v else nth ag (cF l a) j:=by
   intro j
   rw [gq,fg]
   by_cases c1:j=a
   ·rw [if_pos ⟨c1.symm,ha⟩,if_pos c1]
   ·rw [if_neg (fun q=>c1 q.1.symm),if_neg c1]
  have e':∀j,nth ag (k.set a (im v)) j=if j=a then im v else nth ag (k.set a ag) j:=by
   intro j
   rw [gq,gq,h.len]
   by_cases c1:j=a
   ·rw [if_pos ⟨c1.symm,ha⟩,if_pos c1]
   ·rw [if_neg (fun q=>c1 q.1.symm),if_neg c1,if_neg (fun q=>c1 q.1.symm)]
  have z0:nth ag (cF l a) a=ag:=by rw [nj _ _ _ ha,if_pos (Or.inl rfl)]
  have zp:∀i,i+1=a->(nth ag (cF l a) i).kind≠2:=by
   intro i hi q
   have:=(r1.pair i).mp q
   rw [hi,z0] at this
   exact absurd this (by decide)
  have zn:(nth ag (cF l a) (a+1)).kind≠9:=by
   intro q
   have:=(r1.pair a).mpr q
   rw [z0] at this
   exact absurd this (by decide)
  refine ⟨?_,?_,fun i=>?_,fun i h1 h3=>?_,fun i h1=>?_,fun i h1 h3 h4=>?_⟩
  ·simp [fg,h.len]
  ·rw [e];split
   ·omega
   ·exact r1.zero
  ·rw [e,e]
   by_cases c1:i=a
   ·subst c1;rw [if_pos rfl,if_neg (by omega)]
    constructor
    ·intro q;exact absurd q hk
    ·intro q;exact absurd q zn
   ·rw [if_neg c1]
    by_cases c3:i+1=a
    ·rw [if_pos c3]
     constructor
     ·intro q;exact absurd q (zp i c3)
     ·intro q;omega
    ·rw [if_neg c3];exact r1.pair i
  ·rw [e] at h1 h3 ⊢
   rw [e']
   by_cases c1:i=a
   ·rw [if_pos c1,if_pos c1]
   ·rw [if_neg c1] at h1 h3 ⊢
    rw [if_neg c1]
    exact r1.rd i h1 h3
  ·rw [e] at h1
   rw [e']
   by_cases c1:i=a
   ·rw [if_pos c1] at h1;exact absurd h1 hk
   ·rw [if_neg c1] at h1
    by_cases c3:i+1=a
    ·exact absurd h1 (zp i c3)
    ·rw [if_neg c3]
     exact r1.long i h1
  ·rw [e'] at h1 h3
   rw [e,e']
   by_cases c1:i=a
   ·rw [if_pos c1,if_pos c1];rfl
   ·rw [if_neg c1] at h1 h3
    rw [if_neg c1,if_neg c1]
    refine r1.back i h1 h3 fun q=>?_
    have h5:=h4 (by rw [e',if_neg c1];exact q)
    rw [e'] at h5
    by_cases c3:i+1=a
    ·rw [if_pos c3] at h5
     rw [PZ] at h5
     omega
    ·rw [if_neg c3] at h5
     exact h5
theorem mI.new (n:Nat):mI (List.replicate n ag) (List.replicate n ag):=by
 have e:∀i,nth ag (List.replicate n ag) i=ag:=by
  intro i
  unfold nth
  simp [List.getD_eq_getElem?_getD,List.getElem?_replicate]
  split<;>rfl
 refine ⟨rfl,?_,fun i=>?_,fun i h=>?_,fun i h=>?_,fun i h=>?_⟩
 ·rw [e];decide
 ·rw [e,e];decide
 ·rw [e] at h;exact absurd h (by decide)
 ·rw [e] at h;exact absurd h (by decide)
 ·rw [e] at h;exact absurd h (by decide)
def iM (k op:Int) (a b:Va):Bool:=if k=1 then ey op (wrap32 b.n) else ey op b.n
def j7 (k op:Int) (a b:Va):Int:=if k=1 then wrap32 (dF op (wrap32 a.n) (wrap32 b.n)) else dF op a.n b.n
def Hp.reckH (h:Hp) (a b:Va) (k op:Int):Hp:=if h.mustB (cv a b k)=true then (if iM k op a b=true then h else h.raise 2) else h.must (cv a b k)
def Hp.reckV (h:Hp) (a b:Va) (k op:Int):Va:=if h.mustB (cv a b k)=true then ⟨k,j7 k op a b⟩ else ag
def Hp.fits (h:Hp) (x:Hd) (pc:Int):Bool:=decide (x.fr<=pc)&&(decide (pc<x.til)&&gH h.file.classes (h.obj h.thrown).cls x.cls)
def Hp.caughtL (h:Hp) (pc:Int):List Hd->Int
 | []=>-1
 | x::l=>if h.fits x pc=true then x.pc else h.caughtL pc l
section
variable {h:Hp} {pc:Int} {l:List Hd} {q:Nat}
theorem oP (hq:q<l.length) (hx:h.fits (nth eD l q) pc=false):h.caughtL pc (l.drop q)=h.caughtL pc (l.drop (q+1)):=by
 rw [List.drop_eq_getElem_cons hq,Hp.caughtL,<-bU (d:=eD) hq,if_neg (by rw [hx];decide)]
theorem pU (hq:q<l.length) (hx:h.fits (nth eD l q) pc=true):h.caughtL pc (l.drop q)=(nth eD l q).pc:=by
 rw [List.drop_eq_getElem_cons hq,Hp.caughtL,<-bU (d:=eD) hq,if_pos hx]
end
structure gY (l:List Va):Prop where
 nine:∀i,i<l.length->(nth ag l i).kind=9->1<=i
 two:∀i,i<l.length->(nth ag l i).kind=2->i+1<l.length
structure aH where
 m:Me
 locs:List Va
 stk:List Va
 pc:Int
def aH.put (c:aH) (v:Va):aH:={ c with stk:=c.stk++[v] }
def Hp.putH (h:Hp) (c:aH) (v:Va):Hp:=if h.stops=true then h else h.must (decide ((aQ (c.stk++[v]):Int)<=c.m.stack))
def aH.has (c:aH) (k:Nat):Bool:=decide (k<=c.stk.length)
def aH.top (c:aH) (k:Nat):List Va:=if k<=c.stk.length then c.stk.drop (c.stk.length-k) else List.replicate k ag
def aH.cut (c:aH) (k:Nat):aH:=if k<=c.stk.length then { c with stk:=c.stk.take (c.stk.length-k) } else c
theorem aC (c:aH) (k:Nat):(c.top k).length=k:=by unfold aH.top;split<;>simp<;>omega
def aJ (op:Int):Nat:=if op=6∨op=7∨op=10 then 2 else if op=8∨op=9∨op=15∨op=17∨op=18 then 1 else 0
def givesH (h:Hp) (a b:Va) (i:In):Hp :=
 if h.over=true then h
 else if i.op=6 then h.reckH a b 1 i.a
 else if i.op=7 then h.reckH a b 2 i.a
 else if i.op=8 then h.must (decide (a.kind=1))
 else if i.op=9 then h.must (decide (a.kind=2))
 else if i.op=10 then h.must (cv a b 2)
 else if i.op=14 then h.new i.a
 else if i.op=15 then h.findH a i.a
 else if i.op=17 then h.cast a i.a
 else if i.op=18 then h.must (isRef a)
 else if i.op=1∨i.op=2∨i.op=3 then h
 else h.input'
def aG (h:Hp) (a b:Va) (i:In):Va :=
 if h.over=true then ag
 else if i.op=1 then ⟨1,i.n⟩
 else if i.op=2 then ⟨2,i.n⟩
 else if i.op=3 then ⟨3,-1⟩
 else if i.op=6 then h.reckV a b 1 i.a
 else if i.op=7 then h.reckV a b 2 i.a
 else if i.op=8 then ⟨2,a.n⟩
 else if i.op=9 then ⟨1,wrap32 a.n⟩
 else if i.op=10 then ⟨1,mf a.n b.n⟩
 else if i.op=14 then h.newV
 else if i.op=15 then h.getV a i.a i.b
 else if i.op=17 then a
 else if i.op=18 then h.isV a i.a
 else h.inV
structure jE where
 h:Hp
 c:aH
 nx:Int
def b8 (h:Hp) (c:aH) (i:In):jE :=
 let h1:=h.must (c.has (aJ i.op))
 let a:=nth ag (c.top (aJ i.op)) 0
 let b:=nth ag (c.top (aJ i.op)) 1
 let h2:=givesH h1 a b i
 if h2.stops=true then ⟨h2,c.cut (aJ i.op),c.pc+1⟩
 else ⟨h2.putH (c.cut (aJ i.op)) (aG h1 a b i),(c.cut (aJ i.op)).put (aG h1 a b i),c.pc+1⟩
def DC (h:Hp) (c:aH) (i:In):jE :=
 let h1:=h.must (c.has 1)
 let a:=nth ag (c.top 1) 0
 ⟨h1.must (decide (a.kind=1)),c.cut 1,if (h1.mustB (decide (a.kind=1))&&jB i.b a.n)=true then i.a else c.pc+1⟩
def pV (h:Hp) (c:aH) (i:In):jE :=
 let h1:=h.must (c.has 1)
 let a:=nth ag (c.top 1) 0
 ⟨h1.must (isRef a),c.cut 1,if (h1.mustB (isRef a)&&decide (a.n<0))=true then i.a else c.pc+1⟩
def vN (h:Hp) (c:aH) (i:In):jE :=
 let h1:=h.must (c.has 1)
 let a:=nth ag (c.top 1) 0
 ⟨if h1.over=true then h1 else h1.throw a,c.cut 1,c.pc+1⟩
def kR (h:Hp) (c:aH) (i:In):jE :=
 let v:=nth ag c.locs i.a.toNat
 if h.mustB (decide (v.kind=i.b))=true then ⟨h.putH c v,c.put v,c.pc+1⟩ else ⟨h.must (decide (v.kind=i.b)),c,c.pc+1⟩
def kD (h:Hp) (c:aH) (i:In):jE :=
 let h1:=h.must (c.has 1)
 let a:=nth ag (c.top 1) 0
 ⟨h1.must (decide (a.kind=i.b)),if h1.mustB (decide (a.kind=i.b))=true then { c.cut 1 with locs:=eZ c.locs i.a.toNat a } else c.cut 1,c.pc+1⟩
def DD (h:Hp) (c:aH) (i:In):jE:=⟨h.must (c.has 1),c.cut 1,c.pc+1⟩
def pj (h:Hp) (c:aH) (i:In):jE :=
 let h1:=h.must (c.has 1)
 let a:=nth ag (c.top 1) 0
 if h1.over=true then ⟨h1,c.cut 1,c.pc+1⟩
 else ⟨(h1.putH (c.cut 1) a).putH ((c.cut 1).put a) a,((c.cut 1).put a).put a,c.pc+1⟩
def oQ (h:Hp) (c:aH) (i:In):jE :=
 let h1:=h.must (c.has 1)
 let a:=nth ag (c.top 1) 0
 ⟨if h1.over=true then h1 else h1.emit a i.a,c.cut 1,c.pc+1⟩
def j8 (h:Hp) (c:aH) (i:In):jE :=
 let h1:=h.must (c.has 2)
 let a:=nth ag (c.top 2) 0
 let b:=nth ag (c.top 2) 1
 ⟨if h1.over=true then h1 else if h1.mustB (isRef a)=true then h1.put a i.a i.b b else h1.must (isRef a),c.cut 2,c.pc+1⟩
def aM (h:Hp) (c:aH) (i:In):jE :=
 if i.op=11 then ⟨h,c,i.a⟩
 else if i.op=12 then DC h c i
 else if i.op=13 then pV h c i
 else if i.op=21 then vN h c i
 else if i.op=4 then kR h c i
 else if i.op=5 then kD h c i
 else if i.op=22 then DD h c i
 else if i.op=23 then pj h c i
 else if i.op=24 then oQ h c i
 else if i.op=16 then j8 h c i
 else b8 h c i
def Hp.enterL (h:Hp):List Va->List Ty->Bool
 | v::l,t::k=>h.of v t&&h.enterL l k
 | _,_=>true
def Hp.deep (h:Hp):Bool:=decide (20<=h.calls)
def Hp.enterB (h:Hp) (m:Me) (l:List Va):Bool:=h.enterL l m.params&&!h.deep
def Hp.enterH (h:Hp) (m:Me) (l:List Va):Hp :=
 if h.enterL l m.params=false then h.fin 6 else if h.deep=true then h.fin 5 else { h with calls:=h.calls+1 }
def dT (l:List Va) (fG:Nat):List Va->List Va
 | []=>l
 | v::k=>dT (eZ l fG v) (fG+aQ [v]) k
def bS (m:Me) (l:List Va):aH:=⟨m,dT (List.replicate m.locs.toNat ag) 0 l,[],0⟩
def Hp.leave (h:Hp):Hp:={ h with calls:=h.calls-1 }
def dM (go:Hp->aH->Hp×Va) (d:jE):Hp×Va :=
 if d.h.over=true then (d.h.leave,ag)
 else if 0<=d.h.thrown then
  (if d.h.caughtL d.c.pc d.c.m.hands<0 then (d.h.leave,ag)
   else go (({ d.h with thrown:=-1 }:Hp).putH { d.c with stk:=[] } ⟨3,d.h.thrown⟩) { (({ d.c with stk:=[] }:aH).put ⟨3,d.h.thrown⟩) with pc:=d.h.caughtL d.c.pc d.c.m.hands })
 else go d.h { d.c with pc:=d.nx }
def fX (go:Hp->aH->Hp×Va) (h:Hp) (m:Me) (l:List Va):Hp×Va :=
 if h.enterB m l=true then go (h.enterH m l) (bS m l) else (h.enterH m l,ag)
def gZ (go:Hp->aH->Hp×Va) (h:Hp) (c:aH) (i:In):jE :=
 let m:=nth bO h.file.methods i.a.toNat
 let h1:=h.must (c.has m.params.length)
 let c1:=c.cut m.params.length
 if h1.over=true then ⟨h1,c1,c.pc+1⟩
 else let r:=fX go h1 m (c.top m.params.length)
  if (r.1.stops=false/\m.ret.kind≠0) then ⟨r.1.putH c1 r.2,c1.put r.2,c.pc+1⟩ else ⟨r.1,c1,c.pc+1⟩
def j9 (h:Hp) (c:aH):Hp×Va :=
 if c.m.ret.kind=0 then (h.leave,ag)
 else let h1:=h.must (c.has 1)
  let v:=nth ag (c.top 1) 0
  ((h1.must (!h1.over&&h1.of v c.m.ret)).leave,v)
def gr (go:Hp->aH->Hp×Va) (h:Hp) (c:aH):Hp×Va :=
 if h.mustB (decide (c.pc<c.m.code.length))=false then ((h.must (decide (c.pc<c.m.code.length))).leave,ag)
 else if (nth fW c.m.code c.pc.toNat).op=20 then j9 h c
 else dM go (if (nth fW c.m.code c.pc.toNat).op=19 then gZ go h c (nth fW c.m.code c.pc.toNat) else aM h c (nth fW c.m.code c.pc.toNat))
def bF:Nat->Hp->aH->Hp×Va
 | 0,h,c=>(h.step.leave,ag)
 | n+1,h,c=>if h.stepB=false then (h.step.leave,ag) else gr (bF n) h.step c
theorem bg (x n:Int) (w:World) :
  Calls Tryz.prog 97 #[int i64 x,int i64 n] w fun e w'=>e=.returned (.bool (decide (0<=x/\x<n)))/\w'=w:=by
 go_enter Tryz.func97,Tryz.ntmps97
 go_wp2
 all_goals
  go_ret
  refine ⟨aj ?_,rfl⟩
  rw [Bool.eq_iff_iff];simp;try omega
theorem bj (n lo hi:Int) (w:World) :
  Calls Tryz.prog 35 #[int i64 n,int i64 lo,int i64 hi] w fun e w'=>e=.returned (.bool (decide (lo<=n/\n<=hi)))/\w'=w:=by
 go_enter Tryz.func35,Tryz.ntmps35
 go_wp2
 all_goals
  go_ret
  refine ⟨aj ?_,rfl⟩
  rw [Bool.eq_iff_iff];simp;try omega
theorem kE (c s:Int) (w:World) :
  Calls Tryz.prog 77 #[int i64 c,int i64 s] w fun e w'=>e=.returned (.bool (decide ((c=0/\s=-1)∨(c≠0/\0<=s/\s<c))))/\w'=w:=by
 by_cases h0:c=0
 ·subst h0
  go_enter Tryz.func77,Tryz.ntmps77
  go_wp2
  all_goals
   go_ret
   refine ⟨aj ?_,rfl⟩
   rw [Bool.eq_iff_iff];simp
 ·go_enter Tryz.func77,Tryz.ntmps77
  go_wp2_with (go_at_call 97;refine (bg _ _ _).mono ?_;rintro e w' ⟨rfl,rfl⟩)
  all_goals
   go_ret
   refine ⟨aj ?_,rfl⟩
   rw [Bool.eq_iff_iff];simp;omega
theorem oT (n:Nat) (k x:Int) (w:World) :
  Calls Tryz.prog 137 #[.agg #[int i64 k,int i64 x],int i64 n] w fun e w'=>e=.returned (.bool (fu n ⟨k,x⟩))/\Bl w w':=by
 have hk:k=1∨k=2∨k=3∨(k≠1/\k≠2/\k≠3):=by omega
 rcases hk with rfl|rfl|rfl|⟨h1,h2,h3⟩
 all_goals
  go_enter Tryz.func137,Tryz.ntmps137
  go_wp2_with (go_at_call 97;refine (bg _ _ _).mono ?_;rintro e w' ⟨rfl,rfl⟩)
  go_ret
  refine ⟨aj ?_,(Bl.refl _).alloc _⟩
  unfold fu
  rw [Bool.eq_iff_iff];simp;try omega
def nk (n:Nat) (f:List Ty):Bool:=decide (f.length<=6)&&f.all (fu n)
theorem DE {n:Nat} {f:List Ty} (h:¬f.length<=6):nk n f=false:=by unfold nk;rw [decide_eq_false h];rfl
theorem yg {n q:Nat} {f:List Ty} (hq:q<f.length) (h:fu n (nth cN f q)=false):f.all (fu n)=false:=by
 rw [List.all_eq_false];exact ⟨nth cN f q,bJ hq,by rw [h];decide⟩
theorem vO {n:Nat} {f:List Ty} (ht:∀k,k<f.length->fu n (nth cN f k)=true):f.all (fu n)=true:=by
 rw [List.all_eq_true]
 intro x hx
 obtain ⟨k,hk,rfl⟩:=List.getElem_of_mem hx
 rw [<-bU hk];exact ht k hk
section
variable (A:Option Addr) (n c:Nat) (F:List Ty) (w:World)
theorem fA (hl:dp w A F) :
  Calls Tryz.prog 79 #[int i64 n,.slice A F.length c] w fun e w'=>e=.returned (.bool (F.all (fu n)))/\Bl w w':=by
 obtain ⟨hm,hl⟩:=hl
 unfold maxLen at hm
 have HG:Hid ((∀k,k<F.length->fu n (nth cN F k)=true)->F.all (fu n)=true):=vO
 have HT:Hid (∀q,q<F.length->fu n (nth cN F q)=false->F.all (fu n)=false):=fun q=>yg
 obtain ⟨R,hR⟩:∃R,F.all (fu n)=R:=⟨_,rfl⟩
 rw [hR] at HG HT ⊢
 clear hR
 go_enter Tryz.func79,Tryz.ntmps79
 go_wp2
 go_loopw [9] (fun i wr=>∃q:Nat,q<=F.length/\i=int i64 q/\Hid (∀j,j<q->fu n (nth cN F j)=true)/\Hid (Bl w wr)) (fun i _=>F.length-(intOf i).toNat)
 case atStart=>exact ⟨0,Nat.zero_le _,rfl,fun j hj=>absurd hj (Nat.not_lt_zero _),Bl.refl _⟩
 case round =>
  obtain ⟨q,hq,rfl,mG,hg⟩:=hrel
  by_cases eR:q<F.length
  ·rcases hl with h0|⟨b,off,rfl,hcell⟩
   ·omega
   obtain ⟨KE,N2,-,-⟩:=hcell q eR
   replace KE:=hg.out.cell KE
   replace N2:=hg.out.cell N2
   clear hcell HG
   cases hT:fu n (nth cN F q)
   ·have LJ:fu n ⟨(nth cN F q).kind,(nth cN F q).cls⟩=false:=hT
    have HF:=HT.out q eR hT
    clear HT hT
    go_wp2_with (go_at_call 137;refine (oT _ _ _ _).mono ?_;rintro e w1 ⟨rfl,iL⟩)
    go_ret
    exact ⟨aj HF.symm,(hg.out.alloc _).trans iL⟩
   ·have LJ:fu n ⟨(nth cN F q).kind,(nth cN F q).cls⟩=true:=hT
    have vm:Hid (fu n (nth cN F q)=true):=hT
    clear hT HT
    go_wp2_with (go_at_call 137;refine (oT _ _ _ _).mono ?_;rintro e w1 ⟨rfl,iL⟩)
    go_roundw
    case rel=>exact ⟨q+1,by omega,by go_num,fun j hj=>if h:j<q then mG.out j h else by have:j=q:=(by omega);subst this;exact vm.out,(hg.out.alloc _).trans iL⟩
    case measure=>simp [intOf];omega
  ·have hkk:q=F.length:=by omega
   subst hkk
   have HF:=HG.out mG.out
   clear HG hl
   go_wp2
   go_ret
   exact ⟨aj HF.symm,hg.out⟩
theorem mv (hl:dp w A F) :
  Calls Tryz.prog 78 #[.slice A F.length c,int i64 n] w fun e w'=>e=.returned (.bool (nk n F))/\Bl w w':=by
 have hm:=hl.1
 unfold maxLen at hm
 by_cases h6:F.length<=6
 ·have hb:nk n F=F.all (fu n):=by unfold nk;rw [decide_eq_true h6];rfl
  rw [hb]
  go_enter Tryz.func78,Tryz.ntmps78
  go_wp2_with (go_at_call 79;refine (fA _ _ _ _ _ hl).mono ?_;rintro e w1 ⟨rfl,iL⟩)
  go_ret
  exact ⟨rfl,iL⟩
 ·have hb:=DE (n:=n) h6
  rw [hb]
  clear hb hl
  go_enter Tryz.func78,Tryz.ntmps78
  go_wp2
  go_ret
  exact ⟨rfl,Bl.refl _⟩
end
def rI (l:List Cl) (i:Nat):Bool:=decide (((i:Int)=0/\(nth cg l i).super=-1)∨((i:Int)≠0/\0<=(nth cg l i).super/\(nth cg l i).super<i))
theorem Hw {l:List Cl} {i:Nat} (hi:i<l.length) (h:rI l i=false):eQ l=false:=by
 unfold rI at h
 rw [decide_eq_false_iff_not] at h
 by_cases h0:i=0
 ·subst h0;exact nd (by omega)
 ·exact sU hi (x8 (by omega))
theorem Hy {l:List Cl} {i:Nat} (hi:i<l.length) (h:nk l.length (nth cg l i).fields=false):eQ l=false:=by
 refine sU hi ?_
 by_cases h6:(nth cg l i).fields.length<=6
 ·unfold nk at h
  rw [decide_eq_true h6,Bool.true_and] at h
  unfold rH;rw [h,Bool.and_false]
 ·exact x8 (by omega)
theorem DF {l:List Cl} (h4:4<=l.length) (pQ:l.length<=12) (h:∀i,i<l.length->rI l i=true/\nk l.length (nth cg l i).fields=true):eQ l=true:=by
 have h0:=(h 0 (by omega)).1
 unfold rI at h0
 rw [decide_eq_true_eq] at h0
 refine vJ ⟨h4,pQ,by omega⟩ fun i hi=>?_
 obtain ⟨h1,h2⟩:=h i hi
 unfold rI at h1;unfold nk at h2
 rw [decide_eq_true_eq] at h1
 rw [Bool.and_eq_true,decide_eq_true_eq] at h2
 unfold rH
 rw [h2.2,Bool.and_true,decide_eq_true_eq]
 exact ⟨by omega,h2.1⟩
theorem lW (A:Option Addr) (c:Nat) (l:List Cl) (w:World) (hl:ct w A l) :
  Calls Tryz.prog 34 #[.slice A l.length c] w fun e w'=>e=.returned (.bool (eQ l))/\Bl w w':=by
 obtain ⟨hm,hl⟩:=hl
 unfold maxLen at hm
 by_cases h4:¬(4<=(l.length:Int)/\(l.length:Int)<=12)
 ·have hb:eQ l=false:=nd (by omega)
  rw [hb]
  clear hb hl
  have hd:decide (4<=(l.length:Int)/\(l.length:Int)<=12)=false:=decide_eq_false h4
  go_enter Tryz.func34,Tryz.ntmps34
  go_wp2_with (go_at_call 35;refine (bj _ _ _ _).mono ?_;rintro e w1 ⟨he,rfl⟩;rw [hd] at he;subst he)
  go_ret
  exact ⟨rfl,Bl.refl _⟩
 replace h4:=Decidable.of_not_not h4
 have hd:decide (4<=(l.length:Int)/\(l.length:Int)<=12)=true:=decide_eq_true h4
 rcases hl with hl|⟨b,off,rfl,hc⟩
 ·omega
 have HB:Hid ((∀i,i<l.length->rI l i=true/\nk l.length (nth cg l i).fields=true)->eQ l=true):=DF (by omega) (by omega)
 go_enter Tryz.func34,Tryz.ntmps34
 go_wp2_with (go_at_call 35;refine (bj _ _ _ _).mono ?_;rintro e w1 ⟨he,hw1⟩;rw [hd] at he;subst he;rw [hw1];clear hw1 w1)
 go_loopw [11] (fun i wr=>∃k:Nat,k<=l.length/\i=int i64 k/\Hid (∀j,j<k->rI l j=true/\nk l.length (nth cg l j).fields=true)/\Hid (Bl w wr)) (fun i _=>l.length-(intOf i).toNat)
 case atStart=>exact ⟨0,Nat.zero_le _,rfl,fun j hj=>absurd hj (Nat.not_lt_zero _),Bl.refl _⟩
 case round =>
  obtain ⟨k,hk,rfl,vL,hg⟩:=hrel
  by_cases hlt:k<l.length
  ·obtain ⟨pR,Hn,A',c',jC,hty⟩:=hc k hlt
   replace pR:=hg.out.cell pR
   replace jC:=hg.out.cell jC
   have N1:Hid (dp wr A' (nth cg l k).fields):=hty.bl hg.out
   have HS:Hid (rI l k=false->eQ l=false):=Hw hlt
   have HF:Hid (nk l.length (nth cg l k).fields=false->eQ l=false):=Hy hlt
   clear hc HB hty
   cases hS:rI l k
   ·have kA:=HS.out hS
    have P0:decide (((k:Int)=0/\(nth cg l k).super=-1)∨((k:Int)≠0/\0<=(nth cg l k).super/\(nth cg l k).super<k))=false:=hS
    clear hS
    go_wp2_with (go_at_call 77;refine (kE _ _ _).mono ?_;rintro e w1 ⟨he,rfl⟩;rw [P0] at he;subst he)
    go_ret
    exact ⟨aj kA.symm,hg.out.alloc _⟩
   ·have vp:Hid (rI l k=true):=hS
    have P0:decide (((k:Int)=0/\(nth cg l k).super=-1)∨((k:Int)≠0/\0<=(nth cg l k).super/\(nth cg l k).super<k))=true:=hS
    clear hS
    cases hF:nk l.length (nth cg l k).fields
    ·have kA:=HF.out hF
     go_wp2_with (first
      | (go_at_call 77;refine (kE _ _ _).mono ?_;rintro e w1 ⟨he,rfl⟩;rw [P0] at he;subst he)
      | (go_at_call 78;refine (mv _ _ _ _ _ (N1.out.bl ((Bl.refl _).alloc _))).mono ?_;rintro e w1 ⟨he,iL⟩;rw [hF] at he;subst he))
     go_ret
     exact ⟨aj kA.symm,(hg.out.alloc _).trans iL⟩
    ·have KF:Hid (nk l.length (nth cg l k).fields=true):=hF
     go_wp2_with (first
      | (go_at_call 77;refine (kE _ _ _).mono ?_;rintro e w1 ⟨he,rfl⟩;rw [P0] at he;subst he)
      | (go_at_call 78;refine (mv _ _ _ _ _ (N1.out.bl ((Bl.refl _).alloc _))).mono ?_;rintro e w1 ⟨he,iL⟩;rw [hF] at he;subst he))
     go_roundw
     case rel=>exact ⟨k+1,by omega,by go_num,fun j hj=>if h:j<k then vL.out j h else by have:j=k:=(by omega);subst this;exact ⟨vp.out,KF.out⟩,(hg.out.alloc _).trans iL⟩
     case measure=>simp [intOf];omega
  ·have hkk:k=l.length:=by omega
   subst hkk
   have Dy:=HB.out vL.out
   clear HB hc
   go_wp2
   go_ret
   exact ⟨aj Dy.symm,hg.out⟩
section
open Go.RowKit Go.Shelf
attribute [local go_sem] Oper.semAt_some
theorem up1_in (F:Fence) (n:Nat) (hf:F.fn 248) (DG:F.round=none) (hn:1<=n) (lp Bc Bs:Nat) (A:Option Addr) (c:Nat) (l:List Cl) (u:Nat) (ht:Tree l) (hu:u<l.length) (w:World) (J Jx:List Nat->World->Prop)
  (hY:∀pre x W,J pre W->pre.length<(ups l u).length->YieldAt F (n-1) Tryz.prog lp #[int i64 (x:Nat)] W fun e W' =>
   (e=.returned (.bool true)/\J (pre++[x]) W'/\Below w.heap.size W W')∨(e=.returned (.bool false)/\Jx (pre++[x]) W'))
  (hl:ct w A l) (P1:w.cell? ⟨Bc,0,none⟩=some (int i64 u)) (P2:w.cell? ⟨Bs,0,none⟩=some (.slice A l.length c)) (W:World) (hW:Bl w W) (h0:J [] W) :
  CallsIn F n Tryz.prog 248 #[.func (.yield lp) #[] #[],.pointer (some ⟨Bc,0,none⟩),.pointer (some ⟨Bs,0,none⟩)] W fun e W'=>(∃v,e=.returned v) /\
   ((∃ys,ys=ups l u/\J ys W')∨(∃pre,pre <+: ups l u/\Jx pre W')):=by
 have HT:Hid (Tree l):=ht
 have HL:Hid (ct w A l):=hl
 have U9:Hid (w.cell? ⟨Bs,0,none⟩=some (.slice A l.length c)):=P2
 have hc0:=hW.cell P1
 have HW:Hid (Bl w W):=hW
 clear ht hl P2 P1 hW
 refine callsIn_of_wp Tryz.func248 rfl hf ?_ DG
 simp only [Tryz.ntmps248,List.size_toArray,List.length_cons,List.length_nil,Nat.reduceAdd,Nat.reduceSub,Array.replicate_succ,Array.replicate_zero,List.push_toArray,List.append_toArray,List.nil_append,List.cons_append]
 gi_wp2
 clear hc0
 gi_loopw [4] (fun p wr=>∃(pre rest:List Nat) (z:Int),p=int i64 z/\Hid (ups l u=pre++rest)/\Hid ((z=-1/\rest=[])∨∃k:Nat,z=k/\k<l.length/\rest=ups l k)/\Hid (Bl w wr)/\J pre wr)
  (fun p _=>(intOf p+1).toNat)
 case atStart=>exact ⟨[],ups l u,_,rfl,rfl,.inr ⟨u,rfl,hu,rfl⟩,HW,h0⟩
 case round =>
  obtain ⟨pre,rest,z,rfl,hx,hz,hg,Tg⟩:=hrel
  rcases hz.out with ⟨rfl,rfl⟩|⟨k,rfl,hk,rfl⟩
  ·clear hz
   gi_wp2
   go_end0
   exact ⟨⟨_,rfl⟩,.inl ⟨pre,by simpa using hx.out.symm,Tg⟩⟩
  ·clear hz
   obtain ⟨fn,tmps,assign,body,hy,hR⟩:=hY pre k wr Tg (by
    rw [hx.out,List.length_append]
    have:=List.length_pos_of_mem (ups_head (l:=l) k)
    omega)
   gi_wp2
   refine hR.mono ?_
   rintro e W3 (⟨rfl,Ti,sW⟩|⟨rfl,QS⟩)
   ·have vq:Bl w W3:=Below.trans hg.out sW
    have QT:=vq.cell U9.out
    obtain ⟨hm,hcl⟩:=HL.out
    unfold maxLen at hm
    rcases hcl with h1|⟨b,off,rfl,hcl⟩
    ·omega
    have pR:=vq.cell (hcl k hk).1
    by_cases zB:k=0
    ·subst zB
     rw [HT.out.zero,Nat.zero_mul,Nat.add_zero] at pR
     have DH:Hid (ups l u=(pre++[0])++[]):=by rw [hx.out,ups_zero];simp [Hid]
     clear hcl sW hy hR hx
     have HG:Hid (Bl w W3):=vq
     clear vq
     gi_wp2
     go_roundw
     case rel=>exact ⟨pre++[0],[],-1,rfl,DH,.inl ⟨rfl,rfl⟩,HG,Ti⟩
     case measure=>simp [intOf]
    ·rw [rZ HT.out (by omega) hk] at pR
     have hp:=pM HT.out (by omega) hk
     have DH:Hid (ups l u=(pre++[k])++ups l (par l k)):=by rw [hx.out,ups_step HT.out (by omega) hk];simp [Hid]
     clear hcl sW hy hR hx
     have HG:Hid (Bl w W3):=vq
     clear vq
     gi_wp2
     go_roundw
     case rel=>exact ⟨pre++[k],_,_,rfl,DH,.inr ⟨par l k,rfl,by omega,rfl⟩,HG,Ti⟩
     case measure=>simp [intOf];omega
   ·gi_wp2
    refine bodyPost_ret (results_none rfl _ _ _) rfl ?_
    refine ⟨⟨_,rfl⟩,.inr ⟨pre++[k],?_,QS⟩⟩
    rw [hx.out]
    by_cases zB:k=0
    ·subst zB;rw [ups_zero];exact List.prefix_rfl
    ·rw [ups_step HT.out (by omega) hk];exact ⟨ups l (par l k),by simp⟩
theorem upward_any (A:Option Addr) (n c:Nat) (x:Int) (w:World) :
  Calls Tryz.prog 236 #[.slice A n c,int i64 x] w fun e w' =>
   e=.returned (.func (.func 248) #[] #[.pointer (some ⟨w.heap.size+1,0,none⟩),.pointer (some ⟨w.heap.size,0,none⟩)])
   /\ w'=(w.alloc (.cells #[.slice A n c] 22)).alloc (.cells #[int i64 x] 3):=by
 refine (callsIn_wide (n:=3)).1 ?_
 refine callsIn_of_wp Tryz.func236 rfl trivial ?_ rfl
 simp only [Tryz.ntmps236,List.size_toArray,List.length_cons,List.length_nil,Nat.reduceAdd,Nat.reduceSub,Array.replicate_succ,Array.replicate_zero,List.push_toArray,List.append_toArray,List.nil_append,List.cons_append]
 gi_wp2
 go_ret
 exact ⟨rfl,rfl⟩
theorem up_stops (n:Nat) (hn:1<=n) (Bc Bs:Nat) (A:Option Addr) (c:Nat) (l:List Cl) (u:Nat) (ht:Tree l) (hu:u<l.length) (w:World)
  (hl:ct w A l) (P1:w.cell? ⟨Bc,0,none⟩=some (int i64 u)) (P2:w.cell? ⟨Bs,0,none⟩=some (.slice A l.length c)) :
  SeqStopsK Fence.wide n Tryz.prog 248 #[.pointer (some ⟨Bc,0,none⟩),.pointer (some ⟨Bs,0,none⟩)] (fun x:Nat=>#[Value.int .i64 x]) (Below w.heap.size) (fun ys=>ys=ups l u) (fun pre=>pre <+: ups l u) (ups l u).length w :=
 fun lp J Jx W hW _ _ hY h0=>up1_in Fence.wide n trivial rfl hn lp Bc Bs A c l u ht hu w J Jx hY hl P1 P2 W hW h0
end
theorem fO (A:Option Addr) (c:Nat) (l:List Cl) (x y:Int) (w:World) (hl:ct w A l) (ht:Tree l) :
  Calls Tryz.prog 110 #[.slice A l.length c,int i64 x,int i64 y] w fun e w'=>e=.returned (.bool (kU l x y&&fK l x.toNat y.toNat))/\w'=w:=by
 obtain ⟨hm,hl⟩:=hl
 unfold maxLen at hm
 by_cases pC:0<=x/\x<l.length/\0<=y/\y<l.length
 ·have hI:kU l x y=true:=decide_eq_true pC
  rw [hI,Bool.true_and]
  clear hI
  obtain ⟨h1,h2,h3,h4⟩:=pC
  obtain ⟨u,rfl⟩:=Int.eq_ofNat_of_zero_le h1
  obtain ⟨d,rfl⟩:=Int.eq_ofNat_of_zero_le h3
  simp only [Int.toNat_natCast]
  have HT:Hid (Tree l):=ht
  rcases hl with hl|⟨b,off,rfl,hc⟩
  ·omega
  have hu:u<l.length:=by omega
  have hd:d<l.length:=by omega
  clear ht
  go_enter Tryz.func110,Tryz.ntmps110
  go_wp2
  go_loop [1] (fun i=>∃k:Nat,i=int i64 k/\k<l.length/\Hid (fK l u d=fK l k d)) (fun i=>(intOf i).toNat)
  case atStart=>exact ⟨u,rfl,hu,rfl⟩
  case round =>
   obtain ⟨k,rfl,hk,hb⟩:=hrel
   by_cases hlt:d<k
   ·have pR:=(hc k hk).1
    rw [rZ HT.out (by omega) hk] at pR
    have hp:=pM HT.out (by omega) hk
    have hs:=Ds HT.out hk hlt
    have HS:Hid (fK l u d=fK l (par l k) d):=hb.out.trans hs
    clear hc hs hb
    go_wp2
    go_round
    case rel=>exact ⟨par l k,rfl,by omega,HS⟩
    case measure=>simp [intOf];omega
   ·have HS:Hid (fK l u d=decide (k=d)):=by
     refine hb.out.trans ?_
     by_cases he:k=d
     ·subst he;rw [Dr,decide_eq_true rfl]
     ·rw [Hf HT.out hk (by omega),decide_eq_false he]
    clear hc hb
    go_wp2
    go_ret
    refine ⟨aj ?_,rfl⟩
    rw [HS.out,Bool.eq_iff_iff];simp;omega
 ·have hI:kU l x y=false:=decide_eq_false pC
  rw [hI,Bool.false_and]
  clear hI hl ht
  go_enter Tryz.func110,Tryz.ntmps110
  go_wp2
  all_goals first
   | (go_ret;exact ⟨rfl,rfl⟩)
   | (exfalso;omega)
section
open Go.RowKit Go.Shelf
attribute [local go_sem] Oper.semAt_some
theorem AZ (A:Option Addr) (c:Nat) (l:List Cl) (u d:Nat) (ht:Tree l) (hu:u<l.length) (w:World) (hl:ct w A l) :
  Calls Tryz.prog 233 #[.slice A l.length c,int i64 u,int i64 d] w fun e w'=>e=.returned (.bool (fK l u d))/\Bl w w':=by
 have HT:Hid (Tree l):=ht
 have HL:Hid (ct w A l):=hl
 clear ht hl
 refine (callsIn_wide (n:=3)).1 ?_
 refine callsIn_of_wp_marks Tryz.func233 rfl trivial ?_ rfl
 simp only [Tryz.ntmps233,List.size_toArray,List.length_cons,List.length_nil,Nat.reduceAdd,Nat.reduceSub,Array.replicate_succ,Array.replicate_zero,List.push_toArray,List.append_toArray,List.nil_append,List.cons_append]
 gi_wp2_with (refine ⟨trivial,?_⟩;gi_at_call 236;refine (callsIn_wide.2 (upward_any _ _ _ _ _)).mono ?_;rintro e w' ⟨rfl,rfl⟩)
 have c0:=Boxed.new w 3 (int i64 (d:Int))
 have c1:=Boxed.new (w.alloc (.cells #[int i64 (d:Int)] 3)) 4 (.bool false)
 have c2:=Boxed.new ((w.alloc (.cells #[int i64 (d:Int)] 3)).alloc (.cells #[.bool false] 4)) 22 (.slice A l.length c)
 have c3:=Boxed.new (((w.alloc (.cells #[int i64 (d:Int)] 3)).alloc (.cells #[.bool false] 4)).alloc (.cells #[.slice A l.length c] 22)) 3 (int i64 (u:Int))
 simp only [World.size_alloc] at c1 c2 c3
 have vP:Bl w ((((w.alloc (.cells #[int i64 (d:Int)] 3)).alloc (.cells #[.bool false] 4)).alloc (.cells #[.slice A l.length c] 22)).alloc (.cells #[int i64 (u:Int)] 3)):=((((Bl.refl w).alloc _).alloc _).alloc _).alloc _
 refine wpIn_rangeFunc_ownF (F:=Fence.wide) rfl (by omega) (gf:=248) (lb:=#[.pointer (some ⟨w.heap.size+1+1+1,0,none⟩),.pointer (some ⟨w.heap.size+1+1,0,none⟩)]) rfl trivial (enters_of Tryz.func248 (by kernel_rfl) rfl)
  (up_stops _ (by omega) (w.heap.size+1+1+1) (w.heap.size+1+1) A c l u HT.out hu _ (HL.out.bl vP) c3.cell (c2.alloc _).cell) belowK_t (belowK_b (Nat.le_refl _)) (Below.refl _ _) (fun _=>rfl)
  (fun pre W=>((∀y∈pre,y≠d)/\Boxed W w.heap.size 3 (int i64 (d:Int))/\Boxed W (w.heap.size+1) 4 (.bool false))/\Below w.heap.size w W)
  (fun c pre W=>(c=.ret/\d∈pre/\Boxed W (w.heap.size+1) 4 (.bool true))/\Below w.heap.size w W)
  (OwnFrom.and (Own.from (fun s X Y row hs hg hr=>⟨hs.1,boxed_own _ _ (fun _=>_) s X Y row hs.2.1 hg hr,boxed_own _ _ (fun _=>_) s X Y row hs.2.2 hg hr⟩) _) (ownFrom_below (Nat.le_refl _) vP.size))
  (fun c=>OwnFrom.and (Own.from (fun s X Y row hs hg hr=>⟨hs.1,hs.2.1,boxed_own _ _ (fun _=>_) s X Y row hs.2.2 hg hr⟩) _) (ownFrom_below (Nat.le_refl _) vP.size))
  ⟨⟨by simp,((c0.alloc _).alloc _).alloc _,(c1.alloc _).alloc _⟩,vP⟩
  (fun x=>{ tmps:=#[.slice A l.length c,int i64 u,int i64 d,undef,undef,.pointer (some ⟨w.heap.size,0,none⟩),.pointer (some ⟨w.heap.size+1,0,none⟩),int i64 (x:Int),.slice A l.length c,int i64 u,
   .func (.func 248) #[] #[.pointer (some ⟨w.heap.size+1+1+1,0,none⟩),.pointer (some ⟨w.heap.size+1+1,0,none⟩)],int i64 (x:Int),undef,undef,undef],defers:=[] }) ?assign ?body ?done ?stop
 case assign =>
  intro l x W K hK
  gi_wp2
  exact hK
 case body =>
  rintro lp pre x W ⟨⟨hp,QU,hcr⟩,hB⟩ _
  have h1:=QU.cell
  have h2:=hcr.cell
  have h3:=hcr.frozen
  have HB:Hid (Below w.heap.size w W):=hB
  have HC:Hid (Boxed W (w.heap.size+1) 4 (.bool false)):=hcr
  have HW:Hid (Boxed W w.heap.size 3 (int i64 (d:Int))):=QU
  clear hB hcr QU c0 c1 c2 c3 vP
  by_cases hx:x=d
  ·subst hx
   gi_wp2
   exact ⟨KeepsOthers.setCell _ _ _,⟨rfl,List.mem_append.2 (.inr (by simp)),HC.out.set _⟩,HB.out.setCell (p:=⟨w.heap.size+1,0,none⟩) (by simp) _⟩
  ·have DH:((x:Int)==(d:Int))=false:=by simp;omega
   gi_wp2
   exact ⟨KeepsOthers.refl _,Below.refl _ _,⟨fun y hy=>(List.mem_append.1 hy).elim (hp y) (fun e=>by simp at e;subst e;exact hx),HW,HC⟩,HB⟩
 case done =>
  rintro D ys W hD rfl ⟨⟨hne,_,hcr⟩,hB⟩ hK
  have h2:=hcr.cell
  have h3:=hcr.frozen
  gi_wp2
  have hK':=(KeepsOthers.setCell W ⟨w.heap.size+1,0,none⟩ (.bool false)).same D _ hK rfl
  refine ⟨by simp,.inl ⟨_,_,rfl,run_takeDeferred hK',?_⟩⟩
  have QV:=cell_kept (hcr.set (.bool false)).cell (grownBy_putObj' _ D (.deferred none)) (fun r e=>by cases e;exact ⟨_,hK',rfl⟩)
  refine ⟨.bool false,?_,by rw [show fK l u d=false from decide_eq_false (fun h=>hne d h rfl)],(hB.setCell (p:=⟨w.heap.size+1,0,none⟩) (by simp) _).trans (belowK_b (w:=w) (Nat.le_refl _) _ D _ _ (by simp at hD;omega) hK' rfl rfl)⟩
  simp [results,Tryz.f233,go_sem,QV]
 case stop =>
  rintro D c pre W hD hpre ⟨⟨rfl,pC,hcr⟩,hB⟩ hK
  gi_wp2
  refine ⟨by simp,.inl ⟨_,_,rfl,run_takeDeferred hK,?_⟩⟩
  have QV:=cell_kept hcr.cell (grownBy_putObj' _ D (.deferred none)) (fun r e=>by cases e;exact ⟨_,hK,rfl⟩)
  refine ⟨.bool true,?_,by rw [zx.2 (hpre.subset pC)],hB.trans (belowK_b (w:=w) (Nat.le_refl _) W D _ _ (by simp at hD;omega) hK rfl rfl)⟩
  simp [results,Tryz.f233,go_sem,QV]
end
section
open Go.RowKit Go.Shelf
attribute [local go_sem] Oper.semAt_some
theorem Bl.keeps {W W':World} (h:Bl W W'):KeepsOthers W W':=⟨h.size,fun i _ hi _=>(Below.block h i (Array.getElem?_eq_some_iff.1 hi).1).trans hi⟩
section
variable (A:Option Addr) (c:Nat) (l:List Cl) (x y:Int) (w:World)
theorem lg (hl:ct w A l) :
  Calls Tryz.prog 232 #[.slice A l.length c,int i64 x,int i64 y] w fun e w'=>e=.returned (.bool (eQ l&&kU l x y))/\Bl w w':=by
 have HL:Hid (ct w A l):=hl
 clear hl
 have hc:kU l x y=(decide (0<=x/\x<l.length)&&decide (0<=y/\y<l.length)):=by
  unfold kU;rw [Bool.eq_iff_iff];simp;omega
 rw [hc]
 clear hc
 cases hm:eQ l
 ·go_enter Tryz.func232,Tryz.ntmps232
  go_wp2_with (go_at_call 34;refine (lW _ _ _ _ HL.out).mono ?_;rintro e w1 ⟨he,hg⟩;rw [hm] at he;subst he)
  go_ret
  exact ⟨rfl,hg⟩
 ·cases hx:decide (0<=x/\x<l.length)
  ·go_enter Tryz.func232,Tryz.ntmps232
   go_wp2_with (first
    | (go_at_call 34;refine (lW _ _ _ _ HL.out).mono ?_;rintro e w1 ⟨he,hg⟩;rw [hm] at he;subst he)
    | (go_at_call 97;refine (bg _ _ _).mono ?_;rintro e w2 ⟨he,rfl⟩;rw [hx] at he;subst he))
   go_ret
   exact ⟨rfl,hg⟩
  ·go_enter Tryz.func232,Tryz.ntmps232
   go_wp2_with (first
    | (go_at_call 34;refine (lW _ _ _ _ HL.out).mono ?_;rintro e w1 ⟨he,hg⟩;rw [hm] at he;subst he)
    | (go_at_call 97;refine (bg _ _ _).mono ?_;rintro e w2 ⟨he,rfl⟩;(try rw [hx] at he);subst he))
   go_ret
   exact ⟨aj (by rw [Bool.eq_iff_iff];simp),hg⟩
theorem yh (hl:ct w A l) :
  Calls Tryz.prog 198 #[.slice A l.length c,int i64 x,int i64 y] w fun e w'=>e=.returned (.bool (Dt l x y))/\Bl w w':=by
 have HL:Hid (ct w A l):=hl
 clear hl
 unfold Dt
 cases hm:(eQ l&&kU l x y)
 ·rw [Bool.false_and]
  go_enter Tryz.func198,Tryz.ntmps198
  go_wp2_with (go_at_call 232;refine (lg _ _ _ _ _ _ HL.out).mono ?_;rintro e w1 ⟨he,hg⟩;rw [hm] at he;subst he)
  go_ret
  exact ⟨rfl,hg⟩
 ·rw [Bool.true_and]
  have jX:=Bool.and_eq_true_iff.1 hm
  have HT:Hid (Tree l):=(pL jX.1).1
  have pC:0<=x/\x<l.length/\0<=y/\y<l.length:=of_decide_eq_true jX.2
  clear jX
  obtain ⟨h1,h2,h3,h4⟩:=pC
  obtain ⟨u,rfl⟩:=Int.eq_ofNat_of_zero_le h1
  obtain ⟨d,rfl⟩:=Int.eq_ofNat_of_zero_le h3
  simp only [Int.toNat_natCast]
  have hu:u<l.length:=by omega
  clear h1 h2 h3 h4
  go_enter Tryz.func198,Tryz.ntmps198
  go_wp2_with (first
   | (go_at_call 232;refine (lg _ _ _ _ _ _ HL.out).mono ?_;rintro e w1 ⟨he,hg⟩;rw [hm] at he;subst he)
   | (go_at_call 233;refine (AZ _ _ _ _ _ HT.out hu _ (HL.out.bl hg)).mono ?_;rintro e w2 ⟨rfl,gE⟩))
  go_ret
  exact ⟨rfl,hg.trans gE⟩
end
end
structure pk (w:World) where
 to:World
 is:Bl w to
section
variable {P:Program}
theorem bh {id:Nat} {Q:Exit->Act->World->Prop} {a:Act} {w:World} {l:List Oper} (hm:P.follows .mixedOrders=true) (hB:Region.lexB .any l.toArray=true) (h:Nonempty (pk w)->wpQuiet P l.toArray (fun w'=>∃x:pk w,w'=x.to) (fun a'=>∀w',(∃x:pk w,w'=x.to)->Q .normal a' w') l a):(Code.region id l.toArray true).wp P Q a w :=
 wp_region_quiet (C:=fun w'=>∃x:pk w,w'=x.to) hm hB ⟨⟨_,(Bl.refl w).drew⟩,rfl⟩ (by simpa using h ⟨⟨w,Bl.refl w⟩⟩)
theorem Calls.fut {f:FuncId} {args:Array Value} {w:World} {v:Value} (x:pk w) (h:Calls P f args x.to fun e w'=>e=.returned v/\Bl x.to w'):Calls P f args x.to fun e w''=>e=.returned v/\∃y:pk w,w''=y.to :=
 h.mono fun _ w'' ⟨he,hb⟩=>⟨he,⟨w'',x.is.trans hb⟩,rfl⟩
theorem Calls.fut_same {f:FuncId} {args:Array Value} {w:World} {v:Value} (x:pk w) (h:Calls P f args x.to fun e w'=>e=.returned v/\w'=x.to):Calls P f args x.to fun e w''=>e=.returned v/\∃y:pk w,w''=y.to :=
 h.mono fun _ _ ⟨he,hb⟩=>⟨he,x,hb⟩
theorem Calls.fut_eq {f:FuncId} {args:Array Value} {w:World} {v v':Value} (x:pk w) (h:Calls P f args x.to fun e w'=>e=.returned v/\Bl x.to w') (hv:v=v'):Calls P f args x.to fun e w''=>e=.returned v'/\∃y:pk w,w''=y.to :=
 hv▸Calls.fut x h
theorem Calls.fut_same_eq {f:FuncId} {args:Array Value} {w:World} {v v':Value} (x:pk w) (h:Calls P f args x.to fun e w'=>e=.returned v/\w'=x.to) (hv:v=v'):Calls P f args x.to fun e w''=>e=.returned v'/\∃y:pk w,w''=y.to :=
 hv▸Calls.fut_same x h
end
theorem aU {w:World} {b o:Nat} {v:Value} (h:w.cell? ⟨b,o,none⟩=some v) (x:pk w):x.to.cell? ⟨b,o,none⟩=some v:=x.is.cell h
theorem KG {P:Program} {md:Region.Mode} {ops:Array Oper} {Q:Exit->Act->World->Prop} {S:World->Prop} {i:Nat} {oi:Oper} {d:Option Tmp} {v:Value} {fuel:Nat} {listed:Array Bool} {a:Act} {w:World} (hi:ops[i]?=some oi) (hd:oi.dst=d)
  (hs:Region.noSelect ops=true) (hf:Region.free md ops listed i=true) (hr:(Region.ready md ops listed).contains i=true)
  (hQ:∀c a w,Q (.panic c) (a.put oi.dst v) w->Q (.panic c) a w) (hw:Region.wanted oi (yielded ops a.tmps)=true) (hy:∀w,S w->(execOp a.eval oi).run P w=.ok (.value v) w) (hS:S w)
  (h:wpAnyH P md ops Q S fuel (listed.setIfInBounds i true) (a.put d v) w):wpAnyH P md ops Q S (fuel+1) listed a w :=
 wpAnyH_take hi hs hf hr hQ (Or.inl ⟨hw,hy⟩) hS (hd▸h)
def qOp:Op->Bool
 | .call c=>match c.callee with | .builtin .len=>true|_=>false
 | .move _ | .assign _ | .fieldAddr .. | .nilCheck _ | .load .. | .binOp .. | .unOp .. | .indexAddr .. | .build .. | .slice .. | .index .. | .extract .. | .convert .. | .field .. | .pick .. | .lookup ..=>true
 | _=>false
def Tj (md:Region.Mode) (l:List Bool):List Edge->Bool
 | []=>true
 | e::es=>(!Region.binds md e||l.getD e.on false)&&Tj md l es
def Ny (md:Region.Mode) (l:List Bool) (k:Nat):List Oper->List Bool->Option (Nat×Oper)
 | o::os,b::bs=>match !b&&(qOp o.op&&Tj md l o.after.toList) with
  | true=>some (k,o)
  | false=>Ny md l (k+1) os bs
 | _,_=>none
theorem KH {md:Region.Mode} {l:List Bool} {i:Nat} {o:Oper}:∀(os:List Oper) (bs:List Bool) (k:Nat),Ny md l k os bs=some (i,o)->∃q,i=k+q/\os[q]?=some o
 | [],bs,k,h=>by simp [Ny] at h
 | x::os,[],k,h=>by simp [Ny] at h
 | x::os,b::bs,k,h=>by
  unfold Ny at h
  split at h
  ·have h:=Option.some.inj h
   exact ⟨0,by have:=congrArg Prod.fst h;simp at this;omega,by have:=congrArg Prod.snd h;simp at this;simp [this]⟩
  ·obtain ⟨q,h1,h2⟩:=KH os bs (k+1) h
   exact ⟨q+1,by omega,by simpa using h2⟩
theorem tn {P:Program} {md:Region.Mode} {ops:Array Oper} {Q:Exit->Act->World->Prop} {S:World->Prop} {i:Nat} {oi:Oper} {v:Value} {fuel:Nat} {listed:Array Bool} {a:Act} {w:World} (hn:Ny md listed.toList 0 ops.toList listed.toList=some (i,oi))
  (hr:(Region.noSelect ops&&(Region.free md ops listed i&&((Region.ready md ops listed).contains i&&Region.wanted oi (yielded ops a.tmps))))=true)
  (hQ:∀c a w,Q (.panic c) (a.put oi.dst v) w->Q (.panic c) a w) (hy:∀w,S w->(execOp a.eval oi).run P w=.ok (.value v) w) (hS:S w)
  (h:wpAnyH P md ops Q S fuel (listed.setIfInBounds i true) (a.put oi.dst v) w):wpAnyH P md ops Q S (fuel+1) listed a w:=by
 rw [Bool.and_eq_true,Bool.and_eq_true,Bool.and_eq_true] at hr
 obtain ⟨q,h1,h2⟩:=KH _ _ _ hn
 have hi:ops[i]?=some oi:=by rw [h1,Nat.zero_add,<-Array.getElem?_toList];exact h2
 exact KG hi rfl hr.1 hr.2.1 hr.2.2.1 hQ hr.2.2.2 hy hS h
theorem tk {P:Program} {md:Region.Mode} {ops:Array Oper} {Q:Exit->Act->World->Prop} {S:World->Prop} {i:Nat} {oi:Oper} {d:Option Tmp} {v:Value} {fuel:Nat} {listed:Array Bool} {a:Act} {w:World} (hi:ops[i]?=some oi) (hd:oi.dst=d)
  (hr:(Region.noSelect ops&&(Region.free md ops listed i&&(Region.ready md ops listed).contains i))=true)
  (hQ:∀c a w,Q (.panic c) (a.put oi.dst v) w->Q (.panic c) a w) (hw:Region.wanted oi (yielded ops a.tmps)=true) (hy:∀w,S w->(execOp a.eval oi).run P w=.ok (.value v) w) (hS:S w)
  (h:wpAnyH P md ops Q S fuel (listed.setIfInBounds i true) (a.put d v) w):wpAnyH P md ops Q S (fuel+1) listed a w:=by
 rw [Bool.and_eq_true,Bool.and_eq_true] at hr
 exact KG hi hd hr.1 hr.2.1 hr.2.2 hQ hw hy hS h
theorem bI {P:Program} {md:Region.Mode} {ops:Array Oper} {Q:Exit->Act->World->Prop} {S:World->Prop} {fuel:Nat} {listed:Array Bool} {a:Act} {w:World} {i:Nat} {o:Oper} (hr:Region.ready md ops listed=[i]) (ho:ops[i]?=some o)
  (h:∀K':Act->World->Prop,Shut (∀a w,S w->(S w->wpAnyH P md ops Q S fuel (listed.setIfInBounds i true) a w)->K' a w)->if Region.wanted o (yielded ops a.tmps)=true then Oper.wp P o a w K' Q else K' (a.put o.dst undef) w):wpAnyH P md ops Q S (fuel+1) listed a w :=
 wpAnyH_ready hr (by simp) (AllReadyH.cons ho h AllReadyH.nil)
theorem aS (a:Act) (t:Tmp) (v:Value):a.put (some t) v={ a with tmps:=a.tmps.setIfInBounds t v }:=rfl
theorem aN (a:Act) (v:Value):a.put none v=a:=rfl
theorem aT {α:Type} (l:List α) (i:Nat) (x:α):l.toArray.setIfInBounds i x=(l.set i x).toArray:=List.setIfInBounds_toArray ..
theorem a0 {α:Type} (x y:α) (l:List α):(x::l).set 0 y=y::l:=rfl
theorem a1 {α:Type} (x y:α) (l:List α) (n:Nat):(x::l).set (n+1) y=x::l.set n y:=rfl
theorem aZ:(∀(a:Act) (t:Tmp) (v:Value),a.put (some t) v={ a with tmps:=a.tmps.setIfInBounds t v })/\(∀(a:Act) (v:Value),a.put none v=a)/\(∀{α:Type} (l:List α) (i:Nat) (x:α),l.toArray.setIfInBounds i x=(l.set i x).toArray)/\(∀{α:Type} (x y:α) (l:List α),(x::l).set 0 y=y::l)/\(∀{α:Type} (x y:α) (l:List α) (n:Nat),(x::l).set (n+1) y=x::l.set n y) :=
 ⟨aS,aN,aT,a0,a1⟩
end Go.Proofs.YtgiiapenmjollaaGreat
