import Derived.WalkKit
import Derived.RowKit3
import Derived.Deep.Slices
import Derived.Below
import Derived.Test.YtimjmdfokicbkaaGreatChecked
import Derived.Handy
import Derived.WalkLawsBesides
import Derived.OwnWalk
import Derived.Laws.OwnMore
import Derived.Deep.Draws
import Derived.Deep.AppendLies
import Derived.Maps.OwnSet
import Derived.DeepKeys4
import Derived.RangeFuncNested
import Derived.RangeFuncBound
import Derived.RangeFuncCalls
import Derived.RangeFuncLeaves
import Derived.RangeFuncFrom
import Derived.Shelf.Abstract
import Derived.Shelf.RegionOpen
import Derived.OwnWalkIn
import Derived.TacticsInMore
import Derived.LoopNIn
import Derived.LoopIn
namespace Go.Proofs.YtimjmdfokicbkaaGreat
set_option linter.unusedVariables false
set_option linter.unusedSimpArgs false
set_option maxHeartbeats 40000000
set_option maxRecDepth 100000
open Go.RowKit
open Go.Value (int)
open Go.IntKind (i64)
structure Ty where
 kind:Int
 cls:Int
structure Cl where
 super:Int
 fields:List Ty
structure In where
 op:Int
 a:Int
 b:Int
 c:Int
 n:Int
 args:List Int
structure Hd where
 fr:Int
 til:Int
 pc:Int
 cls:Int
structure Me where
 params:List Ty
 ret:Ty
 stack:Int
 locs:Int
 regs:Int
 code:List In
 hands:List Hd
structure Fi where
 classes:List Cl
 methods:List Me
def cL:Ty:=⟨0,0⟩
def cd:Cl:=⟨0,[]⟩
def fX:In:=⟨0,0,0,0,0,[]⟩
def eB:Hd:=⟨0,0,0,0⟩
def bM:Me:=⟨[],cL,0,0,0,[],[]⟩
def nth {α:Type} (d:α) (l:List α) (i:Nat):α:=l.getD i d
theorem bE {α:Type} {d:α} {l:List α} {i:Nat} (h:i<l.length):nth d l i∈l:=by simp [nth,List.getD,h]
theorem bP {α:Type} {d:α} {l:List α} {i:Nat} (h:i<l.length):nth d l i=l[i]:=by simp [nth,List.getD,h]
def cP (n:Int):Prop:=-9223372036854775808≤n/\n≤9223372036854775807
def dm (w:World) (A:Option Addr) (l:List Ty):Prop :=
 l.length≤maxLen/\(l.length=0∨∃b off,A=some ⟨b,off,none⟩/\∀i,i<l.length ->
  w.cell? ⟨b,off+i*2,none⟩=some (int i64 (nth cL l i).kind)/\w.cell? ⟨b,off+i*2+1,none⟩=some (int i64 (nth cL l i).cls)
  /\ cP (nth cL l i).kind/\cP (nth cL l i).cls)
def cg (w:World) (A:Option Addr) (l:List Cl):Prop :=
 l.length≤maxLen/\(l.length=0∨∃b off,A=some ⟨b,off,none⟩/\∀i,i<l.length ->
  w.cell? ⟨b,off+i*2,none⟩=some (int i64 (nth cd l i).super)/\cP (nth cd l i).super /\
  ∃A' c,w.cell? ⟨b,off+i*2+1,none⟩=some (.slice A' (nth cd l i).fields.length c)/\dm w A' (nth cd l i).fields)
def cM (w:World) (A:Option Addr) (l:List Int):Prop :=
 l.length≤maxLen/\(l.length=0∨∃b off,A=some ⟨b,off,none⟩/\∀i,i<l.length->w.cell? ⟨b,off+i,none⟩=some (int i64 (nth (0:Int) l i))/\cP (nth (0:Int) l i))
def In.ok (x:In):Prop:=cP x.op/\cP x.a/\cP x.b/\cP x.c/\cP x.n
def oI (w:World) (A:Option Addr) (l:List In):Prop :=
 l.length≤maxLen/\(l.length=0∨∃b off,A=some ⟨b,off,none⟩/\∀i,i<l.length ->
  w.cell? ⟨b,off+i*6,none⟩=some (int i64 (nth fX l i).op)/\w.cell? ⟨b,off+i*6+1,none⟩=some (int i64 (nth fX l i).a)/\w.cell? ⟨b,off+i*6+2,none⟩=some (int i64 (nth fX l i).b)
  /\ w.cell? ⟨b,off+i*6+3,none⟩=some (int i64 (nth fX l i).c)/\w.cell? ⟨b,off+i*6+4,none⟩=some (int i64 (nth fX l i).n)/\(nth fX l i).ok
  /\ ∃A' c,w.cell? ⟨b,off+i*6+5,none⟩=some (.slice A' (nth fX l i).args.length c)/\cM w A' (nth fX l i).args)
def Hd.ok (x:Hd):Prop:=cP x.fr/\cP x.til/\cP x.pc/\cP x.cls
def kP (w:World) (A:Option Addr) (l:List Hd):Prop :=
 l.length≤maxLen/\(l.length=0∨∃b off,A=some ⟨b,off,none⟩/\∀i,i<l.length ->
  w.cell? ⟨b,off+i*4,none⟩=some (int i64 (nth eB l i).fr)/\w.cell? ⟨b,off+i*4+1,none⟩=some (int i64 (nth eB l i).til)/\w.cell? ⟨b,off+i*4+2,none⟩=some (int i64 (nth eB l i).pc)
  /\ w.cell? ⟨b,off+i*4+3,none⟩=some (int i64 (nth eB l i).cls)/\(nth eB l i).ok)
def Me.ok (x:Me):Prop:=cP x.ret.kind/\cP x.ret.cls/\cP x.stack/\cP x.locs/\cP x.regs
def kX (w:World) (m:Me) (P C K:Option Addr):Prop:=dm w P m.params/\oI w C m.code/\kP w K m.hands/\m.ok
def eD (w:World) (A:Option Addr) (l:List Me):Prop :=
 l.length≤maxLen/\(l.length=0∨∃b off,A=some ⟨b,off,none⟩/\∀i,i<l.length->∃P C K p c k,
  w.cell? ⟨b,off+i*8,none⟩=some (.slice P (nth bM l i).params.length p)/\w.cell? ⟨b,off+i*8+1,none⟩=some (int i64 (nth bM l i).ret.kind)/\w.cell? ⟨b,off+i*8+2,none⟩=some (int i64 (nth bM l i).ret.cls)
  /\ w.cell? ⟨b,off+i*8+3,none⟩=some (int i64 (nth bM l i).stack)/\w.cell? ⟨b,off+i*8+4,none⟩=some (int i64 (nth bM l i).locs)/\w.cell? ⟨b,off+i*8+5,none⟩=some (int i64 (nth bM l i).regs)
  /\ w.cell? ⟨b,off+i*8+6,none⟩=some (.slice C (nth bM l i).code.length c)/\w.cell? ⟨b,off+i*8+7,none⟩=some (.slice K (nth bM l i).hands.length k)/\kX w (nth bM l i) P C K)
def Bl (w w':World):Prop:=Below w.heap.size w w'
theorem Bl.refl (w:World):Bl w w:=Below.refl _ _
section
variable {a:World}
theorem Bl.trans {b c:World} (h:Bl a b) (k:Bl b c):Bl a c:=Below.trans h (Below.mono k h.size)
theorem Bl.alloc {w:World} (h:Bl a w) (o:Obj):Bl a (w.alloc o):=Below.alloc h h.size o
theorem Bl.drew {w:World} (h:Bl a w):Bl a w.drew:=Below.drew h
theorem Bl.setCell {w:World} (h:Bl a w) {p:Addr} (hp:a.heap.size≤p.block) (u:Value):Bl a (w.setCell p u):=Below.setCell h hp u
theorem Bl.size {w:World} (h:Bl a w):a.heap.size≤w.heap.size:=Below.size h
end
theorem bt {w:World} {b o:Nat} {v:Value} (hc:w.cell? ⟨b,o,none⟩=some v):b<w.heap.size:=by
 by_cases hb:b<w.heap.size
 ·exact hb
 ·simp [World.cell?,hb] at hc
theorem ak {w:World} {cs:Array Value} {t:TypeId} {o:Nat} {v:Value} (h:cs[o]?=some v):(w.alloc (.cells cs t)).cell? ⟨w.heap.size,o,none⟩=some v:=by
 have e:(w.alloc (.cells cs t)).heap[w.heap.size]?=some (.cells cs t):=by
  show (w.heap.push _)[w.heap.size]?=_
  simp
 unfold World.cell?
 rw [e]
 simpa using h
section
variable {W w':World}
theorem Bl.cell (h:Bl W w') {b o:Nat} {v:Value} (hc:W.cell? ⟨b,o,none⟩=some v):w'.cell? ⟨b,o,none⟩=some v :=
 (Below.cell h (p:=⟨b,o,none⟩) (bt hc)).trans hc
theorem cM.bl (h:Bl W w') {A:Option Addr} {l:List Int} (hl:cM W A l):cM w' A l:=by
 refine ⟨hl.1,?_⟩
 rcases hl.2 with h0|⟨b,off,rfl,hi⟩
 ·exact Or.inl h0
 right
 exact ⟨b,off,rfl,fun i hlt=>⟨h.cell (hi i hlt).1,(hi i hlt).2⟩⟩
theorem oI.bl (h:Bl W w') {A:Option Addr} {l:List In} (hl:oI W A l):oI w' A l:=by
 refine ⟨hl.1,?_⟩
 rcases hl.2 with h0|⟨b,off,rfl,hi⟩
 ·exact Or.inl h0
 right
 refine ⟨b,off,rfl,fun i hlt=>?_⟩
 obtain ⟨h0,h1,h2,h3,h4,h5,A',c,h6,h7⟩:=hi i hlt
 exact ⟨h.cell h0,h.cell h1,h.cell h2,h.cell h3,h.cell h4,h5,A',c,h.cell h6,h7.bl h⟩
theorem kP.bl (h:Bl W w') {A:Option Addr} {l:List Hd} (hl:kP W A l):kP w' A l:=by
 refine ⟨hl.1,?_⟩
 rcases hl.2 with h0|⟨b,off,rfl,hi⟩
 ·exact Or.inl h0
 right
 refine ⟨b,off,rfl,fun i hlt=>?_⟩
 obtain ⟨h0,h1,h2,h3,h4⟩:=hi i hlt
 exact ⟨h.cell h0,h.cell h1,h.cell h2,h.cell h3,h4⟩
theorem dm.bl (h:Bl W w') {A:Option Addr} {l:List Ty} (hl:dm W A l):dm w' A l:=by
 refine ⟨hl.1,?_⟩
 rcases hl.2 with h0|⟨b,off,rfl,hi⟩
 ·exact Or.inl h0
 right
 exact ⟨b,off,rfl,fun i hlt=>⟨h.cell (hi i hlt).1,h.cell (hi i hlt).2.1,(hi i hlt).2.2⟩⟩
theorem cg.bl (h:Bl W w') {A:Option Addr} {l:List Cl} (hl:cg W A l):cg w' A l:=by
 refine ⟨hl.1,?_⟩
 rcases hl.2 with h0|⟨b,off,rfl,hi⟩
 ·exact Or.inl h0
 right
 refine ⟨b,off,rfl,fun i hlt=>⟨h.cell (hi i hlt).1,(hi i hlt).2.1,?_⟩⟩
 obtain ⟨A',c,h1,h2⟩:=(hi i hlt).2.2
 exact ⟨A',c,h.cell h1,h2.bl h⟩
theorem kX.bl (h:Bl W w') {m:Me} {P C K:Option Addr} (hl:kX W m P C K):kX w' m P C K :=
 ⟨hl.1.bl h,hl.2.1.bl h,hl.2.2.1.bl h,hl.2.2.2⟩
theorem eD.bl (h:Bl W w') {A:Option Addr} {l:List Me} (hl:eD W A l):eD w' A l:=by
 refine ⟨hl.1,?_⟩
 rcases hl.2 with h0|⟨b,off,rfl,hi⟩
 ·exact Or.inl h0
 right
 refine ⟨b,off,rfl,fun i hlt=>?_⟩
 obtain ⟨P,C,K,p,c,k,h0,h1,h2,h3,h4,h5,h6,h7,h8⟩:=hi i hlt
 exact ⟨P,C,K,p,c,k,h.cell h0,h.cell h1,h.cell h2,h.cell h3,h.cell h4,h.cell h5,h.cell h6,h.cell h7,h8.bl h⟩
end
def fO (n:Nat) (t:Ty):Bool:=decide ((t.kind=3/\0≤t.cls/\t.cls<n)∨((t.kind=1∨t.kind=2)/\t.cls=0))
def rE (l:List Cl) (i:Nat):Bool :=
 decide ((i=0∨(0≤(nth cd l i).super/\(nth cd l i).super<i))/\(nth cd l i).fields.length≤6)&&(nth cd l i).fields.all (fO l.length)
def eG (l:List Cl):Bool:=decide (4≤l.length/\l.length≤12/\(nth cd l 0).super=-1)&&(List.range l.length).all (rE l)
theorem m8 {l:List Cl} (h:l.length<4∨12<l.length∨(nth cd l 0).super≠-1):eG l=false:=by
 have:¬(4≤l.length/\l.length≤12/\(nth cd l 0).super=-1):=by omega
 unfold eG;rw [decide_eq_false this];rfl
section
variable {l:List Cl} {i:Nat}
theorem sS (hi:i<l.length) (h:rE l i=false):eG l=false:=by
 have:(List.range l.length).all (rE l)=false:=by
  rw [List.all_eq_false];exact ⟨i,by simpa using hi,by simp [h]⟩
 simp [eG,this]
theorem xZ (h:¬((i=0∨(0≤(nth cd l i).super/\(nth cd l i).super<i))/\(nth cd l i).fields.length≤6)):rE l i=false:=by
 unfold rE;rw [decide_eq_false h];rfl
theorem Oi {k:Nat} (hk:k<(nth cd l i).fields.length) (h:fO l.length (nth cL (nth cd l i).fields k)=false):rE l i=false:=by
 have:(nth cd l i).fields.all (fO l.length)=false:=by
  rw [List.all_eq_false]
  exact ⟨nth cL (nth cd l i).fields k,bE hk,by rw [h];decide⟩
 unfold rE;rw [this,Bool.and_false]
theorem Hj (h:(i=0∨(0≤(nth cd l i).super/\(nth cd l i).super<i))/\(nth cd l i).fields.length≤6) (ht:∀k,k<(nth cd l i).fields.length->fO l.length (nth cL (nth cd l i).fields k)=true):rE l i=true:=by
 have:(nth cd l i).fields.all (fO l.length)=true:=by
  generalize (nth cd l i).fields=f at ht
  rw [List.all_eq_true]
  intro x hx
  obtain ⟨k,hk,rfl⟩:=List.getElem_of_mem hx
  rw [<-bP hk];exact ht k hk
 unfold rE;rw [this,decide_eq_true h];rfl
end
theorem vH {l:List Cl} (h:4≤l.length/\l.length≤12/\(nth cd l 0).super=-1) (hc:∀i,i<l.length->rE l i=true):eG l=true:=by
 have:(List.range l.length).all (rE l)=true:=by
  rw [List.all_eq_true];intro i hi;exact hc i (by simpa using hi)
 unfold eG;rw [this,decide_eq_true h];rfl
def bX:List Ty->Nat
 | []=>0
 | t::l=>(if t.kind=2 then 2 else 1)+bX l
def mV (nc n:Nat) (h:Hd):Bool:=decide (0≤h.fr/\h.fr<h.til/\h.til≤n/\0≤h.pc/\h.pc<n/\0≤h.cls/\h.cls<nc)
def m9 (nc:Nat) (t:Ty):Bool:=decide (t.kind=0/\t.cls=0)||fO nc t
def ew (nc:Nat) (m:Me) (most:Int):Bool :=
 decide (m.params.length≤4/\m.hands.length≤8/\1≤m.code.length/\(m.code.length:Int)≤most)&&m.params.all (fO nc)&&m.hands.all (mV nc m.code.length)&&m9 nc m.ret
def bD (cs:List Cl) (nm iG:Nat) (locs:Int) (i:In):Bool :=
 decide (i.c=0/\i.args.length=0) &&
 (if i.op=1 then decide (i.a=0/\i.b=0/\-2147483648≤i.n/\i.n≤2147483647)
 else if i.op=2 then decide (i.a=0/\i.b=0)
 else decide (i.n=0) &&
  (if i.op=4∨i.op=5 then decide ((i.b=2/\0≤i.a/\i.a≤locs-2)∨((i.b=1∨i.b=3)/\0≤i.a/\i.a<locs))
  else if i.op=12 then decide (0≤i.a/\i.a<iG/\1≤i.b/\i.b≤4)
  else if i.op=15∨i.op=16 then decide (0≤i.a/\i.a<cs.length/\0≤i.b/\i.b<(nth cd cs i.a.toNat).fields.length)
  else decide (i.b=0) &&
   (if i.op=3∨i.op=8∨i.op=9∨i.op=10∨i.op=20∨i.op=21∨i.op=22∨i.op=23∨i.op=25 then decide (i.a=0)
   else if i.op=6∨i.op=7 then decide (1≤i.a/\i.a≤8)
   else if i.op=11∨i.op=13 then decide (0≤i.a/\i.a<iG)
   else if i.op=14∨i.op=17∨i.op=18 then decide (0≤i.a/\i.a<cs.length)
   else if i.op=19 then decide (0≤i.a/\i.a<nm)
   else if i.op=24 then decide (1≤i.a/\i.a≤2)
   else false)))
def eX (cs:List Cl) (nm:Nat) (m:Me):Bool :=
 ew cs.length m 400&&decide (m.regs=0/\0≤m.stack/\m.stack≤30/\(bX m.params:Int)≤m.locs/\m.locs≤60)&&m.code.all (bD cs nm m.code.length m.locs)
def bV (f:Fi):Bool:=eG f.classes&&decide (1≤f.methods.length/\f.methods.length≤8)&&f.methods.all (eX f.classes f.methods.length)
theorem lQ {α:Type} {d:α} {p:α->Bool} {l:List α} {k:Nat} (hk:k<l.length) (h:p (nth d l k)=false):l.all p=false:=by
 rw [List.all_eq_false]
 exact ⟨nth d l k,bE hk,by rw [h];decide⟩
theorem jT {α:Type} {d:α} {p:α->Bool} {l:List α} (h:∀k,k<l.length->p (nth d l k)=true):l.all p=true:=by
 rw [List.all_eq_true]
 intro x hx
 obtain ⟨k,hk,rfl⟩:=List.getElem_of_mem hx
 rw [<-bP (d:=d) hk];exact h k hk
theorem rU (l:List Ty):bX l≤2*l.length:=by
 induction l with
 | nil=>simp [bX]
 | cons t l ih=>simp only [bX,List.length_cons];split<;>omega
theorem oJ (l:List Ty) (k:Nat) (h:k<l.length):bX (l.take (k+1))=bX (l.take k)+(if (nth cL l k).kind=2 then 2 else 1):=by
 induction l generalizing k with
 | nil=>simp at h
 | cons t l ih =>
  cases k with
  | zero=>simp [bX,nth]
  | succ k =>
   have:=ih k (by simpa using h)
   have e:nth cL (t::l) (k+1)=nth cL l k:=by simp [nth]
   rw [e,List.take_succ_cons,List.take_succ_cons,bX,bX,this];omega
section
def par (l:List Cl) (c:Nat):Nat:=(nth cd l c).super.toNat
def upsF (l:List Cl):Nat->Nat->List Nat
 | 0,_=>[]
 | k+1,c=>c::if c=0 then [] else upsF l k (par l c)
def ups (l:List Cl) (c:Nat):List Nat:=upsF l (c+1) c
structure Tree (l:List Cl):Prop where
 zero:(nth cd l 0).super=-1
 up:∀c,0<c->c<l.length->0≤(nth cd l c).super/\(nth cd l c).super<c
theorem ng {l:List Cl} (h:eG l=true):Tree l/\4≤l.length/\l.length≤12:=by
 unfold eG at h
 rw [Bool.and_eq_true,decide_eq_true_eq,List.all_eq_true] at h
 refine ⟨⟨h.1.2.2,fun c h0 hc=>?_⟩,h.1.1,h.1.2.1⟩
 have:=h.2 c (by simpa using hc)
 unfold rE at this
 rw [Bool.and_eq_true,decide_eq_true_eq] at this
 rcases this.1.1 with h1|h1
 ·omega
 ·exact h1
section
variable {l:List Cl}
theorem kY (ht:Tree l) {c:Nat} (h0:0<c) (hc:c<l.length):par l c<c:=by
 have:=ht.up c h0 hc
 unfold par;omega
theorem rV (ht:Tree l) {c:Nat} (h0:0<c) (hc:c<l.length):(nth cd l c).super=(par l c:Nat):=by
 have:=ht.up c h0 hc
 unfold par;omega
theorem upsF_more (ht:Tree l) (c:Nat):∀k,c<l.length->c<k->upsF l k c=upsF l (c+1) c:=by
 induction c using Nat.strongRecOn with
 | _ c ih =>
  intro k hc hk
  obtain ⟨k,rfl⟩:∃k',k=k'+1:=⟨k-1,by omega⟩
  unfold upsF
  by_cases h0:c=0
  ·rw [if_pos h0,if_pos h0]
  ·rw [if_neg h0,if_neg h0]
   have hp:=kY ht (by omega) hc
   rw [ih _ hp k (by omega) (by omega),ih _ hp c (by omega) (by omega)]
theorem ups_zero:ups l 0=[0]:=rfl
theorem ups_step (ht:Tree l) {c:Nat} (h0:0<c) (hc:c<l.length):ups l c=c::ups l (par l c):=by
 have hp:=kY ht h0 hc
 show upsF l (c+1) c=_
 rw [upsF,if_neg (by omega),upsF_more ht _ _ (by omega) hp]
 rfl
theorem ups_head (c:Nat):c∈ups l c:=by unfold ups upsF;simp
theorem ups_le (ht:Tree l) (c:Nat) (hc:c<l.length):∀x,x∈ups l c->x≤c:=by
 induction c using Nat.strongRecOn with
 | _ c ih =>
  intro x hx
  by_cases h0:c=0
  ·subst h0;rw [ups_zero] at hx;simp at hx;omega
  ·rw [ups_step ht (by omega) hc] at hx
   have hp:=kY ht (by omega) hc
   rcases List.mem_cons.1 hx with rfl|hx
   ·exact Nat.le_refl _
   ·have:=ih _ hp (by omega) x hx;omega
theorem ups_root (ht:Tree l) (c:Nat) (hc:c<l.length):0∈ups l c:=by
 induction c using Nat.strongRecOn with
 | _ c ih =>
  by_cases h0:c=0
  ·subst h0;exact ups_head 0
  ·rw [ups_step ht (by omega) hc]
   have hp:=kY ht (by omega) hc
   exact List.mem_cons_of_mem _ (ih _ hp (by omega))
theorem ups_pair (ht:Tree l) (c:Nat) (hc:c<l.length):(ups l c).Pairwise (fun x y=>y<x):=by
 induction c using Nat.strongRecOn with
 | _ c ih =>
  by_cases h0:c=0
  ·subst h0;rw [ups_zero];simp
  ·rw [ups_step ht (by omega) hc]
   have hp:=kY ht (by omega) hc
   refine List.Pairwise.cons (fun y hy=>?_) (ih _ hp (by omega))
   have:=ups_le ht _ (by omega) y hy;omega
theorem ups_mid (ht:Tree l) {j e:Nat} (c:Nat) (hc:c<l.length) (hj:j∈ups l c):e∈ups l j↔e∈ups l c/\e≤j:=by
 induction c using Nat.strongRecOn with
 | _ c ih =>
  by_cases h0:c=0
  ·subst h0;rw [ups_zero] at hj;simp at hj;subst hj
   rw [ups_zero];simp
  ·have hp:=kY ht (by omega) hc
   have hs:=ups_step ht (by omega) hc
   rw [hs] at hj
   rcases List.mem_cons.1 hj with rfl|hj
   ·exact ⟨fun h=>⟨h,ups_le ht _ hc _ h⟩,fun h=>h.1⟩
   ·have hle:=ups_le ht _ (by omega) _ hj
    rw [ih _ hp (by omega) hj,hs,List.mem_cons]
    constructor
    ·rintro ⟨h1,h2⟩;exact ⟨.inr h1,h2⟩
    ·rintro ⟨h1|h1,h2⟩
     ·omega
     ·exact ⟨h1,h2⟩
def ja (l:List Cl) (c d j:Nat):Prop:=j∈ups l c/\j∈ups l d/\∀x,x∈ups l c->x∈ups l d->x≤j
theorem ja.one {c d i j:Nat} (h:ja l c d i) (k:ja l c d j):i=j :=
 Nat.le_antisymm (k.2.2 _ h.1 h.2.1) (h.2.2 _ k.1 k.2.1)
theorem ja.symm {c d i:Nat} (h:ja l c d i):ja l d c i:=⟨h.2.1,h.1,fun x a b=>h.2.2 x b a⟩
theorem vI (ht:Tree l) {c d j:Nat} (hc:c<l.length) {pre post:List Nat} (hu:ups l c=pre++j::post) (hp:∀x∈pre,x∉ups l d) (hj:j∈ups l d):ja l c d j:=by
 refine ⟨by rw [hu];simp,hj,fun x hx VH=>?_⟩
 have Rj:=ups_pair ht c hc
 rw [hu] at hx Rj
 rcases List.mem_append.1 hx with hx|hx
 ·exact absurd VH (hp x hx)
 ·rcases List.mem_cons.1 hx with rfl|hx
  ·exact Nat.le_refl _
  ·have:=(List.pairwise_append.1 Rj).2.1
   have:=(List.pairwise_cons.1 this).1 x hx
   omega
def zv (l:List Cl) (c d:Nat):Nat:=((ups l c).filter (fun x=>decide (x∈ups l d))).foldl max 0
theorem most {j:Nat}:∀(L:List Nat) (a:Nat),a≤j->(∀x∈L,x≤j)->(j=a∨j∈L)->L.foldl max a=j
 | [],a,_,_,h=>by
  rcases h with h|h
  ·exact h.symm
  ·cases h
 | x::L,a,ha,hL,h=>by
  have hx:=hL x (by simp)
  refine most L (max a x) (by omega) (fun y hy=>hL y (List.mem_cons_of_mem _ hy)) ?_
  rcases h with h|h
  ·left;omega
  ·rcases List.mem_cons.1 h with h|h
   ·left;omega
   ·exact Or.inr h
theorem zw {c d j:Nat} (h:ja l c d j):zv l c d=j:=by
 refine most _ _ (Nat.zero_le _) (fun x hx=>?_) (Or.inr ?_)
 ·rw [List.mem_filter,decide_eq_true_eq] at hx
  exact h.2.2 x hx.1 hx.2
 ·rw [List.mem_filter,decide_eq_true_eq]
  exact ⟨h.1,h.2.1⟩
theorem LO (ht:Tree l) (c d:Nat) (hc:c<l.length) (hd:d<l.length):ja l c d (zv l c d):=by
 suffices h:∃j,ja l c d j by obtain ⟨j,h⟩:=h;rw [zw h];exact h
 have key:∀(post pre:List Nat),ups l c=pre++post->(∀x∈pre,x∉ups l d)->0∈post->∃j,ja l c d j:=by
  intro post
  induction post with
  | nil=>intro pre _ _ h;simp at h
  | cons x post ih =>
   intro pre hu hp h0
   by_cases hx:x∈ups l d
   ·exact ⟨x,vI ht hc hu hp hx⟩
   ·rcases List.mem_cons.1 h0 with rfl|h0
    ·exact absurd (ups_root ht d hd) hx
    ·refine ih (pre++[x]) (by simp [hu]) ?_ h0
     intro y hy
     rcases List.mem_append.1 hy with hy|hy
     ·exact hp y hy
     ·simp at hy;subst hy;exact hx
 exact key _ [] rfl (by simp) (ups_root ht c hc)
def fI (l:List Cl) (c d:Nat):Bool:=decide (d∈ups l c)
theorem pB {c d:Nat}:fI l c d=true↔d∈ups l c:=by unfold fI;simp
theorem Ds (c:Nat):fI l c c=true:=pB.2 (ups_head c)
theorem Dt (ht:Tree l) {c d:Nat} (hc:c<l.length) (hd:d<c):fI l c d=fI l (par l c) d:=by
 unfold fI
 rw [ups_step ht (by omega) hc]
 have:d≠c:=by omega
 simp [this]
theorem Hl (ht:Tree l) {c d:Nat} (hc:c<l.length) (hd:c<d):fI l c d=false:=by
 unfold fI
 rw [decide_eq_false_iff_not]
 intro h;have:=ups_le ht _ hc _ h;omega
def jU (l:List Cl) (c d:Int):Bool:=decide (0≤c/\c<l.length/\0≤d/\d<l.length)
def Dv (l:List Cl) (c d:Int):Bool:=eG l&&jU l c d&&fI l c.toNat d.toNat
def KI (l:List Cl) (c d:Int):Int:=if (eG l&&jU l c d)=true then (zv l c.toNat d.toNat:Nat) else -1
end
end
section
open Go.RowKit (wrap32 wrap64)
section
variable (a:Int)
theorem xu:-2147483648≤wrap32 a/\wrap32 a≤2147483647:=by unfold wrap32;omega
theorem LQ:-9223372036854775808≤wrap64 a/\wrap64 a≤9223372036854775807:=by unfold wrap64;omega
theorem Qj:wrap32 (wrap32 a)=wrap32 a:=by unfold wrap32;omega
theorem Hm:wrap64 (wrap32 a)=wrap32 a:=by unfold wrap64 wrap32;omega
theorem Qk:wrap64 (wrap64 a)=wrap64 a:=by unfold wrap64;omega
end
theorem Dw {a:Int} (h:-9223372036854775808≤a) (h':a≤9223372036854775807):wrap64 a=a:=by unfold wrap64;omega
theorem zx (a b:Int):wrap64 (wrap64 a+wrap64 b)=wrap64 (a+b):=by unfold wrap64;omega
theorem Dx (a b:Int):wrap64 (wrap64 a+b)=wrap64 (a+b):=by unfold wrap64;omega
theorem AQ {a b:Int} (k:Int) (h:a=b+18446744073709551616*k):wrap64 a=wrap64 b:=by unfold wrap64;omega
section
variable (a:Int)
theorem zy (b:Int):wrap64 (wrap64 a*b)=wrap64 (a*b):=by
 have h:wrap64 a=a+18446744073709551616*(-((a+9223372036854775808)/18446744073709551616)):=by unfold wrap64;omega
 rw [h,Int.add_mul,Int.mul_assoc]
 exact AQ _ rfl
theorem LR:a.tdiv 0=0:=Int.tdiv_zero a
theorem gV (b:Int):a.tdiv b*b+a.tmod b=a:=Int.tdiv_mul_add_tmod a b
theorem Oj (b:Int) (h:-9223372036854775808≤a) (h':a≤9223372036854775807) :
  wrap64 (wrap64 (wrap64 (a.tdiv b)*b)+a.tmod b)=a:=by
 rw [zy,Dx,gV,Dw h h']
theorem rX (b:Int):a.tmod b=0∨(a.tmod b<0↔a<0):=by
 rcases Int.lt_trichotomy a 0 with h|h|h
 ·have h1:0≤(-a).tmod b:=Int.tmod_nonneg _ (by omega)
  rw [Int.neg_tmod] at h1
  omega
 ·subst h;left;simp
 ·have:0≤a.tmod b:=Int.tmod_nonneg _ (by omega)
  omega
theorem Hn (b:Int) (h:-9223372036854775808≤a) (h':a≤9223372036854775807):-9223372036854775808≤a.tmod b/\a.tmod b≤9223372036854775807:=by
 have h1:=Int.natAbs_tmod a b
 have h2:(a.tmod b).natAbs≤a.natAbs:=by rw [h1];exact Nat.mod_le _ _
 have:=rX a b
 omega
theorem LS:(wrap64 (a-wrap32 a)).tmod 4294967296=0:=by
 have h:(4294967296:Int) ∣ wrap64 (a-wrap32 a):=⟨wrap64 (a-wrap32 a)/4294967296,by unfold wrap64 wrap32;omega⟩
 exact Int.tmod_eq_zero_of_dvd h
theorem x8 :
  (a.tmod 4294967296<0->a.tmod 4294967296+4294967296≥2147483648->wrap32 a=a.tmod 4294967296+4294967296-4294967296)
  /\ (a.tmod 4294967296<0->a.tmod 4294967296+4294967296<2147483648->wrap32 a=a.tmod 4294967296+4294967296)
  /\ (0≤a.tmod 4294967296->a.tmod 4294967296≥2147483648->wrap32 a=a.tmod 4294967296-4294967296)
  /\ (0≤a.tmod 4294967296->a.tmod 4294967296<2147483648->wrap32 a=a.tmod 4294967296):=by
 have h1:=gV a 4294967296
 have h2:a.tmod 4294967296<4294967296:=Int.tmod_lt_of_pos _ (by omega)
 have h3:-4294967296<a.tmod 4294967296:=by
  have:=Int.lt_tmod_of_pos a (b:=4294967296) (by omega);omega
 unfold wrap32
 refine ⟨?_,?_,?_,?_⟩<;>intros<;>omega
theorem AR:-4294967295≤a.tmod 4294967296/\a.tmod 4294967296≤4294967295:=by
 have h2:a.tmod 4294967296<4294967296:=Int.tmod_lt_of_pos _ (by omega)
 have h3:-4294967296<a.tmod 4294967296:=by
  have:=Int.lt_tmod_of_pos a (b:=4294967296) (by omega);omega
 omega
end
def fA (n:Int) (k:Nat):Bool:=decide (n/2 ^ k%2=1)
theorem KJ (n:Int):(0≤n.tmod 2->n.tmod 2=n%2)/\(n.tmod 2<0->n.tmod 2+2=n%2/\n%2=1)/\-1≤n.tmod 2/\n.tmod 2≤1:=by
 have h1:=gV n 2
 have h2:n.tmod 2<2:=Int.tmod_lt_of_pos _ (by omega)
 have h3:-2<n.tmod 2:=by
  have:=Int.lt_tmod_of_pos n (b:=2) (by omega);omega
 omega
theorem AU (n:Int):(n-n%2).tdiv 2=n/2:=by
 have:n-n%2=2*(n/2):=by omega
 rw [this,Int.mul_tdiv_cancel_left _ (by omega)]
theorem sT (a:Int) (k:Nat):a/2 ^ (k+1)=a/2 ^ k/2:=by
 rw [Int.pow_succ,Int.ediv_ediv_of_nonneg (Int.le_of_lt (Int.pow_pos (by omega)))]
def iv (f:Nat->Bool):Nat->Nat
 | 0=>0
 | k+1=>iv f k+if f k then 2 ^ k else 0
theorem pK {f g:Nat->Bool}:∀k,(∀i,i<k->f i=g i)->iv f k=iv g k
 | 0,_=>rfl
 | k+1,h=>by
  have:=pK k (fun i hi=>h i (by omega))
  simp only [iv];rw [this,h k (by omega)]
theorem nh (x:Nat):∀k,iv (fun i=>x.testBit i) k=x%2 ^ k
 | 0=>by simp [iv,Nat.mod_one]
 | k+1=>by
  simp only [iv]
  rw [nh x k,Nat.mod_pow_succ]
  have hb:x.testBit k=decide (x/2 ^ k%2=1):=Nat.testBit_eq_decide_div_mod_eq
  have:x/2 ^ k%2<2:=Nat.mod_lt _ (by omega)
  by_cases h:x/2 ^ k%2=1
  ·simp [hb,h]
  ·have:x/2 ^ k%2=0:=by omega
   simp [hb,this]
theorem AV (i:Nat) (h:i<64):(2:Int) ^ 64=2 ^ i*(2*2 ^ (63-i)):=by
 rw [<-Int.mul_assoc,<-Int.pow_succ,<-Int.pow_add];congr 1;omega
theorem mm (a:Int) (i:Nat) (h:i<64):(BitVec.ofInt 64 a).toNat.testBit i=fA a i:=by
 rw [BitVec.toNat_ofInt,Nat.testBit_eq_decide_div_mod_eq]
 unfold fA
 have hm:(0:Int)≤a%((2 ^ 64:Nat):Int):=Int.emod_nonneg _ (by decide)
 have hc:(((a%((2 ^ 64:Nat):Int)).toNat/2 ^ i%2:Nat):Int)=a/2 ^ i%2:=by
  rw [Int.natCast_emod,Int.natCast_ediv,Int.toNat_of_nonneg hm,Int.natCast_pow]
  have hp:(0:Int)<2 ^ i:=Int.pow_pos (by omega)
  have he:a=a%((2 ^ 64:Nat):Int)+2 ^ i*(2*2 ^ (63-i)*(a/((2 ^ 64:Nat):Int))):=by
   have hs:=AV i h
   have hd:=Int.emod_add_mul_ediv a ((2 ^ 64:Nat):Int)
   rw [<-Int.mul_assoc,<-hs]
   have VI:(((2 ^ 64:Nat):Int))=(2:Int) ^ 64:=by decide
   rw [VI] at hd ⊢
   exact hd.symm
  conv=>rhs;rw [he]
  rw [Int.add_mul_ediv_left _ _ (by omega),Int.mul_assoc]
  simp
 have:((a%((2 ^ 64:Nat):Int)).toNat/2 ^ i%2=1)↔(a/2 ^ i%2=1):=by omega
 exact decide_eq_decide.mpr this
def AW (op:Int) (x y:Bool):Bool:=(decide (op=6)&&(x&&y))||(decide (op=7)&&(x||y))||(decide (op=8)&&(x !=y))
theorem pL (f:Bool->Bool->Bool) (a b:Int) (r:BitVec 64)
  (h:∀i,i<64->r.toNat.testBit i=f ((BitVec.ofInt 64 a).toNat.testBit i) ((BitVec.ofInt 64 b).toNat.testBit i)) :
  IntKind.i64.wrap (r.toNat:Int)=wrap64 (iv (fun i=>f (fA a i) (fA b i)) 64:Nat):=by
 have hs:iv (fun i=>f (fA a i) (fA b i)) 64=r.toNat:=by
  rw [<-Nat.mod_eq_of_lt r.isLt,<-nh]
  refine pK _ fun i hi=>?_
  rw [h i hi,mm _ _ hi,mm _ _ hi]
 rw [hs];exact IntWalk.i64_left _
theorem Dy (a b:Int):bits .and .i64 a b=wrap64 (iv (fun i=>fA a i&&fA b i) 64:Nat) :=
 pL (fun x y=>x&&y) a b _ fun i _=>by
  show (BitVec.ofInt 64 a &&& BitVec.ofInt 64 b).toNat.testBit i=_
  rw [BitVec.toNat_and,Nat.testBit_and]
theorem Ho (a b:Int):bits .or .i64 a b=wrap64 (iv (fun i=>fA a i||fA b i) 64:Nat) :=
 pL (fun x y=>x||y) a b _ fun i _=>by
  show (BitVec.ofInt 64 a ||| BitVec.ofInt 64 b).toNat.testBit i=_
  rw [BitVec.toNat_or,Nat.testBit_or]
theorem Dz (a b:Int):bits .xor .i64 a b=wrap64 (iv (fun i=>fA a i !=fA b i) 64:Nat) :=
 pL (fun x y=>x !=y) a b _ fun i _=>by
  show (BitVec.ofInt 64 a ^^^ BitVec.ofInt 64 b).toNat.testBit i=_
  rw [BitVec.toNat_xor,Nat.testBit_xor]
def dE (op a b:Int):Int :=
 if op=1 then wrap64 (a+b) else if op=2 then wrap64 (a-b) else if op=3 then wrap64 (a*b)
 else if op=4 then (if b=0 then 0 else wrap64 (a.tdiv b)) else if op=5 then (if b=0 then 0 else a.tmod b)
 else if op=6∨op=7∨op=8 then wrap64 (iv (fun i=>AW op (fA a i) (fA b i)) 64:Nat) else 0
def ey (op b:Int):Bool:=decide (1≤op/\op≤8/\¬(b=0/\(op=4∨op=5)))
def ma (a b:Int):Int:=if a<b then -1 else if b<a then 1 else 0
def jb (c a:Int):Bool:=(decide (c=1)&&decide (a=0))||(decide (c=2)&&decide (a<0))||(decide (c=3)&&decide (a≠0))||(decide (c=4)&&decide (0<a))
theorem Hq (a b:Int):dE 6 a b=bits .and .i64 a b:=by rw [Dy];simp [dE,AW]
theorem LU (a b:Int):dE 7 a b=bits .or .i64 a b:=by rw [Ho];simp [dE,AW]
theorem Hr (a b:Int):dE 8 a b=bits .xor .i64 a b:=by rw [Dz];simp [dE,AW]
end
structure Va where
 kind:Int
 n:Int
structure ph where
 cls:Int
 fld:Int
 v:Va
structure Ob where
 cls:Int
 held:List ph
structure Sh where
 fin:Int
 value:Int
 cls:Int
 out:List Int
 used:Int
 steps:Int
structure Hp where
 file:Fi
 objs:List Ob
 input:List Int
 calls:Int
 fuel:Int
 sh:Sh
 over:Bool
 thrown:Int
def ag:Va:=⟨0,0⟩
def cG:ph:=⟨0,0,ag⟩
def cA:Ob:=⟨0,[]⟩
def Hp.fin (h:Hp) (how:Int):Hp:=if h.over=true then h else { h with over:=true,sh:={ h.sh with fin:=how } }
def Hp.stops (h:Hp):Bool:=h.over||decide (0≤h.thrown)
def Hp.must (h:Hp) (b:Bool):Hp:=if b=true then h else h.fin 6
def Hp.mustB (h:Hp) (b:Bool):Bool:=b&&!h.over
def jc (t:Ty):Va:=⟨t.kind,if t.kind=3 then -1 else 0⟩
def iw (cs:List Cl) (c d:Nat):List ph :=
 if fI cs c d=true then (List.range (nth cd cs d).fields.length).map (fun k=>⟨(d:Nat),(k:Nat),jc (nth cL (nth cd cs d).fields k)⟩) else []
def dz (cs:List Cl) (c:Nat):List ph:=(List.range cs.length).flatMap (iw cs c)
def Hp.full (h:Hp):Bool:=decide (100≤h.objs.length)
def Hp.new (h:Hp) (c:Int):Hp:=if h.full=true then h.fin 4 else { h with objs:=h.objs++[⟨c,dz h.file.classes c.toNat⟩] }
def Hp.newV (h:Hp):Va:=if h.full=true then ag else ⟨3,(h.objs.length:Nat)⟩
def Hp.raise (h:Hp) (c:Int):Hp:=if (h.new c).over=true then h.new c else { h.new c with thrown:=h.newV.n }
def gj (cs:List Cl) (x y:Int):Bool:=jU cs x y&&fI cs x.toNat y.toNat
def Hp.obj (h:Hp) (n:Int):Ob:=nth cA h.objs n.toNat
def Hp.of (h:Hp) (v:Va) (t:Ty):Bool :=
 decide (v.kind=t.kind)&&(decide (t.kind≠3)||(decide (v.n<0)||gj h.file.classes (h.obj v.n).cls t.cls))
def isRef (v:Va):Bool:=decide (v.kind=3)
def Hp.throw (h:Hp) (v:Va):Hp :=
 if h.mustB (isRef v)=true then (if v.n<0 then h.raise 1 else { h with thrown:=v.n }) else h.must (isRef v)
def fJ (l:List ph) (c k:Int):Int:=match l.findIdx? (fun x=>decide (x.cls=c/\x.fld=k)) with
 | some i=>(i:Nat)
 | none=>-1
def Hp.findH (h:Hp) (r:Va) (c:Int):Hp :=
 if h.mustB (h.of r ⟨3,c⟩)=true then (if r.n<0 then h.raise 1 else h) else h.must (h.of r ⟨3,c⟩)
def Hp.findN (h:Hp) (r:Va) (c k:Int):Int :=
 if h.mustB (h.of r ⟨3,c⟩)=true then (if r.n<0 then -1 else fJ (h.obj r.n).held c k) else -1
def Hp.getV (h:Hp) (r:Va) (c k:Int):Va :=
 if h.findN r c k<0 then ag else (nth cG (h.obj r.n).held (h.findN r c k).toNat).v
def Hp.setV (h:Hp) (n:Nat) (j:Nat) (v:Va):Hp :=
 { h with objs:=h.objs.set n { nth cA h.objs n with held:=(nth cA h.objs n).held.set j { nth cG (nth cA h.objs n).held j with v:=v } } }
def dW (cs:List Cl) (c k:Int):Ty:=nth cL (nth cd cs c.toNat).fields k.toNat
def Hp.put (h:Hp) (r:Va) (c k:Int) (v:Va):Hp :=
 if h.mustB (h.of v (dW h.file.classes c k))=true then (if h.findN r c k<0 then h.findH r c else (h.findH r c).setV r.n.toNat (h.findN r c k).toNat v)
 else h.must (h.of v (dW h.file.classes c k))
def Hp.cast (h:Hp) (v:Va) (c:Int):Hp :=
 if h.mustB (isRef v)=true then (if h.of v ⟨3,c⟩=true then h else h.raise 3) else h.must (isRef v)
def Hp.isV (h:Hp) (v:Va) (c:Int):Va :=
 ⟨1,if (h.mustB (isRef v)&&(decide (0≤v.n)&&gj h.file.classes (h.obj v.n).cls c))=true then 1 else 0⟩
def ct (a b:Va) (k:Int):Bool:=decide (a.kind=k)&&decide (b.kind=k)
def Hp.emit (h:Hp) (v:Va) (k:Int):Hp :=
 if h.mustB (decide (v.kind=k))=true then { h with sh:={ h.sh with out:=h.sh.out++[v.n] } } else h.must (decide (v.kind=k))
def Hp.dry (h:Hp):Bool:=decide ((h.input.length:Int)≤h.sh.used)
def Hp.input' (h:Hp):Hp:=if h.dry=true then h.fin 3 else { h with sh:={ h.sh with used:=h.sh.used+1 } }
def Hp.inV (h:Hp):Va:=if h.dry=true then ag else ⟨2,nth (0:Int) h.input h.sh.used.toNat⟩
def Hp.step (h:Hp):Hp:=if h.over=true then h else if h.fuel≤h.sh.steps then h.fin 0 else { h with sh:={ h.sh with steps:=h.sh.steps+1 } }
def Hp.stepB (h:Hp):Bool:=!h.over&&decide (h.sh.steps<h.fuel)
def cE (l:List Va) (a:Nat):List Va :=
 if (nth ag l a).kind=9 then (l.set (a-1) ag).set a ag else if (nth ag l a).kind=2 then (l.set (a+1) ag).set a ag else l.set a ag
def eu (l:List Va) (a:Nat) (v:Va):List Va :=
 if v.kind=2 then (((cE (cE l a) (a+1)).set (a+1) ⟨9,0⟩).set a v) else (cE l a).set a v
def aP:List Va->Nat
 | []=>0
 | v::l=>(if v.kind=2 then 2 else 1)+aP l
theorem dX {h:Hp} {b:Bool} (hm:h.mustB b=true):b=true/\h.over=false/\h.must b=h:=by
 unfold Hp.mustB at hm
 simp at hm
 refine ⟨hm.1,hm.2,?_⟩
 unfold Hp.must;rw [if_pos hm.1]
theorem mD {h:Hp} {r:Va} {c:Int} (ho:h.of r ⟨3,c⟩=true):r.kind=3:=by
 unfold Hp.of at ho
 simp at ho
 exact ho.1
theorem rY (l:List ph) (c k:Int):fJ l c k=-1∨∃q:Nat,q<l.length/\fJ l c k=q:=by
 unfold fJ
 cases h:l.findIdx? (fun x=>decide (x.cls=c/\x.fld=k)) with
 | none=>exact Or.inl rfl
 | some i =>
  rw [List.findIdx?_eq_some_iff_getElem] at h
  exact Or.inr ⟨i,h.1,rfl⟩
theorem fe {α:Type} {d:α} {l:List α} {n:Nat} {x:α} (h:n<l.length):nth d (l.set n x) n=x:=by simp [nth,List.getD,h]
theorem dY {α:Type} {d:α} {l:List α} {n i:Nat} {x:α} (h:n≠i):nth d (l.set n x) i=nth d l i:=by simp [nth,List.getD,List.getElem?_set_ne h]
theorem fS (l:List Va) (a:Nat):(cE l a).length=l.length:=by unfold cE;split<;>(try split)<;>simp
theorem fT (l:List Va) (a:Nat) (v:Va):(eu l a v).length=l.length:=by unfold eu;split<;>simp [fS]
theorem lR {x y:Int} (h:x=y):Ending.returned (int i64 x)=.returned (int i64 y):=by rw [h]
theorem aj {x y:Bool} (h:x=y):Ending.returned (.bool x)=.returned (.bool y):=by rw [h]
theorem iT (A:Option Addr) (n c:Nat) (k x:Int) (w:World) :
  Calls Tryz.prog 50 #[.slice A n c,.agg #[int i64 k,int i64 x]] w fun e w'=>e=.returned (.bool (fO n ⟨k,x⟩))/\Bl w w':=by
 by_cases h3:k=3
 ·subst h3
  go_enter Tryz.func50,Tryz.ntmps50
  go_wp2
  all_goals
   go_ret
   refine ⟨aj ?_,(Bl.refl _).alloc _⟩
   unfold fO
   rw [Bool.eq_iff_iff];simp;omega
 ·go_enter Tryz.func50,Tryz.ntmps50
  go_wp2
  all_goals
   go_ret
   refine ⟨aj ?_,(Bl.refl _).alloc _⟩
   unfold fO
   rw [Bool.eq_iff_iff];simp;omega
theorem pM (A:Option Addr) (c:Nat) (l:List Cl) (w:World) (hl:cg w A l) :
  Calls Tryz.prog 19 #[.slice A l.length c] w fun e w'=>e=.returned (.bool (eG l))/\Bl w w':=by
 obtain ⟨hm,hl⟩:=hl
 unfold maxLen at hm
 by_cases h4:l.length<4
 ·have hb:=m8 (Or.inl h4)
  rw [hb]
  clear hb hl
  go_enter Tryz.func19,Tryz.ntmps19
  go_wp2
  go_ret
  exact ⟨rfl,Bl.refl _⟩
 by_cases pN:12<l.length
 ·have hb:=m8 (Or.inr (Or.inl pN))
  rw [hb]
  clear hb hl
  go_enter Tryz.func19,Tryz.ntmps19
  go_wp2
  go_ret
  exact ⟨rfl,Bl.refl _⟩
 rcases hl with hl|⟨b,off,rfl,hc⟩
 ·omega
 have hs0:=(hc 0 (by omega)).1
 rw [Nat.zero_mul,Nat.add_zero] at hs0
 by_cases h0:(nth cd l 0).super=-1
 ·rw [h0] at hs0
  have HB:Hid ((∀i,i<l.length->rE l i=true)->eG l=true):=fun h=>vH ⟨by omega,by omega,h0⟩ h
  go_enter Tryz.func19,Tryz.ntmps19
  go_wp2
  go_loopw [4] (fun i wr=>∃k:Nat,k≤l.length/\i=int i64 k/\Hid (∀j,j<k->rE l j=true)/\Hid (Bl w wr)) (fun i _=>l.length-(intOf i).toNat)
  case atStart=>exact ⟨0,Nat.zero_le _,rfl,fun j hj=>absurd hj (Nat.not_lt_zero _),Bl.refl _⟩
  case round =>
   obtain ⟨k,hk,rfl,vJ,hg⟩:=hrel
   clear hs0 h0
   by_cases hlt:k<l.length
   ·obtain ⟨pO,Ht,A',c',jB,hty⟩:=hc k hlt
    replace pO:=Bl.cell hg.out pO
    replace jB:=Bl.cell hg.out jB
    replace hty:=dm.bl hg.out hty
    have kv:Hid (¬((k=0∨(0≤(nth cd l k).super/\(nth cd l k).super<k))/\(nth cd l k).fields.length≤6)->eG l=false):=fun h=>sS hlt (xZ h)
    have Ok:Hid (∀q,q<(nth cd l k).fields.length->fO l.length (nth cL (nth cd l k).fields q)=false->eG l=false):=fun q hq h=>sS hlt (Oi hq h)
    have DB:Hid (((k=0∨(0≤(nth cd l k).super/\(nth cd l k).super<k))/\(nth cd l k).fields.length≤6)->(∀q,q<(nth cd l k).fields.length->fO l.length (nth cL (nth cd l k).fields q)=true)->rE l k=true):=Hj
    clear hc HB
    obtain ⟨KK,hty⟩:=hty
    unfold maxLen at KK
    generalize hS:(nth cd l k).super=S at *
    generalize hF:(nth cd l k).fields=F at *
    clear hS hF
    go_wp2
    all_goals first
     | (go_ret;exact ⟨aj (kv.out (by omega)).symm,hg.out⟩)
     | skip
    all_goals
     have HK:Hid ((∀q,q<F.length->fO l.length (nth cL F q)=true)->rE l k=true):=DB.out (by omega)
     go_loopw [5] (fun i wr=>∃q:Nat,q≤F.length/\i=int i64 q/\Hid (∀j,j<q->fO l.length (nth cL F j)=true)/\Hid (Bl w wr)/\wr.cell? ⟨b,off+k*2+1,none⟩=some (.slice A' F.length c')/\Hid (dm wr A' F)) (fun i _=>F.length-(intOf i).toNat)
     case atStart=>exact ⟨0,Nat.zero_le _,rfl,fun j hj=>absurd hj (Nat.not_lt_zero _),hg,jB,⟨KK,hty⟩⟩
     case round =>
      clear pO jB hty hg
      obtain ⟨q,hq,rfl,mE,hg,jB,hty⟩:=hrel
      by_cases eQ:q<F.length
      ·rcases hty.out.2 with h0|⟨b',gp,rfl,hcell⟩
       ·omega
       obtain ⟨KL,Ol,-,-⟩:=hcell q eQ
       clear hcell
       cases hT:fO l.length (nth cL F q)
       ·have LV:fO l.length ⟨(nth cL F q).kind,(nth cL F q).cls⟩=false:=hT
        have HF:=Ok.out q eQ hT
        clear Ok hT
        go_wp2_with (go_at_call 50;refine (iT _ _ _ _ _ _).mono ?_;rintro e w1 ⟨rfl,iH⟩)
        go_ret
        exact ⟨aj HF.symm,Bl.trans hg.out iH⟩
       ·have LV:fO l.length ⟨(nth cL F q).kind,(nth cL F q).cls⟩=true:=hT
        have HT:Hid (fO l.length (nth cL F q)=true):=hT
        clear hT
        go_wp2_with (go_at_call 50;refine (iT _ _ _ _ _ _).mono ?_;rintro e w1 ⟨rfl,iH⟩)
        go_roundw
        case rel=>exact ⟨q+1,by omega,by go_num,fun j hj=>if h:j<q then mE.out j h else by have:j=q:=(by omega);subst this;exact HT.out,Bl.trans hg.out iH,Bl.cell iH jB,dm.bl iH hty.out⟩
        case measure=>simp [intOf];omega
      ·have hkk:q=F.length:=by omega
       subst hkk
       have VJ:Hid (rE l k=true):=HK.out mE.out
       go_wp2
       go_roundw
       case rel=>exact ⟨k+1,by omega,by go_num,fun j hj=>if h:j<k then vJ.out j h else by have:j=k:=(by omega);subst this;exact VJ.out,hg⟩
       case measure=>simp [intOf];omega
   ·have hkk:k=l.length:=by omega
    subst hkk
    have DC:=HB.out vJ.out
    clear HB hc
    go_wp2
    go_ret
    exact ⟨aj DC.symm,hg.out⟩
 ·have hb:=m8 (Or.inr (Or.inr h0))
  rw [hb]
  clear hb hc
  have Rk:((nth cd l 0).super !=-1)=true:=by simpa using h0
  go_enter Tryz.func19,Tryz.ntmps19
  go_wp2
  go_ret
  exact ⟨rfl,Bl.refl _⟩
abbrev aV (how k n:Int):Ending:=.panicked [{ v:=.iface 100 (.agg #[int i64 how,int i64 k,int i64 n]),recovered:=false }]
abbrev cn (v:Va):Value:=.agg #[int i64 v.kind,int i64 v.n]
theorem bH:(Tryz.prog.info? 98).map (·.size)=some 2:=by kernel_rfl
theorem Rl {w:World} {b:Nat} {cs:Array Value} {t:TypeId} (hb:b=w.heap.size):(w.alloc (.cells cs t)).heap[b]?=some (.cells cs t (0,0)):=by
 subst hb
 show (w.heap.push _)[w.heap.size]?=_
 simp
theorem kZ (how:Int) (w:World):Calls Tryz.prog 101 #[int i64 how] w fun e w'=>e=aV how 0 0/\w'=w:=by
 go_enter Tryz.func101,Tryz.ntmps101
 go_wp2
 exact ⟨rfl,rfl,rfl⟩
theorem jd (w:World):Calls Tryz.prog 88 #[] w fun e w'=>e=aV 6 0 0/\w'=w:=by
 go_enter Tryz.func88,Tryz.ntmps88
 go_wp2_with (go_at_call 101;refine (kZ 6 _).mono ?_;rintro e w1 ⟨rfl,hw⟩;rw [hw];clear hw w1)
 exact ⟨rfl,rfl,rfl⟩
section
variable (v:Va) (k:Int) (w:World)
theorem eI (h:v.kind=k):Calls Tryz.prog 154 #[cn v,int i64 k] w fun e w'=>e=.returned (cn v)/\Bl w w':=by
 subst h
 go_enter Tryz.func154,Tryz.ntmps154
 go_wp2
 refine bodyPost_ret (results_cell_row rfl _ _ (w.heap.size+1) _ _ _ _ rfl (Rl (by simp)) Tryz.underlying98 rfl bH) rfl ?_
 exact ⟨rfl,((Bl.refl w).alloc _).alloc _⟩
theorem lS (h:v.kind≠k):Calls Tryz.prog 154 #[cn v,int i64 k] w fun e w'=>e=aV 6 0 0/\Bl w w':=by
 have hz:(v.kind !=k)=true:=by simpa using h
 go_enter Tryz.func154,Tryz.ntmps154
 go_wp2_with (go_at_call 88;refine (jd _).mono ?_;rintro e w1 ⟨rfl,hw⟩;rw [hw];clear hw w1)
 exact ⟨rfl,rfl,((Bl.refl w).alloc _).alloc _⟩
end
section
variable {w:World} {b:Nat}
theorem af {o:Obj} (h:w.heap[b]?=some o):b<w.heap.size:=by
 by_cases hb:b<w.heap.size
 ·exact hb
 ·simp [hb] at h
theorem ax {i:Nat} {cs:Array Value} {t:TypeId} {f:Nat×Nat} (h:w.heap[b]?=some (.cells cs t f)) (v:Value) :
  (w.setCell ⟨b,i,none⟩ v).heap[b]?=some (.cells (cs.setIfInBounds i v) t f):=by
 simp [World.setCell,Array.getElem?_modify,h]
theorem aA {b' i:Nat} {s:Option _} (hb:b'≠b) (v:Value):(w.setCell ⟨b,i,s⟩ v).heap[b']?=w.heap[b']?:=Below.heap_setCell _ _ _ _ hb
theorem aa {i:Nat} {cs:Array Value} {t:TypeId} {f:Nat×Nat} (h:w.heap[b]?=some (.cells cs t f)):w.cell? ⟨b,i,none⟩=cs[i]?:=by simp [World.cell?,h]
theorem ay {cs:Array Value} {t:TypeId} (h:w.heap[b]?=some (.cells cs t (0,0))) (i:Nat):w.frozen? ⟨b,i,none⟩=false:=by simp [World.frozen?,h]
end
theorem de {w:World} {base:Nat} {e:TypeId} {size n:Nat} {v:Value} {xs:List Value} (ho:w.ownsRow base e size v n xs) {b i:Nat} {cs:Array Value} {t:TypeId} {f:Nat×Nat} (hb:w.heap[b]?=some (.cells cs t f)) (ht:t≠e) (u:Value) :
  (w.setCell ⟨b,i,none⟩ u).ownsRow base e size v n xs:=by
 refine ⟨ho.1,?_⟩
 rcases ho.2 with h0|⟨g,cap,cur,h1,h2,h3,h4⟩
 ·exact Or.inl h0
 ·refine Or.inr ⟨g,cap,cur,h1,h2,?_,h4⟩
  rw [aA]
  ·exact h3
  ·rintro rfl;rw [hb] at h3;simp at h3;exact ht h3.2.1
theorem aD (w:World) (cs:Array Value) (t:TypeId):(w.alloc (.cells cs t)).heap[w.heap.size]?=some (.cells cs t (0,0)):=by
 show (w.heap.push _)[w.heap.size]?=_
 simp
theorem aR {a w:World} (h:Bl a w) (n:Nat):Bl a (w.drewN n):=⟨h.os,h.tape,h.output,h.size,h.block⟩
section
variable {w w':World} {base:Nat} {e:TypeId} {size n:Nat} {v:Value} {xs:List Value}
theorem df (hg:w.grownBy w' v.ownBlock) (ho:w.ownsRow base e size v n xs) {b:Nat} {cs:Array Value} {t:TypeId} {f:Nat×Nat} (hb:w.heap[b]?=some (.cells cs t f)) (ht:t≠e):w'.heap[b]?=some (.cells cs t f):=by
 rw [hg.block b (af hb)]
 ·exact hb
 ·intro hc
  rcases ho.2 with ⟨rfl,-⟩|⟨gb,cap,cur,rfl,h2,h3,h4⟩
  ·simp [Value.ownBlock] at hc
  ·simp [Value.ownBlock] at hc
   subst hc
   rw [hb] at h3
   simp at h3
   exact ht h3.2.1
theorem jV (hg:w.grownBy w' v.ownBlock) (ho:w.ownsRow base e size v n xs) {mn:Nat} {e':TypeId} {zz n':Nat} {v':Value} {Ql:List Value} (hr:w.ownsRow mn e' zz v' n' Ql) (ht:e'≠e):w'.ownsRow mn e' zz v' n' Ql:=by
 refine ⟨hr.1,?_⟩
 rcases hr.2 with h0|⟨gb,cap,cur,h1,h2,h3,h4⟩
 ·exact Or.inl h0
 ·exact Or.inr ⟨gb,cap,cur,h1,h2,df hg ho h3 ht,h4⟩
theorem mF (hg:w.grownBy w' v.ownBlock) (ho:w.ownsRow base e size v n xs) (hb:base≤w.heap.size):Below base w w' :=
 (Below.refl base w).grown hg hb fun k hk=>(ho.lt k hk).1
end
theorem ba {w:World} {base:Nat} {e:TypeId} {size n:Nat} {v:Value} {xs:List Value} (ho:w.ownsRow base e size v n xs) {b:Nat} {cs:Array Value} {t:TypeId} {f:Nat×Nat} (hb:w.heap[b]?=some (.cells cs t f)) (ht:t≠e):v.ownBlock≠some b:=by
 intro hc
 rcases ho.2 with ⟨rfl,-⟩|⟨gb,cap,cur,rfl,h2,h3,h4⟩
 ·simp [Value.ownBlock] at hc
 ·simp [Value.ownBlock] at hc
  subst hc
  rw [hb] at h3
  simp at h3
  exact ht h3.2.1
def aL:List Va->List Value
 | []=>[]
 | v::l=>int i64 v.kind::int i64 v.n::aL l
theorem eE (l:List Va):(aL l).length=l.length*2:=by
 induction l with
 | nil=>rfl
 | cons x l ih=>simp [aL,ih];omega
theorem fL:∀(l:List Va) (i:Nat),i<l.length->(aL l)[i*2]?=some (int i64 (nth ag l i).kind)/\(aL l)[i*2+1]?=some (int i64 (nth ag l i).n)
 | [],i,h=>by simp at h
 | x::l,0,_=>by simp [aL,nth]
 | x::l,i+1,h=>by
  have:=fL l i (by simpa using h)
  have e:(i+1)*2=i*2+1+1:=by omega
  rw [e]
  simpa [aL,nth] using this
theorem ku:∀(l:List Va) (i:Nat) (v:Va),i<l.length->aL (l.set i v)=((aL l).set (i*2) (int i64 v.kind)).set (i*2+1) (int i64 v.n)
 | [],i,v,h=>by simp at h
 | x::l,0,v,_=>by simp [aL]
 | x::l,i+1,v,h=>by
  have:=ku l i v (by simpa using h)
  have e1:(i+1)*2=i*2+1+1:=by omega
  have e2:(i+1)*2+1=i*2+1+1+1:=by omega
  rw [e2,e1]
  simp [aL,this]
theorem oK:∀(l:List Va) (u:Value),u∈aL l->u.oneCell'=true
 | [],u,h=>by simp [aL] at h
 | x::l,u,h=>by
  simp only [aL,List.mem_cons] at h
  rcases h with rfl|rfl|h
  ·rfl
  ·rfl
  ·exact oK l u h
theorem fg (l k:List Va):aL (l++k)=aL l++aL k:=by
 induction l with
 | nil=>rfl
 | cons x l ih=>simp [aL,ih]
theorem ab {p:Prop} (h:p):Hid p:=h
abbrev jC (t:Ty):Value:=.agg #[int i64 t.kind,int i64 t.cls]
abbrev je (t:Ty):Obj:=.cells #[int i64 t.kind,int i64 t.cls] 45
abbrev dL (v:Va):Obj:=.cells #[int i64 v.kind,int i64 v.n] 98
abbrev eS:Obj:=.cells #[int i64 0,int i64 0] 98
theorem dD (w:World) (a b c:Array Value) (s t u:TypeId):(((w.alloc (.cells a s)).alloc (.cells b t)).alloc (.cells c u)).heap[w.heap.size]?=some (.cells a s (0,0))/\(((w.alloc (.cells a s)).alloc (.cells b t)).alloc (.cells c u)).heap[w.heap.size+1]?=some (.cells b t (0,0))
  /\ (((w.alloc (.cells a s)).alloc (.cells b t)).alloc (.cells c u)).heap[w.heap.size+1+1]?=some (.cells c u (0,0)):=by
 have h1:(w.alloc (.cells a s)).heap.size=w.heap.size+1:=by simp
 have h2:((w.alloc (.cells a s)).alloc (.cells b t)).heap.size=w.heap.size+1+1:=by simp
 refine ⟨?_,?_,?_⟩
 ·rw [Below.heap_alloc _ _ _ (by omega),Below.heap_alloc _ _ _ (by omega)];exact aD _ _ _
 ·rw [Below.heap_alloc _ _ _ (by omega),<-h1];exact aD _ _ _
 ·rw [<-h2];exact aD _ _ _
theorem ai {w w':World} (h:Bl w w') {b:Nat} {o:Obj} (hb:w.heap[b]?=some o):w'.heap[b]?=some o:=(h.block b (af hb)).trans hb
section
variable {w:World} {b:Nat} {k n:Value}
theorem aK {t:TypeId} (q:w.heap[b]?=some (.cells #[k,n] t (0,0))):w.cell? ⟨b,0,none⟩=some k:=by rw [aa q];rfl
theorem aI {t:TypeId} (q:w.heap[b]?=some (.cells #[k,n] t (0,0))):w.cell? ⟨b,1,none⟩=some n:=by rw [aa q];rfl
theorem bQ {k' n':Value} {t:TypeId} (q:w.heap[b]?=some (.cells #[k,n] t (0,0))):((w.setCell ⟨b,0,none⟩ k').setCell ⟨b,1,none⟩ n').heap[b]?=some (.cells #[k',n'] t (0,0)):=by
 rw [ax (ax q _) _];rfl
end
theorem ky {w0 w:World} (h:Bl w0 w) {b:Nat} (hb:w0.heap.size≤b) (k n:Value):Bl w0 ((w.setCell ⟨b,0,none⟩ k).setCell ⟨b,1,none⟩ n):=(h.setCell (p:=⟨b,0,none⟩) hb k).setCell (p:=⟨b,1,none⟩) hb n
theorem Hv {W:World} {cs:Array Value} {t:TypeId} {o:Obj} {n:Nat} (hn:n=W.heap.size):((W.alloc (.cells cs t)).alloc o).heap[n]?=some (.cells cs t (0,0)):=by
 subst hn
 rw [Below.heap_alloc _ _ _ (by simp)]
 exact aD _ _ _
theorem cQ {w:World} (b i:Nat) (v:Value):w.grownBy (w.setCell ⟨b,i,none⟩ v) (some b) :=
 ⟨rfl,rfl,rfl,by simp [World.setCell],fun k hk hb=>aA (fun e=>hb (by rw [e])) v⟩
theorem fU {x y z:World} {row:Option Nat} (h:x.grownBy y row) (k:y.grownBy z row):x.grownBy z row :=
 ⟨k.os.trans h.os,k.tape.trans h.tape,k.output.trans h.output,Nat.le_trans h.size k.size,fun i hi hb=>(k.block i (Nat.lt_of_lt_of_le hi h.size) hb).trans (h.block i hi hb)⟩
section
open Go.Maps (Keyed has)
abbrev jf (o c k:Int):Value:=.agg #[.int .i64 o,.int .i64 c,.int .i64 k]
def jW (o c k:Int):Lit:=.string (keyBytes [.int .i64 o,.int .i64 c,.int .i64 k])
theorem AX:laidOutB Tryz.prog=true:=by kernel_rfl
theorem rZ:(261:TypeId)<Tryz.prog.types.size:=of_decide_eq_true (by kernel_rfl)
theorem x9:(match Tryz.prog.underlying 261 with|some (.array _ _)|some (.struct _)=>true|_=>false)=true:=by rw [Tryz.underlying261]
theorem DD:Tryz.prog.keyTypeAt 2 261=true:=by kernel_rfl
set_option maxRecDepth 1000000 in
theorem jX:Keyed Tryz.prog 261:=Keyed.of_law (deep_law_laid (P:=Tryz.prog) (k:=261) AX (m:=2) (by omega) rZ DD x9)
theorem ya:Tryz.prog.keyType 261=true:=by kernel_rfl
theorem oL:Tryz.prog.cellsOf 261=3:=by kernel_rfl
theorem AY:Tryz.prog.cellsOf 3=1:=by kernel_rfl
theorem LW {n:Int} (h:cP n):(Lit.int .i64 n).wf=true:=by
 unfold cP at h
 simp [Lit.wf,IntKind.min,IntKind.max,IntKind.bits,IntKind.signed]
 omega
theorem pP (d:Nat) {n:Int} (h:cP n):Tryz.prog.keyLits (d+1) 3 [.int .i64 n]=some [.int .i64 n]:=by
 unfold Program.keyLits
 rw [Tryz.underlying3]
 simp [LW h]
theorem yb (d:Nat) {o c k:Int} (ho:cP o) (hc:cP c) (hk:cP k):Tryz.prog.keyLits (d+1+1) 261 [.int .i64 o,.int .i64 c,.int .i64 k]=some [.int .i64 o,.int .i64 c,.int .i64 k]:=by
 have h1:=pP d ho
 have h2:=pP d hc
 have h3:=pP d hk
 unfold Program.keyLits
 rw [Tryz.underlying261]
 simp [oL,AY,h1,h2,h3]
theorem AZ:∃d,Tryz.prog.types.size+1=d+1+1:=by
 have h:(261:Nat)<Tryz.prog.types.size:=rZ
 exact ⟨Tryz.prog.types.size-1,by omega⟩
theorem lT {o c k:Int} (ho:cP o) (hc:cP c) (hk:cP k):keyOf Tryz.prog 261 (jf o c k)=some (jW o c k):=by
 obtain ⟨d,hd⟩:=AZ
 unfold keyOf
 rw [Tryz.underlying261,hd]
 dsimp only
 have hf:(jf o c k).formed Tryz.prog 261=true:=by simp [Value.formed,Tryz.underlying261,oL]
 rw [ya,hf]
 have NJ:(jf o c k).cells.toList=[.int .i64 o,.int .i64 c,.int .i64 k]:=rfl
 rw [NJ,yb d ho hc hk]
 rfl
theorem DE {o c k o' c' k':Int} (ho:cP o) (hc:cP c) (hk:cP k) (pQ:cP o') (NJ:cP c') (Hw:cP k') (h:jW o c k=jW o' c' k'):o=o'/\c=c'/\k=k':=by
 have h1:=lT ho hc hk
 have h2:=lT pQ NJ Hw
 rw [<-h] at h2
 have:=jX.inj h1 h2
 simp at this
 exact this
end
def im (v:Va):Va:=⟨v.kind,if v.kind=3 then v.n+1 else v.n⟩
theorem zA (v:Va):(im v).kind=v.kind:=rfl
theorem eJ {v:Va} (h:v.kind≠3):im v=v:=by unfold im;rw [if_neg h]
theorem gq {v:Va} (h:v.kind=3):im v=⟨3,v.n+1⟩:=by unfold im;rw [if_pos h,h]
theorem gr {α:Type} (d:α) (l:List α) (i j:Nat) (v:α):nth d (l.set i v) j=if i=j/\i<l.length then v else nth d l j:=by
 unfold nth
 simp only [List.getD_eq_getElem?_getD,List.getElem?_set]
 by_cases h:i=j
 ·subst h
  by_cases hl:i<l.length
  ·simp [hl]
  ·simp [hl]
 ·simp [h]
theorem Hx {α:Type} {d:α} {l:List α} {i:Nat} (h:l.length≤i):nth d l i=d:=by
 unfold nth
 simp [List.getD_eq_getElem?_getD,h]
structure mG (l k:List Va):Prop where
 len:k.length=l.length
 zero:(nth ag l 0).kind≠9
 pair:∀i,(nth ag l i).kind=2↔(nth ag l (i+1)).kind=9
 rd:∀i,1≤(nth ag l i).kind->(nth ag l i).kind≤3->nth ag k i=im (nth ag l i)
 long:∀i,(nth ag l i).kind=2->(nth ag k (i+1)).kind=4
 back:∀i,1≤(nth ag k i).kind->(nth ag k i).kind≤3->((nth ag k i).kind=2->(nth ag k (i+1)).kind=4)->(nth ag l i).kind=(nth ag k i).kind
def jD (k:List Va) (a:Nat) (v:Va):List Va:=if v.kind=2 then (k.set a v).set (a+1) ⟨4,0⟩ else k.set a v
theorem vK (k:List Va) (a:Nat) (v:Va):(jD k a v).length=k.length:=by unfold jD;split<;>simp
section
variable (l:List Va) (a:Nat)
theorem fj:(cE l a).length=l.length:=fS l a
theorem kA (v:Va):(eu l a v).length=l.length:=fT l a v
theorem nj (j:Nat) (ha:a<l.length):nth ag (cE l a) j=if j=a∨((nth ag l a).kind=9/\j=a-1)∨((nth ag l a).kind=2/\j=a+1) then ag else nth ag l j:=by
 have hz:∀(l:List Va) i,nth ag (l.set i ag) j=if i=j then ag else nth ag l j:=by
  intro l i
  rw [gr]
  by_cases h:i=j
  ·by_cases hl:i<l.length
   ·rw [if_pos ⟨h,hl⟩,if_pos h]
   ·rw [if_neg (fun x=>hl x.2),if_pos h,Hx (by omega)]
  ·rw [if_neg (fun x=>h x.1),if_neg h]
 unfold cE
 by_cases h9:(nth ag l a).kind=9
 ·rw [if_pos h9,hz,hz]
  have h2:¬(nth ag l a).kind=2:=by omega
  by_cases h1:a=j
  ·rw [if_pos h1,if_pos (Or.inl h1.symm)]
  ·rw [if_neg h1]
   by_cases h3:a-1=j
   ·rw [if_pos h3,if_pos (Or.inr (Or.inl ⟨h9,h3.symm⟩))]
   ·rw [if_neg h3,if_neg];rintro (h|h|h)
    ·exact h1 h.symm
    ·exact h3 h.2.symm
    ·exact h2 h.1
 ·rw [if_neg h9]
  by_cases h2:(nth ag l a).kind=2
  ·rw [if_pos h2,hz,hz]
   by_cases h1:a=j
   ·rw [if_pos h1,if_pos (Or.inl h1.symm)]
   ·rw [if_neg h1]
    by_cases h3:a+1=j
    ·rw [if_pos h3,if_pos (Or.inr (Or.inr ⟨h2,h3.symm⟩))]
    ·rw [if_neg h3,if_neg];rintro (h|h|h)
     ·exact h1 h.symm
     ·exact h9 h.1
     ·exact h3 h.2.symm
  ·rw [if_neg h2,hz]
   by_cases h1:a=j
   ·rw [if_pos h1,if_pos (Or.inl h1.symm)]
   ·rw [if_neg h1,if_neg];rintro (h|h|h)
    ·exact h1 h.symm
    ·exact h9 h.1
    ·exact h2 h.1
end
theorem mG.los {l k:List Va} (h:mG l k) {a:Nat} (ha:a<l.length) (x:Va) (hx:x.kind=0∨4<x.kind):mG (cE l a) (k.set a x):=by
 have e:=fun j=>nj l a j ha
 have e':=fun j=>gr ag k a j x
 have hk:a<k.length:=by rw [h.len];exact ha
 refine ⟨?_,?_,fun i=>?_,fun i h1 h2=>?_,fun i h1=>?_,fun i h1 h2 h3=>?_⟩
 ·rw [List.length_set,fj,h.len]
 ·rw [e];split
  ·decide
  ·exact h.zero
 ·rw [e,e]
  have hp:=h.pair i
  have vh:=h.pair a
  have Hy:=h.pair (a-1)
  have hz:=h.zero
  by_cases c1:i=a
  ·subst c1
   rw [if_pos (Or.inl rfl)]
   constructor
   ·intro q;exact absurd q (by decide)
   ·intro q
    split at q
    ·exact absurd q (by decide)
    ·rename_i hn
     have:=hp.mpr q
     exact absurd (Or.inr (Or.inr ⟨this,rfl⟩)) hn
  by_cases c2:i+1=a
  ·have VK:i=a-1:=by omega
   rw [if_pos (Or.inl c2:i+1=a∨_)]
   constructor
   ·intro q
    split at q
    ·exact absurd q (by decide)
    ·rename_i hn
     have:=hp.mp q
     rw [c2] at this
     exact absurd (Or.inr (Or.inl ⟨this,VK⟩)) hn
   ·intro q;exact absurd q (by decide)
  by_cases c3:(nth ag l a).kind=2/\i=a+1
  ·have hn:(nth ag l i).kind=9:=by rw [c3.2];exact vh.mp c3.1
   rw [if_pos (Or.inr (Or.inr c3))]
   rw [if_neg (by rintro (q|q|q)<;>omega)]
   constructor
   ·intro q;exact absurd q (by decide)
   ·intro q
    have:=hp.mpr q
    omega
  by_cases c4:(nth ag l a).kind=9/\i+1=a-1
  ·have hn:(nth ag l (a-1)).kind=2:=by
    have e1:a-1+1=a:=by omega
    rw [e1] at Hy
    exact Hy.mpr c4.1
   rw [if_pos (Or.inr (Or.inl c4):i+1=a∨((nth ag l a).kind=9/\i+1=a-1)∨_)]
   rw [if_neg (by rintro (q|q|q)<;>omega)]
   constructor
   ·intro q
    have:=hp.mp q
    rw [c4.2] at this
    omega
   ·intro q;exact absurd q (by decide)
  rw [if_neg (by rintro (q|q|q)<;>omega)]
  by_cases c5:(nth ag l a).kind=9/\i=a-1
  ·exact absurd c5.2 (by omega)
  rw [if_neg]
  ·exact hp
  ·rintro (q|q|q)
   ·omega
   ·exact c4 q
   ·omega
 ·rw [e] at h1 h2 ⊢
  split at h1
  ·exact absurd h1 (by decide)
  ·rename_i hn
   rw [if_neg hn] at h2 ⊢
   rw [e',if_neg (fun q=>hn (Or.inl q.1.symm))]
   exact h.rd i h1 h2
 ·rw [e] at h1
  split at h1
  ·exact absurd h1 (by decide)
  ·rename_i hn
   have hl:=h.long i h1
   rw [e',if_neg]
   ·exact hl
   ·rintro ⟨q,-⟩
    have hp:=(h.pair i).mp h1
    rw [<-q] at hp
    exact hn (Or.inr (Or.inl ⟨hp,by omega⟩))
 ·rw [e'] at h1 h2
  split at h1
  ·rename_i hq
   rw [if_pos hq] at h2
   omega
  ·rename_i hn
   rw [if_neg hn] at h2
   rw [e',if_neg hn] at h3 ⊢
   have hb:(nth ag l i).kind=(nth ag k i).kind:=by
    refine h.back i h1 h2 fun q=>?_
    have h4:=h3 q
    rw [e'] at h4
    split at h4
    ·omega
    ·exact h4
   rw [e,if_neg]
   ·exact hb
   ·rintro (q|q|q)
    ·exact hn ⟨q.symm,hk⟩
    ·have e1:a-1+1=a:=by
      have:a≠0:=fun z=>h.zero (by rw [<-z];exact q.1)
      omega
     have hp:=h.pair (a-1)
     rw [e1] at hp
     have TP:=hp.mpr q.1
     rw [<-q.2,hb] at TP
     have h4:=h3 TP
     rw [e',q.2,e1,if_pos ⟨rfl,hk⟩] at h4
     omega
    ·have hp:=(h.pair a).mp q.1
     rw [<-q.2,hb] at hp
     omega
theorem mG.sto {l k:List Va} (h:mG l k) {a:Nat} (ha:a<l.length) (v:Va) (hv:1≤v.kind/\v.kind≤3) (h2:v.kind=2->a+1<l.length):mG (eu l a v) (jD k a (im v)):=by
 have Qm:(im v).kind=v.kind:=rfl
 by_cases hk:v.kind=2
 ·have Hz:=h2 hk
  have r1:=(h.los ha ag (Or.inl rfl)).los (a:=a+1) (by rw [fj];exact Hz) ag (Or.inl rfl)
  have r0:eu l a v=(((cE (cE l a) (a+1)).set (a+1) ⟨9,0⟩).set a v):=by unfold eu;rw [if_pos hk]
  have r2:jD k a (im v)=(k.set a (im v)).set (a+1) ⟨4,0⟩:=by unfold jD;rw [if_pos (by rw [Qm];exact hk)]
  rw [r0,r2]
  have yd:(cE (cE l a) (a+1)).length=l.length:=by rw [fj,fj]
  have e:∀j,nth ag (((cE (cE l a) (a+1)).set (a+1) ⟨9,0⟩).set a v) j=if j=a then v else if j=a+1 then ⟨9,0⟩ else nth ag (cE (cE l a) (a+1)) j:=by
   intro j
   rw [gr,gr,List.length_set,yd]
   by_cases c1:j=a
   ·rw [if_pos ⟨c1.symm,ha⟩,if_pos c1]
   ·rw [if_neg (fun q=>c1 q.1.symm),if_neg c1]
    by_cases c2:j=a+1
    ·rw [if_pos ⟨c2.symm,Hz⟩,if_pos c2]
    ·rw [if_neg (fun q=>c2 q.1.symm),if_neg c2]
  have e':∀j,nth ag ((k.set a (im v)).set (a+1) ⟨4,0⟩) j=if j=a then im v else if j=a+1 then ⟨4,0⟩ else nth ag ((k.set a ag).set (a+1) ag) j:=by
   intro j
   rw [gr,gr,gr,gr,List.length_set,List.length_set,h.len]
   by_cases c1:j=a
   ·rw [if_neg (by omega),if_pos ⟨c1.symm,ha⟩,if_pos c1]
   ·rw [if_neg c1]
    by_cases c2:j=a+1
    ·rw [if_pos ⟨c2.symm,Hz⟩,if_pos c2]
    ·rw [if_neg (fun q=>c2 q.1.symm),if_neg (fun q=>c1 q.1.symm),if_neg c2,if_neg (fun q=>c2 q.1.symm),if_neg (fun q=>c1 q.1.symm)]
  have z0:nth ag (cE (cE l a) (a+1)) a=ag:=by
   have hlt:a+1<(cE l a).length:=by rw [fj];exact Hz
   rw [nj _ _ _ hlt]
   split
   ·rfl
   ·rw [nj _ _ _ ha,if_pos (Or.inl rfl)]
  have z1:nth ag (cE (cE l a) (a+1)) (a+1)=ag:=by
   have hlt:a+1<(cE l a).length:=by rw [fj];exact Hz
   rw [nj _ _ _ hlt,if_pos (Or.inl rfl)]
  have zp:∀i,i+1=a->(nth ag (cE (cE l a) (a+1)) i).kind≠2:=by
   intro i hi q
   have:=(r1.pair i).mp q
   rw [hi,z0] at this
   exact absurd this (by decide)
  have zn:(nth ag (cE (cE l a) (a+1)) (a+1+1)).kind≠9:=by
   intro q
   have:=(r1.pair (a+1)).mpr q
   rw [z1] at this
   exact absurd this (by decide)
  refine ⟨?_,?_,fun i=>?_,fun i h1 h3=>?_,fun i h1=>?_,fun i h1 h3 h4=>?_⟩
  ·simp [yd,h.len]
  ·rw [e];split
   ·omega
   ·split
    ·omega
    ·exact r1.zero
  ·rw [e,e]
   by_cases c1:i=a
   ·subst c1;rw [if_pos rfl,if_neg (by omega),if_pos rfl];exact ⟨fun _=>rfl,fun _=>hk⟩
   ·rw [if_neg c1]
    by_cases c2:i=a+1
    ·subst c2
     rw [if_pos rfl,if_neg (by omega),if_neg (by omega)]
     constructor
     ·intro q;exact absurd q (by decide)
     ·intro q;exact absurd q zn
    ·rw [if_neg c2]
     by_cases c3:i+1=a
     ·rw [if_pos c3]
      constructor
      ·intro q;exact absurd q (zp i c3)
      ·intro q;omega
     ·rw [if_neg c3,if_neg (by omega)];exact r1.pair i
  ·rw [e] at h1 h3 ⊢
   rw [e']
   by_cases c1:i=a
   ·rw [if_pos c1,if_pos c1]
   ·rw [if_neg c1] at h1 h3 ⊢
    rw [if_neg c1]
    by_cases c2:i=a+1
    ·rw [if_pos c2] at h3;exact absurd h3 (by decide)
    ·rw [if_neg c2] at h1 h3 ⊢
     rw [if_neg c2]
     exact r1.rd i h1 h3
  ·rw [e] at h1
   rw [e']
   by_cases c1:i=a
   ·rw [if_neg (by omega),if_pos (by omega)]
   ·rw [if_neg c1] at h1
    by_cases c2:i=a+1
    ·rw [if_pos c2] at h1;exact absurd h1 (by decide)
    ·rw [if_neg c2] at h1
     by_cases c3:i+1=a
     ·exact absurd h1 (zp i c3)
     ·rw [if_neg c3,if_neg (by omega)]
      exact r1.long i h1
  ·rw [e'] at h1 h3
   rw [e,e']
   by_cases c1:i=a
   ·rw [if_pos c1,if_pos c1];rfl
   ·rw [if_neg c1] at h1 h3
    rw [if_neg c1,if_neg c1]
    by_cases c2:i=a+1
    ·rw [if_pos c2] at h3;exact absurd h3 (by decide)
    ·rw [if_neg c2] at h1 h3
     rw [if_neg c2,if_neg c2]
     refine r1.back i h1 h3 fun q=>?_
     have h5:=h4 (by rw [e',if_neg c1,if_neg c2];exact q)
     rw [e'] at h5
     by_cases c3:i+1=a
     ·rw [if_pos c3] at h5
      rw [Qm,hk] at h5
      exact absurd h5 (by decide)
     ·rw [if_neg c3,if_neg (by omega)] at h5
      exact h5
 ·have r1:=h.los ha ag (Or.inl rfl)
  have r0:eu l a v=(cE l a).set a v:=by unfold eu;rw [if_neg hk]
  have r2:jD k a (im v)=k.set a (im v):=by unfold jD;rw [if_neg (by rw [Qm];exact hk)]
  rw [r0,r2]
  have e:∀j,nth ag ((cE l a).set a v) j=if j=a then v else nth ag (cE l a) j:=by
   intro j
   rw [gr,fj]
   by_cases c1:j=a
   ·rw [if_pos ⟨c1.symm,ha⟩,if_pos c1]
   ·rw [if_neg (fun q=>c1 q.1.symm),if_neg c1]
  have e':∀j,nth ag (k.set a (im v)) j=if j=a then im v else nth ag (k.set a ag) j:=by
   intro j
   rw [gr,gr,h.len]
   by_cases c1:j=a
   ·rw [if_pos ⟨c1.symm,ha⟩,if_pos c1]
   ·rw [if_neg (fun q=>c1 q.1.symm),if_neg c1,if_neg (fun q=>c1 q.1.symm)]
  have z0:nth ag (cE l a) a=ag:=by rw [nj _ _ _ ha,if_pos (Or.inl rfl)]
  have zp:∀i,i+1=a->(nth ag (cE l a) i).kind≠2:=by
   intro i hi q
   have:=(r1.pair i).mp q
   rw [hi,z0] at this
   exact absurd this (by decide)
  have zn:(nth ag (cE l a) (a+1)).kind≠9:=by
   intro q
   have:=(r1.pair a).mpr q
   rw [z0] at this
   exact absurd this (by decide)
  refine ⟨?_,?_,fun i=>?_,fun i h1 h3=>?_,fun i h1=>?_,fun i h1 h3 h4=>?_⟩
  ·simp [fj,h.len]
  ·rw [e];split
   ·omega
   ·exact r1.zero
  ·rw [e,e]
   by_cases c1:i=a
   ·subst c1;rw [if_pos rfl,if_neg (by omega)]
    constructor
    ·intro q;exact absurd q hk
    ·intro q;exact absurd q zn
   ·rw [if_neg c1]
    by_cases c3:i+1=a
    ·rw [if_pos c3]
     constructor
     ·intro q;exact absurd q (zp i c3)
     ·intro q;omega
    ·rw [if_neg c3];exact r1.pair i
  ·rw [e] at h1 h3 ⊢
   rw [e']
   by_cases c1:i=a
   ·rw [if_pos c1,if_pos c1]
   ·rw [if_neg c1] at h1 h3 ⊢
    rw [if_neg c1]
    exact r1.rd i h1 h3
  ·rw [e] at h1
   rw [e']
   by_cases c1:i=a
   ·rw [if_pos c1] at h1;exact absurd h1 hk
   ·rw [if_neg c1] at h1
    by_cases c3:i+1=a
    ·exact absurd h1 (zp i c3)
    ·rw [if_neg c3]
     exact r1.long i h1
  ·rw [e'] at h1 h3
   rw [e,e']
   by_cases c1:i=a
   ·rw [if_pos c1,if_pos c1];rfl
   ·rw [if_neg c1] at h1 h3
    rw [if_neg c1,if_neg c1]
    refine r1.back i h1 h3 fun q=>?_
    have h5:=h4 (by rw [e',if_neg c1];exact q)
    rw [e'] at h5
    by_cases c3:i+1=a
    ·rw [if_pos c3] at h5
     rw [Qm] at h5
     omega
    ·rw [if_neg c3] at h5
     exact h5
theorem mG.new (n:Nat):mG (List.replicate n ag) (List.replicate n ag):=by
 have e:∀i,nth ag (List.replicate n ag) i=ag:=by
  intro i
  unfold nth
  simp [List.getD_eq_getElem?_getD,List.getElem?_replicate]
  split<;>rfl
 refine ⟨rfl,?_,fun i=>?_,fun i h=>?_,fun i h=>?_,fun i h=>?_⟩
 ·rw [e];decide
 ·rw [e,e];decide
 ·rw [e] at h;exact absurd h (by decide)
 ·rw [e] at h;exact absurd h (by decide)
 ·rw [e] at h;exact absurd h (by decide)
def Om (l:List Va) (fk:Nat):List Va->List Va
 | []=>l
 | v::k=>Om (jD l fk v) (fk+(if v.kind=2 then 2 else 1)) k
def iI (k op:Int) (a b:Va):Bool:=if k=1 then ey op (wrap32 b.n) else ey op b.n
def jY (k op:Int) (a b:Va):Int:=if k=1 then wrap32 (dE op (wrap32 a.n) (wrap32 b.n)) else dE op a.n b.n
def Hp.reckH (h:Hp) (a b:Va) (k op:Int):Hp:=if h.mustB (ct a b k)=true then (if iI k op a b=true then h else h.raise 2) else h.must (ct a b k)
def Hp.reckV (h:Hp) (a b:Va) (k op:Int):Va:=if h.mustB (ct a b k)=true then ⟨k,jY k op a b⟩ else ag
def Hp.fits (h:Hp) (x:Hd) (pc:Int):Bool:=decide (x.fr≤pc)&&(decide (pc<x.til)&&gj h.file.classes (h.obj h.thrown).cls x.cls)
def Hp.caughtL (h:Hp) (pc:Int):List Hd->Int
 | []=>-1
 | x::l=>if h.fits x pc=true then x.pc else h.caughtL pc l
section
variable {h:Hp} {pc:Int} {l:List Hd} {q:Nat}
theorem oM (hq:q<l.length) (hx:h.fits (nth eB l q) pc=false):h.caughtL pc (l.drop q)=h.caughtL pc (l.drop (q+1)):=by
 rw [List.drop_eq_getElem_cons hq,Hp.caughtL,<-bP (d:=eB) hq,if_neg (by rw [hx];decide)]
theorem pR (hq:q<l.length) (hx:h.fits (nth eB l q) pc=true):h.caughtL pc (l.drop q)=(nth eB l q).pc:=by
 rw [List.drop_eq_getElem_cons hq,Hp.caughtL,<-bP (d:=eB) hq,if_pos hx]
end
structure gZ (l:List Va):Prop where
 nine:∀i,i<l.length->(nth ag l i).kind=9->1≤i
 two:∀i,i<l.length->(nth ag l i).kind=2->i+1<l.length
structure aH where
 m:Me
 locs:List Va
 stk:List Va
 pc:Int
def aH.put (c:aH) (v:Va):aH:={ c with stk:=c.stk++[v] }
def Hp.putH (h:Hp) (c:aH) (v:Va):Hp:=if h.stops=true then h else h.must (decide ((aP (c.stk++[v]):Int)≤c.m.stack))
def aH.has (c:aH) (k:Nat):Bool:=decide (k≤c.stk.length)
def aH.top (c:aH) (k:Nat):List Va:=if k≤c.stk.length then c.stk.drop (c.stk.length-k) else List.replicate k ag
def aH.cut (c:aH) (k:Nat):aH:=if k≤c.stk.length then { c with stk:=c.stk.take (c.stk.length-k) } else c
theorem aC (c:aH) (k:Nat):(c.top k).length=k:=by unfold aH.top;split<;>simp<;>omega
def aJ (op:Int):Nat:=if op=6∨op=7∨op=10 then 2 else if op=8∨op=9∨op=15∨op=17∨op=18 then 1 else 0
def givesH (h:Hp) (a b:Va) (i:In):Hp :=
 if h.over=true then h
 else if i.op=6 then h.reckH a b 1 i.a
 else if i.op=7 then h.reckH a b 2 i.a
 else if i.op=8 then h.must (decide (a.kind=1))
 else if i.op=9 then h.must (decide (a.kind=2))
 else if i.op=10 then h.must (ct a b 2)
 else if i.op=14 then h.new i.a
 else if i.op=15 then h.findH a i.a
 else if i.op=17 then h.cast a i.a
 else if i.op=18 then h.must (isRef a)
 else if i.op=1∨i.op=2∨i.op=3 then h
 else h.input'
def aG (h:Hp) (a b:Va) (i:In):Va :=
 if h.over=true then ag
 else if i.op=1 then ⟨1,i.n⟩
 else if i.op=2 then ⟨2,i.n⟩
 else if i.op=3 then ⟨3,-1⟩
 else if i.op=6 then h.reckV a b 1 i.a
 else if i.op=7 then h.reckV a b 2 i.a
 else if i.op=8 then ⟨2,a.n⟩
 else if i.op=9 then ⟨1,wrap32 a.n⟩
 else if i.op=10 then ⟨1,ma a.n b.n⟩
 else if i.op=14 then h.newV
 else if i.op=15 then h.getV a i.a i.b
 else if i.op=17 then a
 else if i.op=18 then h.isV a i.a
 else h.inV
structure jx where
 h:Hp
 c:aH
 nx:Int
def bZ (h:Hp) (c:aH) (i:In):jx :=
 let h1:=h.must (c.has (aJ i.op))
 let a:=nth ag (c.top (aJ i.op)) 0
 let b:=nth ag (c.top (aJ i.op)) 1
 let h2:=givesH h1 a b i
 if h2.stops=true then ⟨h2,c.cut (aJ i.op),c.pc+1⟩
 else ⟨h2.putH (c.cut (aJ i.op)) (aG h1 a b i),(c.cut (aJ i.op)).put (aG h1 a b i),c.pc+1⟩
def DF (h:Hp) (c:aH) (i:In):jx :=
 let h1:=h.must (c.has 1)
 let a:=nth ag (c.top 1) 0
 ⟨h1.must (decide (a.kind=1)),c.cut 1,if (h1.mustB (decide (a.kind=1))&&jb i.b a.n)=true then i.a else c.pc+1⟩
def pS (h:Hp) (c:aH) (i:In):jx :=
 let h1:=h.must (c.has 1)
 let a:=nth ag (c.top 1) 0
 ⟨h1.must (isRef a),c.cut 1,if (h1.mustB (isRef a)&&decide (a.n<0))=true then i.a else c.pc+1⟩
def vL (h:Hp) (c:aH) (i:In):jx :=
 let h1:=h.must (c.has 1)
 let a:=nth ag (c.top 1) 0
 ⟨if h1.over=true then h1 else h1.throw a,c.cut 1,c.pc+1⟩
def kQ (h:Hp) (c:aH) (i:In):jx :=
 let v:=nth ag c.locs i.a.toNat
 if h.mustB (decide (v.kind=i.b))=true then ⟨h.putH c v,c.put v,c.pc+1⟩ else ⟨h.must (decide (v.kind=i.b)),c,c.pc+1⟩
def kB (h:Hp) (c:aH) (i:In):jx :=
 let h1:=h.must (c.has 1)
 let a:=nth ag (c.top 1) 0
 ⟨h1.must (decide (a.kind=i.b)),if h1.mustB (decide (a.kind=i.b))=true then { c.cut 1 with locs:=eu c.locs i.a.toNat a } else c.cut 1,c.pc+1⟩
def DG (h:Hp) (c:aH) (i:In):jx:=⟨h.must (c.has 1),c.cut 1,c.pc+1⟩
def pj (h:Hp) (c:aH) (i:In):jx :=
 let h1:=h.must (c.has 1)
 let a:=nth ag (c.top 1) 0
 if h1.over=true then ⟨h1,c.cut 1,c.pc+1⟩
 else ⟨(h1.putH (c.cut 1) a).putH ((c.cut 1).put a) a,((c.cut 1).put a).put a,c.pc+1⟩
def oO (h:Hp) (c:aH) (i:In):jx :=
 let h1:=h.must (c.has 1)
 let a:=nth ag (c.top 1) 0
 ⟨if h1.over=true then h1 else h1.emit a i.a,c.cut 1,c.pc+1⟩
def jZ (h:Hp) (c:aH) (i:In):jx :=
 let h1:=h.must (c.has 2)
 let a:=nth ag (c.top 2) 0
 let b:=nth ag (c.top 2) 1
 ⟨if h1.over=true then h1 else if h1.mustB (isRef a)=true then h1.put a i.a i.b b else h1.must (isRef a),c.cut 2,c.pc+1⟩
def aM (h:Hp) (c:aH) (i:In):jx :=
 if i.op=11 then ⟨h,c,i.a⟩
 else if i.op=12 then DF h c i
 else if i.op=13 then pS h c i
 else if i.op=21 then vL h c i
 else if i.op=4 then kQ h c i
 else if i.op=5 then kB h c i
 else if i.op=22 then DG h c i
 else if i.op=23 then pj h c i
 else if i.op=24 then oO h c i
 else if i.op=16 then jZ h c i
 else bZ h c i
def Hp.enterL (h:Hp):List Va->List Ty->Bool
 | v::l,t::k=>h.of v t&&h.enterL l k
 | _,_=>true
def Hp.deep (h:Hp):Bool:=decide (20≤h.calls)
def Hp.enterB (h:Hp) (m:Me) (l:List Va):Bool:=h.enterL l m.params&&!h.deep
def Hp.enterH (h:Hp) (m:Me) (l:List Va):Hp :=
 if h.enterL l m.params=false then h.fin 6 else if h.deep=true then h.fin 5 else { h with calls:=h.calls+1 }
def dS (l:List Va) (fk:Nat):List Va->List Va
 | []=>l
 | v::k=>dS (eu l fk v) (fk+aP [v]) k
def bT (m:Me) (l:List Va):aH:=⟨m,dS (List.replicate m.locs.toNat ag) 0 l,[],0⟩
def Hp.leave (h:Hp):Hp:={ h with calls:=h.calls-1 }
def dM (go:Hp->aH->Hp×Va) (d:jx):Hp×Va :=
 if d.h.over=true then (d.h.leave,ag)
 else if 0≤d.h.thrown then
  (if d.h.caughtL d.c.pc d.c.m.hands<0 then (d.h.leave,ag)
   else go (({ d.h with thrown:=-1 }:Hp).putH { d.c with stk:=[] } ⟨3,d.h.thrown⟩) { (({ d.c with stk:=[] }:aH).put ⟨3,d.h.thrown⟩) with pc:=d.h.caughtL d.c.pc d.c.m.hands })
 else go d.h { d.c with pc:=d.nx }
def fY (go:Hp->aH->Hp×Va) (h:Hp) (m:Me) (l:List Va):Hp×Va :=
 if h.enterB m l=true then go (h.enterH m l) (bT m l) else (h.enterH m l,ag)
def gu (go:Hp->aH->Hp×Va) (h:Hp) (c:aH) (i:In):jx :=
 let m:=nth bM h.file.methods i.a.toNat
 let h1:=h.must (c.has m.params.length)
 let c1:=c.cut m.params.length
 if h1.over=true then ⟨h1,c1,c.pc+1⟩
 else let r:=fY go h1 m (c.top m.params.length)
  if (r.1.stops=false/\m.ret.kind≠0) then ⟨r.1.putH c1 r.2,c1.put r.2,c.pc+1⟩ else ⟨r.1,c1,c.pc+1⟩
def ju (h:Hp) (c:aH):Hp×Va :=
 if c.m.ret.kind=0 then (h.leave,ag)
 else let h1:=h.must (c.has 1)
  let v:=nth ag (c.top 1) 0
  ((h1.must (!h1.over&&h1.of v c.m.ret)).leave,v)
def gw (go:Hp->aH->Hp×Va) (h:Hp) (c:aH):Hp×Va :=
 if h.mustB (decide (c.pc<c.m.code.length))=false then ((h.must (decide (c.pc<c.m.code.length))).leave,ag)
 else if (nth fX c.m.code c.pc.toNat).op=20 then ju h c
 else dM go (if (nth fX c.m.code c.pc.toNat).op=19 then gu go h c (nth fX c.m.code c.pc.toNat) else aM h c (nth fX c.m.code c.pc.toNat))
def bF:Nat->Hp->aH->Hp×Va
 | 0,h,c=>(h.step.leave,ag)
 | n+1,h,c=>if h.stepB=false then (h.step.leave,ag) else gw (bF n) h.step c
theorem bd (x n:Int) (w:World) :
  Calls Tryz.prog 99 #[int i64 x,int i64 n] w fun e w'=>e=.returned (.bool (decide (0≤x/\x<n)))/\w'=w:=by
 go_enter Tryz.func99,Tryz.ntmps99
 go_wp2
 all_goals
  go_ret
  refine ⟨aj ?_,rfl⟩
  rw [Bool.eq_iff_iff];simp;try omega
theorem bh (n lo hi:Int) (w:World) :
  Calls Tryz.prog 36 #[int i64 n,int i64 lo,int i64 hi] w fun e w'=>e=.returned (.bool (decide (lo≤n/\n≤hi)))/\w'=w:=by
 go_enter Tryz.func36,Tryz.ntmps36
 go_wp2
 all_goals
  go_ret
  refine ⟨aj ?_,rfl⟩
  rw [Bool.eq_iff_iff];simp;try omega
theorem kC (c s:Int) (w:World) :
  Calls Tryz.prog 79 #[int i64 c,int i64 s] w fun e w'=>e=.returned (.bool (decide ((c=0/\s=-1)∨(c≠0/\0≤s/\s<c))))/\w'=w:=by
 by_cases h0:c=0
 ·subst h0
  go_enter Tryz.func79,Tryz.ntmps79
  go_wp2
  all_goals
   go_ret
   refine ⟨aj ?_,rfl⟩
   rw [Bool.eq_iff_iff];simp
 ·go_enter Tryz.func79,Tryz.ntmps79
  go_wp2_with (go_at_call 99;refine (bd _ _ _).mono ?_;rintro e w' ⟨rfl,rfl⟩)
  all_goals
   go_ret
   refine ⟨aj ?_,rfl⟩
   rw [Bool.eq_iff_iff];simp;omega
theorem oP (n:Nat) (k x:Int) (w:World) :
  Calls Tryz.prog 147 #[.agg #[int i64 k,int i64 x],int i64 n] w fun e w'=>e=.returned (.bool (fO n ⟨k,x⟩))/\Bl w w':=by
 have hk:k=1∨k=2∨k=3∨(k≠1/\k≠2/\k≠3):=by omega
 rcases hk with rfl|rfl|rfl|⟨h1,h2,h3⟩
 all_goals
  go_enter Tryz.func147,Tryz.ntmps147
  go_wp2_with (go_at_call 99;refine (bd _ _ _).mono ?_;rintro e w' ⟨rfl,rfl⟩)
  go_ret
  refine ⟨aj ?_,(Bl.refl _).alloc _⟩
  unfold fO
  rw [Bool.eq_iff_iff];simp;try omega
def kT (n:Nat) (f:List Ty):Bool:=decide (f.length≤6)&&f.all (fO n)
section
variable {n:Nat}
theorem DH {f:List Ty} (h:¬f.length≤6):kT n f=false:=by unfold kT;rw [decide_eq_false h];rfl
theorem Qn {q:Nat} {f:List Ty} (hq:q<f.length) (h:fO n (nth cL f q)=false):kT n f=false:=by
 have:f.all (fO n)=false:=by
  rw [List.all_eq_false];exact ⟨nth cL f q,bE hq,by rw [h];decide⟩
 unfold kT;rw [this,Bool.and_false]
theorem Oo {f:List Ty} (h:f.length≤6) (ht:∀k,k<f.length->fO n (nth cL f k)=true):kT n f=true:=by
 have:f.all (fO n)=true:=by
  rw [List.all_eq_true]
  intro x hx
  obtain ⟨k,hk,rfl⟩:=List.getElem_of_mem hx
  rw [<-bP hk];exact ht k hk
 unfold kT;rw [this,decide_eq_true h];rfl
theorem ye {q:Nat} {f:List Ty} (hq:q<f.length) (h:fO n (nth cL f q)=false):f.all (fO n)=false:=by
 rw [List.all_eq_false];exact ⟨nth cL f q,bE hq,by rw [h];decide⟩
theorem vM {f:List Ty} (ht:∀k,k<f.length->fO n (nth cL f k)=true):f.all (fO n)=true:=by
 rw [List.all_eq_true]
 intro x hx
 obtain ⟨k,hk,rfl⟩:=List.getElem_of_mem hx
 rw [<-bP hk];exact ht k hk
end
section
variable (A:Option Addr) (n c:Nat) (F:List Ty) (w:World)
theorem fB (hl:dm w A F) :
  Calls Tryz.prog 81 #[int i64 n,.slice A F.length c] w fun e w'=>e=.returned (.bool (F.all (fO n)))/\Bl w w':=by
 obtain ⟨hm,hl⟩:=hl
 unfold maxLen at hm
 have HG:Hid ((∀k,k<F.length->fO n (nth cL F k)=true)->F.all (fO n)=true):=vM
 have HT:Hid (∀q,q<F.length->fO n (nth cL F q)=false->F.all (fO n)=false):=fun q=>ye
 obtain ⟨R,hR⟩:∃R,F.all (fO n)=R:=⟨_,rfl⟩
 rw [hR] at HG HT ⊢
 clear hR
 go_enter Tryz.func81,Tryz.ntmps81
 go_wp2
 go_loopw [9] (fun i wr=>∃q:Nat,q≤F.length/\i=int i64 q/\Hid (∀j,j<q->fO n (nth cL F j)=true)/\Hid (Bl w wr)) (fun i _=>F.length-(intOf i).toNat)
 case atStart=>exact ⟨0,Nat.zero_le _,rfl,fun j hj=>absurd hj (Nat.not_lt_zero _),Bl.refl _⟩
 case round =>
  obtain ⟨q,hq,rfl,mE,hg⟩:=hrel
  by_cases eQ:q<F.length
  ·rcases hl with h0|⟨b,off,rfl,hcell⟩
   ·omega
   obtain ⟨KL,Ol,-,-⟩:=hcell q eQ
   replace KL:=hg.out.cell KL
   replace Ol:=hg.out.cell Ol
   clear hcell HG
   cases hT:fO n (nth cL F q)
   ·have LV:fO n ⟨(nth cL F q).kind,(nth cL F q).cls⟩=false:=hT
    have HF:=HT.out q eQ hT
    clear HT hT
    go_wp2_with (go_at_call 147;refine (oP _ _ _ _).mono ?_;rintro e w1 ⟨rfl,iH⟩)
    go_ret
    exact ⟨aj HF.symm,(hg.out.alloc _).trans iH⟩
   ·have LV:fO n ⟨(nth cL F q).kind,(nth cL F q).cls⟩=true:=hT
    have vi:Hid (fO n (nth cL F q)=true):=hT
    clear hT HT
    go_wp2_with (go_at_call 147;refine (oP _ _ _ _).mono ?_;rintro e w1 ⟨rfl,iH⟩)
    go_roundw
    case rel=>exact ⟨q+1,by omega,by go_num,fun j hj=>if h:j<q then mE.out j h else by have:j=q:=(by omega);subst this;exact vi.out,(hg.out.alloc _).trans iH⟩
    case measure=>simp [intOf];omega
  ·have hkk:q=F.length:=by omega
   subst hkk
   have HF:=HG.out mE.out
   clear HG hl
   go_wp2
   go_ret
   exact ⟨aj HF.symm,hg.out⟩
theorem mq (hl:dm w A F) :
  Calls Tryz.prog 80 #[.slice A F.length c,int i64 n] w fun e w'=>e=.returned (.bool (kT n F))/\Bl w w':=by
 have hm:=hl.1
 unfold maxLen at hm
 by_cases h6:F.length≤6
 ·have hb:kT n F=F.all (fO n):=by unfold kT;rw [decide_eq_true h6];rfl
  rw [hb]
  go_enter Tryz.func80,Tryz.ntmps80
  go_wp2_with (go_at_call 81;refine (fB _ _ _ _ _ hl).mono ?_;rintro e w1 ⟨rfl,iH⟩)
  go_ret
  exact ⟨rfl,iH⟩
 ·have hb:=DH (n:=n) h6
  rw [hb]
  clear hb hl
  go_enter Tryz.func80,Tryz.ntmps80
  go_wp2
  go_ret
  exact ⟨rfl,Bl.refl _⟩
end
def rF (l:List Cl) (i:Nat):Bool:=decide (((i:Int)=0/\(nth cd l i).super=-1)∨((i:Int)≠0/\0≤(nth cd l i).super/\(nth cd l i).super<i))
theorem Hu {l:List Cl} {i:Nat} (hi:i<l.length) (h:rF l i=false):eG l=false:=by
 unfold rF at h
 rw [decide_eq_false_iff_not] at h
 by_cases h0:i=0
 ·subst h0;exact m8 (by omega)
 ·exact sS hi (xZ (by omega))
theorem H8 {l:List Cl} {i:Nat} (hi:i<l.length) (h:kT l.length (nth cd l i).fields=false):eG l=false:=by
 refine sS hi ?_
 by_cases h6:(nth cd l i).fields.length≤6
 ·unfold kT at h
  rw [decide_eq_true h6,Bool.true_and] at h
  unfold rE;rw [h,Bool.and_false]
 ·exact xZ (by omega)
theorem DI {l:List Cl} (h4:4≤l.length) (pN:l.length≤12) (h:∀i,i<l.length->rF l i=true/\kT l.length (nth cd l i).fields=true):eG l=true:=by
 have h0:=(h 0 (by omega)).1
 unfold rF at h0
 rw [decide_eq_true_eq] at h0
 refine vH ⟨h4,pN,by omega⟩ fun i hi=>?_
 obtain ⟨h1,h2⟩:=h i hi
 unfold rF at h1;unfold kT at h2
 rw [decide_eq_true_eq] at h1
 rw [Bool.and_eq_true,decide_eq_true_eq] at h2
 unfold rE
 rw [h2.2,Bool.and_true,decide_eq_true_eq]
 exact ⟨by omega,h2.1⟩
theorem lU (A:Option Addr) (c:Nat) (l:List Cl) (w:World) (hl:cg w A l) :
  Calls Tryz.prog 35 #[.slice A l.length c] w fun e w'=>e=.returned (.bool (eG l))/\Bl w w':=by
 obtain ⟨hm,hl⟩:=hl
 unfold maxLen at hm
 by_cases h4:¬(4≤(l.length:Int)/\(l.length:Int)≤12)
 ·have hb:eG l=false:=m8 (by omega)
  rw [hb]
  clear hb hl
  have hd:decide (4≤(l.length:Int)/\(l.length:Int)≤12)=false:=decide_eq_false h4
  go_enter Tryz.func35,Tryz.ntmps35
  go_wp2_with (go_at_call 36;refine (bh _ _ _ _).mono ?_;rintro e w1 ⟨he,rfl⟩;rw [hd] at he;subst he)
  go_ret
  exact ⟨rfl,Bl.refl _⟩
 replace h4:=Decidable.of_not_not h4
 have hd:decide (4≤(l.length:Int)/\(l.length:Int)≤12)=true:=decide_eq_true h4
 rcases hl with hl|⟨b,off,rfl,hc⟩
 ·omega
 have HB:Hid ((∀i,i<l.length->rF l i=true/\kT l.length (nth cd l i).fields=true)->eG l=true):=DI (by omega) (by omega)
 go_enter Tryz.func35,Tryz.ntmps35
 go_wp2_with (go_at_call 36;refine (bh _ _ _ _).mono ?_;rintro e w1 ⟨he,hw1⟩;rw [hd] at he;subst he;rw [hw1];clear hw1 w1)
 go_loopw [11] (fun i wr=>∃k:Nat,k≤l.length/\i=int i64 k/\Hid (∀j,j<k->rF l j=true/\kT l.length (nth cd l j).fields=true)/\Hid (Bl w wr)) (fun i _=>l.length-(intOf i).toNat)
 case atStart=>exact ⟨0,Nat.zero_le _,rfl,fun j hj=>absurd hj (Nat.not_lt_zero _),Bl.refl _⟩
 case round =>
  obtain ⟨k,hk,rfl,vJ,hg⟩:=hrel
  by_cases hlt:k<l.length
  ·obtain ⟨pO,Ht,A',c',jB,hty⟩:=hc k hlt
   replace pO:=hg.out.cell pO
   replace jB:=hg.out.cell jB
   have Ok:Hid (dm wr A' (nth cd l k).fields):=hty.bl hg.out
   have HS:Hid (rF l k=false->eG l=false):=Hu hlt
   have HF:Hid (kT l.length (nth cd l k).fields=false->eG l=false):=H8 hlt
   clear hc HB hty
   cases hS:rF l k
   ·have kv:=HS.out hS
    have Qo:decide (((k:Int)=0/\(nth cd l k).super=-1)∨((k:Int)≠0/\0≤(nth cd l k).super/\(nth cd l k).super<k))=false:=hS
    clear hS
    go_wp2_with (go_at_call 79;refine (kC _ _ _).mono ?_;rintro e w1 ⟨he,rfl⟩;rw [Qo] at he;subst he)
    go_ret
    exact ⟨aj kv.symm,hg.out.alloc _⟩
   ·have vl:Hid (rF l k=true):=hS
    have Qo:decide (((k:Int)=0/\(nth cd l k).super=-1)∨((k:Int)≠0/\0≤(nth cd l k).super/\(nth cd l k).super<k))=true:=hS
    clear hS
    cases hF:kT l.length (nth cd l k).fields
    ·have kv:=HF.out hF
     go_wp2_with (first
      | (go_at_call 79;refine (kC _ _ _).mono ?_;rintro e w1 ⟨he,rfl⟩;rw [Qo] at he;subst he)
      | (go_at_call 80;refine (mq _ _ _ _ _ (Ok.out.bl ((Bl.refl _).alloc _))).mono ?_;rintro e w1 ⟨he,iH⟩;rw [hF] at he;subst he))
     go_ret
     exact ⟨aj kv.symm,(hg.out.alloc _).trans iH⟩
    ·have KM:Hid (kT l.length (nth cd l k).fields=true):=hF
     go_wp2_with (first
      | (go_at_call 79;refine (kC _ _ _).mono ?_;rintro e w1 ⟨he,rfl⟩;rw [Qo] at he;subst he)
      | (go_at_call 80;refine (mq _ _ _ _ _ (Ok.out.bl ((Bl.refl _).alloc _))).mono ?_;rintro e w1 ⟨he,iH⟩;rw [hF] at he;subst he))
     go_roundw
     case rel=>exact ⟨k+1,by omega,by go_num,fun j hj=>if h:j<k then vJ.out j h else by have:j=k:=(by omega);subst this;exact ⟨vl.out,KM.out⟩,(hg.out.alloc _).trans iH⟩
     case measure=>simp [intOf];omega
  ·have hkk:k=l.length:=by omega
   subst hkk
   have DC:=HB.out vJ.out
   clear HB hc
   go_wp2
   go_ret
   exact ⟨aj DC.symm,hg.out⟩
section
open Go.RowKit Go.Shelf
attribute [local go_sem] Oper.semAt_some
theorem up1_in (F:Fence) (n:Nat) (hf:F.fn 251) (DJ:F.round=none) (hn:1≤n) (lp Bc Bs:Nat) (A:Option Addr) (c:Nat) (l:List Cl) (u:Nat) (ht:Tree l) (hu:u<l.length) (w:World) (J Jx:List Nat->World->Prop)
  (hY:∀pre x W,J pre W->pre.length<(ups l u).length->YieldAt F (n-1) Tryz.prog lp #[int i64 (x:Nat)] W fun e W' =>
   (e=.returned (.bool true)/\J (pre++[x]) W'/\Below w.heap.size W W')∨(e=.returned (.bool false)/\Jx (pre++[x]) W'))
  (hl:cg w A l) (Qp:w.cell? ⟨Bc,0,none⟩=some (int i64 u)) (Qq:w.cell? ⟨Bs,0,none⟩=some (.slice A l.length c)) (W:World) (hW:Bl w W) (h0:J [] W) :
  CallsIn F n Tryz.prog 251 #[.func (.yield lp) #[] #[],.pointer (some ⟨Bc,0,none⟩),.pointer (some ⟨Bs,0,none⟩)] W fun e W'=>(∃v,e=.returned v) /\
   ((∃ys,ys=ups l u/\J ys W')∨(∃pre,pre <+: ups l u/\Jx pre W')):=by
 have HT:Hid (Tree l):=ht
 have HL:Hid (cg w A l):=hl
 have VL:Hid (w.cell? ⟨Bs,0,none⟩=some (.slice A l.length c)):=Qq
 have hc0:=hW.cell Qp
 have HW:Hid (Bl w W):=hW
 clear ht hl Qq Qp hW
 refine callsIn_of_wp Tryz.func251 rfl hf ?_ DJ
 simp only [Tryz.ntmps251,List.size_toArray,List.length_cons,List.length_nil,Nat.reduceAdd,Nat.reduceSub,Array.replicate_succ,Array.replicate_zero,List.push_toArray,List.append_toArray,List.nil_append,List.cons_append]
 gi_wp2
 clear hc0
 gi_loopw [4] (fun p wr=>∃(pre rest:List Nat) (z:Int),p=int i64 z/\Hid (ups l u=pre++rest)/\Hid ((z=-1/\rest=[])∨∃k:Nat,z=k/\k<l.length/\rest=ups l k)/\Hid (Bl w wr)/\J pre wr)
  (fun p _=>(intOf p+1).toNat)
 case atStart=>exact ⟨[],ups l u,_,rfl,rfl,.inr ⟨u,rfl,hu,rfl⟩,HW,h0⟩
 case round =>
  obtain ⟨pre,rest,z,rfl,hx,hz,hg,TQ⟩:=hrel
  rcases hz.out with ⟨rfl,rfl⟩|⟨k,rfl,hk,rfl⟩
  ·clear hz
   gi_wp2
   go_end0
   exact ⟨⟨_,rfl⟩,.inl ⟨pre,by simpa using hx.out.symm,TQ⟩⟩
  ·clear hz
   obtain ⟨fn,tmps,assign,body,hy,hR⟩:=hY pre k wr TQ (by
    rw [hx.out,List.length_append]
    have:=List.length_pos_of_mem (ups_head (l:=l) k)
    omega)
   gi_wp2
   refine hR.mono ?_
   rintro e W3 (⟨rfl,TR,sU⟩|⟨rfl,Rm⟩)
   ·have vm:Bl w W3:=Below.trans hg.out sU
    have Rn:=vm.cell VL.out
    obtain ⟨hm,hcl⟩:=HL.out
    unfold maxLen at hm
    rcases hcl with h1|⟨b,off,rfl,hcl⟩
    ·omega
    have pO:=vm.cell (hcl k hk).1
    by_cases zB:k=0
    ·subst zB
     rw [HT.out.zero,Nat.zero_mul,Nat.add_zero] at pO
     have DK:Hid (ups l u=(pre++[0])++[]):=by rw [hx.out,ups_zero];simp [Hid]
     clear hcl sU hy hR hx
     have HG:Hid (Bl w W3):=vm
     clear vm
     gi_wp2
     go_roundw
     case rel=>exact ⟨pre++[0],[],-1,rfl,DK,.inl ⟨rfl,rfl⟩,HG,TR⟩
     case measure=>simp [intOf]
    ·rw [rV HT.out (by omega) hk] at pO
     have hp:=kY HT.out (by omega) hk
     have DK:Hid (ups l u=(pre++[k])++ups l (par l k)):=by rw [hx.out,ups_step HT.out (by omega) hk];simp [Hid]
     clear hcl sU hy hR hx
     have HG:Hid (Bl w W3):=vm
     clear vm
     gi_wp2
     go_roundw
     case rel=>exact ⟨pre++[k],_,_,rfl,DK,.inr ⟨par l k,rfl,by omega,rfl⟩,HG,TR⟩
     case measure=>simp [intOf];omega
   ·gi_wp2
    refine bodyPost_ret (results_none rfl _ _ _) rfl ?_
    refine ⟨⟨_,rfl⟩,.inr ⟨pre++[k],?_,Rm⟩⟩
    rw [hx.out]
    by_cases zB:k=0
    ·subst zB;rw [ups_zero];exact List.prefix_rfl
    ·rw [ups_step HT.out (by omega) hk];exact ⟨ups l (par l k),by simp⟩
theorem upward_any (A:Option Addr) (n c:Nat) (x:Int) (w:World) :
  Calls Tryz.prog 245 #[.slice A n c,int i64 x] w fun e w' =>
   e=.returned (.func (.func 251) #[] #[.pointer (some ⟨w.heap.size+1,0,none⟩),.pointer (some ⟨w.heap.size,0,none⟩)])
   /\ w'=(w.alloc (.cells #[.slice A n c] 22)).alloc (.cells #[int i64 x] 3):=by
 refine (callsIn_wide (n:=3)).1 ?_
 refine callsIn_of_wp Tryz.func245 rfl trivial ?_ rfl
 simp only [Tryz.ntmps245,List.size_toArray,List.length_cons,List.length_nil,Nat.reduceAdd,Nat.reduceSub,Array.replicate_succ,Array.replicate_zero,List.push_toArray,List.append_toArray,List.nil_append,List.cons_append]
 gi_wp2
 go_ret
 exact ⟨rfl,rfl⟩
theorem up_stops (n:Nat) (hn:1≤n) (Bc Bs:Nat) (A:Option Addr) (c:Nat) (l:List Cl) (u:Nat) (ht:Tree l) (hu:u<l.length) (w:World)
  (hl:cg w A l) (Qp:w.cell? ⟨Bc,0,none⟩=some (int i64 u)) (Qq:w.cell? ⟨Bs,0,none⟩=some (.slice A l.length c)) :
  SeqStopsK Fence.wide n Tryz.prog 251 #[.pointer (some ⟨Bc,0,none⟩),.pointer (some ⟨Bs,0,none⟩)] (fun x:Nat=>#[Value.int .i64 x]) (Below w.heap.size) (fun ys=>ys=ups l u) (fun pre=>pre <+: ups l u) (ups l u).length w :=
 fun lp J Jx W hW _ _ hY h0=>up1_in Fence.wide n trivial rfl hn lp Bc Bs A c l u ht hu w J Jx hY hl Qp Qq W hW h0
end
theorem fP (A:Option Addr) (c:Nat) (l:List Cl) (x y:Int) (w:World) (hl:cg w A l) (ht:Tree l) :
  Calls Tryz.prog 112 #[.slice A l.length c,int i64 x,int i64 y] w fun e w'=>e=.returned (.bool (jU l x y&&fI l x.toNat y.toNat))/\w'=w:=by
 obtain ⟨hm,hl⟩:=hl
 unfold maxLen at hm
 by_cases oQ:0≤x/\x<l.length/\0≤y/\y<l.length
 ·have hI:jU l x y=true:=decide_eq_true oQ
  rw [hI,Bool.true_and]
  clear hI
  obtain ⟨h1,h2,h3,h4⟩:=oQ
  obtain ⟨u,rfl⟩:=Int.eq_ofNat_of_zero_le h1
  obtain ⟨d,rfl⟩:=Int.eq_ofNat_of_zero_le h3
  simp only [Int.toNat_natCast]
  have HT:Hid (Tree l):=ht
  rcases hl with hl|⟨b,off,rfl,hc⟩
  ·omega
  have hu:u<l.length:=by omega
  have hd:d<l.length:=by omega
  clear ht
  go_enter Tryz.func112,Tryz.ntmps112
  go_wp2
  go_loop [1] (fun i=>∃k:Nat,i=int i64 k/\k<l.length/\Hid (fI l u d=fI l k d)) (fun i=>(intOf i).toNat)
  case atStart=>exact ⟨u,rfl,hu,rfl⟩
  case round =>
   obtain ⟨k,rfl,hk,hb⟩:=hrel
   by_cases hlt:d<k
   ·have pO:=(hc k hk).1
    rw [rV HT.out (by omega) hk] at pO
    have hp:=kY HT.out (by omega) hk
    have hs:=Dt HT.out hk hlt
    have HS:Hid (fI l u d=fI l (par l k) d):=hb.out.trans hs
    clear hc hs hb
    go_wp2
    go_round
    case rel=>exact ⟨par l k,rfl,by omega,HS⟩
    case measure=>simp [intOf];omega
   ·have HS:Hid (fI l u d=decide (k=d)):=by
     refine hb.out.trans ?_
     by_cases he:k=d
     ·subst he;rw [Ds,decide_eq_true rfl]
     ·rw [Hl HT.out hk (by omega),decide_eq_false he]
    clear hc hb
    go_wp2
    go_ret
    refine ⟨aj ?_,rfl⟩
    rw [HS.out,Bool.eq_iff_iff];simp;omega
 ·have hI:jU l x y=false:=decide_eq_false oQ
  rw [hI,Bool.false_and]
  clear hI hl ht
  go_enter Tryz.func112,Tryz.ntmps112
  go_wp2
  all_goals first
   | (go_ret;exact ⟨rfl,rfl⟩)
   | (exfalso;omega)
section
open Go.RowKit Go.Shelf
attribute [local go_sem] Oper.semAt_some
theorem nu (A:Option Addr) (c:Nat) (l:List Cl) (u d:Nat) (ht:Tree l) (hu:u<l.length) (w:World) (hl:cg w A l) :
  Calls Tryz.prog 236 #[.slice A l.length c,int i64 u,int i64 d] w fun e w'=>e=.returned (.bool (fI l u d))/\Bl w w':=by
 have HT:Hid (Tree l):=ht
 have HL:Hid (cg w A l):=hl
 clear ht hl
 refine (callsIn_wide (n:=3)).1 ?_
 refine callsIn_of_wp_marks Tryz.func236 rfl trivial ?_ rfl
 simp only [Tryz.ntmps236,List.size_toArray,List.length_cons,List.length_nil,Nat.reduceAdd,Nat.reduceSub,Array.replicate_succ,Array.replicate_zero,List.push_toArray,List.append_toArray,List.nil_append,List.cons_append]
 gi_wp2_with (refine ⟨trivial,?_⟩;gi_at_call 245;refine (callsIn_wide.2 (upward_any _ _ _ _ _)).mono ?_;rintro e w' ⟨rfl,rfl⟩)
 have c0:=Boxed.new w 3 (int i64 (d:Int))
 have c1:=Boxed.new (w.alloc (.cells #[int i64 (d:Int)] 3)) 4 (.bool false)
 have c2:=Boxed.new ((w.alloc (.cells #[int i64 (d:Int)] 3)).alloc (.cells #[.bool false] 4)) 22 (.slice A l.length c)
 have c3:=Boxed.new (((w.alloc (.cells #[int i64 (d:Int)] 3)).alloc (.cells #[.bool false] 4)).alloc (.cells #[.slice A l.length c] 22)) 3 (int i64 (u:Int))
 simp only [World.size_alloc] at c1 c2 c3
 have vN:Bl w ((((w.alloc (.cells #[int i64 (d:Int)] 3)).alloc (.cells #[.bool false] 4)).alloc (.cells #[.slice A l.length c] 22)).alloc (.cells #[int i64 (u:Int)] 3)):=((((Bl.refl w).alloc _).alloc _).alloc _).alloc _
 refine wpIn_rangeFunc_ownF (F:=Fence.wide) rfl (by omega) (gf:=251) (lb:=#[.pointer (some ⟨w.heap.size+1+1+1,0,none⟩),.pointer (some ⟨w.heap.size+1+1,0,none⟩)]) rfl trivial (enters_of Tryz.func251 (by kernel_rfl) rfl)
  (up_stops _ (by omega) (w.heap.size+1+1+1) (w.heap.size+1+1) A c l u HT.out hu _ (HL.out.bl vN) c3.cell (c2.alloc _).cell) belowK_t (belowK_b (Nat.le_refl _)) (Below.refl _ _) (fun _=>rfl)
  (fun pre W=>((∀y∈pre,y≠d)/\Boxed W w.heap.size 3 (int i64 (d:Int))/\Boxed W (w.heap.size+1) 4 (.bool false))/\Below w.heap.size w W)
  (fun c pre W=>(c=.ret/\d∈pre/\Boxed W (w.heap.size+1) 4 (.bool true))/\Below w.heap.size w W)
  (OwnFrom.and (Own.from (fun s X Y row hs hg hr=>⟨hs.1,boxed_own _ _ (fun _=>_) s X Y row hs.2.1 hg hr,boxed_own _ _ (fun _=>_) s X Y row hs.2.2 hg hr⟩) _) (ownFrom_below (Nat.le_refl _) vN.size))
  (fun c=>OwnFrom.and (Own.from (fun s X Y row hs hg hr=>⟨hs.1,hs.2.1,boxed_own _ _ (fun _=>_) s X Y row hs.2.2 hg hr⟩) _) (ownFrom_below (Nat.le_refl _) vN.size))
  ⟨⟨by simp,((c0.alloc _).alloc _).alloc _,(c1.alloc _).alloc _⟩,vN⟩
  (fun x=>{ tmps:=#[.slice A l.length c,int i64 u,int i64 d,undef,undef,.pointer (some ⟨w.heap.size,0,none⟩),.pointer (some ⟨w.heap.size+1,0,none⟩),int i64 (x:Int),.slice A l.length c,int i64 u,
   .func (.func 251) #[] #[.pointer (some ⟨w.heap.size+1+1+1,0,none⟩),.pointer (some ⟨w.heap.size+1+1,0,none⟩)],int i64 (x:Int),undef,undef,undef],defers:=[] }) ?assign ?body ?done ?stop
 case assign =>
  intro l x W K hK
  gi_wp2
  exact hK
 case body =>
  rintro lp pre x W ⟨⟨hp,Ro,hcr⟩,hB⟩ _
  have h1:=Ro.cell
  have h2:=hcr.cell
  have h3:=hcr.frozen
  have HB:Hid (Below w.heap.size w W):=hB
  have HC:Hid (Boxed W (w.heap.size+1) 4 (.bool false)):=hcr
  have HW:Hid (Boxed W w.heap.size 3 (int i64 (d:Int))):=Ro
  clear hB hcr Ro c0 c1 c2 c3 vN
  by_cases hx:x=d
  ·subst hx
   gi_wp2
   exact ⟨KeepsOthers.setCell _ _ _,⟨rfl,List.mem_append.2 (.inr (by simp)),HC.out.set _⟩,HB.out.setCell (p:=⟨w.heap.size+1,0,none⟩) (by simp) _⟩
  ·have DK:((x:Int)==(d:Int))=false:=by simp;omega
   gi_wp2
   exact ⟨KeepsOthers.refl _,Below.refl _ _,⟨fun y hy=>(List.mem_append.1 hy).elim (hp y) (fun e=>by simp at e;subst e;exact hx),HW,HC⟩,HB⟩
 case done =>
  rintro D ys W hD rfl ⟨⟨hne,_,hcr⟩,hB⟩ hK
  have h2:=hcr.cell
  have h3:=hcr.frozen
  gi_wp2
  have hK':=(KeepsOthers.setCell W ⟨w.heap.size+1,0,none⟩ (.bool false)).same D _ hK rfl
  refine ⟨by simp,.inl ⟨_,_,rfl,run_takeDeferred hK',?_⟩⟩
  have LX:=cell_kept (hcr.set (.bool false)).cell (grownBy_putObj' _ D (.deferred none)) (fun r e=>by cases e;exact ⟨_,hK',rfl⟩)
  refine ⟨.bool false,?_,by rw [show fI l u d=false from decide_eq_false (fun h=>hne d h rfl)],(hB.setCell (p:=⟨w.heap.size+1,0,none⟩) (by simp) _).trans (belowK_b (w:=w) (Nat.le_refl _) _ D _ _ (by simp at hD;omega) hK' rfl rfl)⟩
  simp [results,Tryz.f236,go_sem,LX]
 case stop =>
  rintro D c pre W hD hpre ⟨⟨rfl,oQ,hcr⟩,hB⟩ hK
  gi_wp2
  refine ⟨by simp,.inl ⟨_,_,rfl,run_takeDeferred hK,?_⟩⟩
  have LX:=cell_kept hcr.cell (grownBy_putObj' _ D (.deferred none)) (fun r e=>by cases e;exact ⟨_,hK,rfl⟩)
  refine ⟨.bool true,?_,by rw [pB.2 (hpre.subset oQ)],hB.trans (belowK_b (w:=w) (Nat.le_refl _) W D _ _ (by simp at hD;omega) hK rfl rfl)⟩
  simp [results,Tryz.f236,go_sem,LX]
end
section
open Go.RowKit Go.Shelf
attribute [local go_sem] Oper.semAt_some
theorem Bl.boxed {W W':World} (h:Bl W W') {B:Nat} {t:TypeId} {v:Value} (hb:Boxed W B t v):Boxed W' B t v:=(Below.block h B hb.lt).trans hb
theorem Bl.keeps {W W':World} (h:Bl W W'):KeepsOthers W W':=⟨h.size,fun i _ hi _=>(Below.block h i (Array.getElem?_eq_some_iff.1 hi).1).trans hi⟩
section
variable (A:Option Addr) (c:Nat) (l:List Cl) (x y:Int) (w:World)
theorem gx (hl:cg w A l) :
  Calls Tryz.prog 235 #[.slice A l.length c,int i64 x,int i64 y] w fun e w'=>e=.returned (.bool (eG l&&jU l x y))/\Bl w w':=by
 have HL:Hid (cg w A l):=hl
 clear hl
 have hc:jU l x y=(decide (0≤x/\x<l.length)&&decide (0≤y/\y<l.length)):=by
  unfold jU;rw [Bool.eq_iff_iff];simp;omega
 rw [hc]
 clear hc
 cases hm:eG l
 ·go_enter Tryz.func235,Tryz.ntmps235
  go_wp2_with (go_at_call 35;refine (lU _ _ _ _ HL.out).mono ?_;rintro e w1 ⟨he,hg⟩;rw [hm] at he;subst he)
  go_ret
  exact ⟨rfl,hg⟩
 ·cases hx:decide (0≤x/\x<l.length)
  ·go_enter Tryz.func235,Tryz.ntmps235
   go_wp2_with (first
    | (go_at_call 35;refine (lU _ _ _ _ HL.out).mono ?_;rintro e w1 ⟨he,hg⟩;rw [hm] at he;subst he)
    | (go_at_call 99;refine (bd _ _ _).mono ?_;rintro e w2 ⟨he,rfl⟩;rw [hx] at he;subst he))
   go_ret
   exact ⟨rfl,hg⟩
  ·go_enter Tryz.func235,Tryz.ntmps235
   go_wp2_with (first
    | (go_at_call 35;refine (lU _ _ _ _ HL.out).mono ?_;rintro e w1 ⟨he,hg⟩;rw [hm] at he;subst he)
    | (go_at_call 99;refine (bd _ _ _).mono ?_;rintro e w2 ⟨he,rfl⟩;(try rw [hx] at he);subst he))
   go_ret
   exact ⟨aj (by rw [Bool.eq_iff_iff];simp),hg⟩
theorem yf (hl:cg w A l) :
  Calls Tryz.prog 213 #[.slice A l.length c,int i64 x,int i64 y] w fun e w'=>e=.returned (.bool (Dv l x y))/\Bl w w':=by
 have HL:Hid (cg w A l):=hl
 clear hl
 unfold Dv
 cases hm:(eG l&&jU l x y)
 ·rw [Bool.false_and]
  go_enter Tryz.func213,Tryz.ntmps213
  go_wp2_with (go_at_call 235;refine (gx _ _ _ _ _ _ HL.out).mono ?_;rintro e w1 ⟨he,hg⟩;rw [hm] at he;subst he)
  go_ret
  exact ⟨rfl,hg⟩
 ·rw [Bool.true_and]
  have jy:=Bool.and_eq_true_iff.1 hm
  have HT:Hid (Tree l):=(ng jy.1).1
  have oQ:0≤x/\x<l.length/\0≤y/\y<l.length:=of_decide_eq_true jy.2
  clear jy
  obtain ⟨h1,h2,h3,h4⟩:=oQ
  obtain ⟨u,rfl⟩:=Int.eq_ofNat_of_zero_le h1
  obtain ⟨d,rfl⟩:=Int.eq_ofNat_of_zero_le h3
  simp only [Int.toNat_natCast]
  have hu:u<l.length:=by omega
  clear h1 h2 h3 h4
  go_enter Tryz.func213,Tryz.ntmps213
  go_wp2_with (first
   | (go_at_call 235;refine (gx _ _ _ _ _ _ HL.out).mono ?_;rintro e w1 ⟨he,hg⟩;rw [hm] at he;subst he)
   | (go_at_call 236;refine (nu _ _ _ _ _ HT.out hu _ (HL.out.bl hg)).mono ?_;rintro e w2 ⟨rfl,eY⟩))
  go_ret
  exact ⟨rfl,hg.trans eY⟩
theorem NK (hl:cg w A l) :
  Calls Tryz.prog 252 #[.slice A l.length c,int i64 x,int i64 y] w fun e w'=>e=.returned (int i64 (KI l x y))/\Bl w w':=by
 have HL:Hid (cg w A l):=hl
 clear hl
 unfold KI
 have b0:=Boxed.new w 22 (.slice A l.length c)
 have b1:=Boxed.new (w.alloc (.cells #[.slice A l.length c] 22)) 3 (int i64 y)
 have b2:=Boxed.new ((w.alloc (.cells #[.slice A l.length c] 22)).alloc (.cells #[int i64 y] 3)) 3 (int i64 0)
 simp only [World.size_alloc] at b1 b2
 have Ia:Hid (Boxed (((w.alloc (.cells #[.slice A l.length c] 22)).alloc (.cells #[int i64 y] 3)).alloc (.cells #[int i64 0] 3)) w.heap.size 22 (.slice A l.length c)):=(b0.alloc _).alloc _
 have j6:Hid (Boxed (((w.alloc (.cells #[.slice A l.length c] 22)).alloc (.cells #[int i64 y] 3)).alloc (.cells #[int i64 0] 3)) (w.heap.size+1) 3 (int i64 y)):=b1.alloc _
 have DL:Hid (Boxed (((w.alloc (.cells #[.slice A l.length c] 22)).alloc (.cells #[int i64 y] 3)).alloc (.cells #[int i64 0] 3)) (w.heap.size+1+1) 3 (int i64 0)):=b2
 clear b0 b1 b2
 have HW:Hid (Bl w (((w.alloc (.cells #[.slice A l.length c] 22)).alloc (.cells #[int i64 y] 3)).alloc (.cells #[int i64 0] 3))):=(((Bl.refl w).alloc _).alloc _).alloc _
 refine (callsIn_wide (n:=3)).1 ?_
 refine callsIn_of_wp_marks Tryz.func252 rfl trivial ?_ rfl
 simp only [Tryz.ntmps252,List.size_toArray,List.length_cons,List.length_nil,Nat.reduceAdd,Nat.reduceSub,Array.replicate_succ,Array.replicate_zero,List.push_toArray,List.append_toArray,List.nil_append,List.cons_append]
 cases hm:(eG l&&jU l x y)
 ·gi_wp2_with (refine ⟨trivial,?_⟩;gi_at_call 235;refine (callsIn_wide.2 (gx _ _ _ _ _ _ (HL.out.bl HW.out))).mono ?_;rintro e w1 ⟨he,hg⟩;rw [hm] at he;subst he;have q0:=(hg.boxed DL.out).cell;have q1:=(hg.boxed DL.out).frozen)
  have LX:=((hg.boxed DL.out).set (int i64 (-1))).cell
  exact ⟨_,by simp [results,Tryz.f252,go_sem,LX],rfl,(HW.out.trans hg).setCell (p:=⟨w.heap.size+1+1,0,none⟩) (by simp;omega) _⟩
 ·have jy:=Bool.and_eq_true_iff.1 hm
  have HT:Hid (Tree l):=(ng jy.1).1
  have oQ:0≤x/\x<l.length/\0≤y/\y<l.length:=of_decide_eq_true jy.2
  clear jy
  rw [if_pos rfl]
  obtain ⟨h1,h2,h3,h4⟩:=oQ
  obtain ⟨u,rfl⟩:=Int.eq_ofNat_of_zero_le h1
  obtain ⟨d,rfl⟩:=Int.eq_ofNat_of_zero_le h3
  simp only [Int.toNat_natCast]
  have hu:u<l.length:=by omega
  have hd:d<l.length:=by omega
  clear h1 h2 h3 h4
  gi_wp2_with (first
   | (refine ⟨trivial,?_⟩;gi_at_call 235;refine (callsIn_wide.2 (gx _ _ _ _ _ _ (HL.out.bl HW.out))).mono ?_;rintro e w1 ⟨he,hg⟩;rw [hm] at he;subst he;have q0:=(hg.boxed Ia.out).cell;have q1:=(hg.boxed j6.out).cell)
   | (refine ⟨trivial,?_⟩;gi_at_call 245;refine (callsIn_wide.2 (upward_any _ _ _ _ _)).mono ?_;rintro e w' ⟨rfl,rfl⟩))
  have b0:=((hg.boxed Ia.out).alloc (.cells #[.slice A l.length c] 22)).alloc (.cells #[int i64 (u:Int)] 3)
  have b1:=((hg.boxed j6.out).alloc (.cells #[.slice A l.length c] 22)).alloc (.cells #[int i64 (u:Int)] 3)
  have b2:=((hg.boxed DL.out).alloc (.cells #[.slice A l.length c] 22)).alloc (.cells #[int i64 (u:Int)] 3)
  have b3:=(Boxed.new w1 22 (.slice A l.length c)).alloc (.cells #[int i64 (u:Int)] 3)
  have b4:=Boxed.new (w1.alloc (.cells #[.slice A l.length c] 22)) 3 (int i64 (u:Int))
  rw [World.size_alloc] at b4
  have KN:Bl w ((w1.alloc (.cells #[.slice A l.length c] 22)).alloc (.cells #[int i64 (u:Int)] 3)):=((HW.out.trans hg).alloc _).alloc _
  have hsz:w.heap.size+1+1+1≤w1.heap.size:=by have:=hg.size;simpa using this
  obtain ⟨W0,Rp⟩:∃W0,(w1.alloc (.cells #[.slice A l.length c] 22)).alloc (.cells #[int i64 (u:Int)] 3)=W0:=⟨_,rfl⟩
  have Rq:w1.heap.size≤W0.heap.size:=by rw [<-Rp];simp;omega
  rw [Rp] at b0 b1 b2 b3 b4 KN ⊢
  clear Rp q0 q1 Ia j6 DL HW
  refine wpIn_rangeFunc_ownF (F:=Fence.wide) rfl (by omega) (gf:=251) (lb:=#[.pointer (some ⟨w1.heap.size+1,0,none⟩),.pointer (some ⟨w1.heap.size,0,none⟩)]) rfl trivial (enters_of Tryz.func251 (by kernel_rfl) rfl)
   (up_stops _ (by omega) (w1.heap.size+1) w1.heap.size A c l u HT.out hu W0 (HL.out.bl KN) b4.cell b3.cell) belowK_t (belowK_b (Nat.le_refl _)) (Below.refl _ _) (fun _=>rfl)
   (fun pre W=>((∀y∈pre,y∉ups l d)/\Boxed W w.heap.size 22 (.slice A l.length c)/\Boxed W (w.heap.size+1) 3 (int i64 (d:Int))/\Boxed W (w.heap.size+1+1) 3 (int i64 0))/\(W0.heap.size≤W.heap.size)/\Below w.heap.size w W)
   (fun c pre W=>(c=.ret/\∃Ib j,pre=Ib++[j]/\(∀y∈Ib,y∉ups l d)/\j∈ups l d/\Boxed W (w.heap.size+1+1) 3 (int i64 (j:Nat)))/\Below w.heap.size w W)
   (OwnFrom.and (Own.from (fun s X Y row hs hg hr=>⟨hs.1,boxed_own _ _ (fun _=>_) s X Y row hs.2.1 hg hr,boxed_own _ _ (fun _=>_) s X Y row hs.2.2.1 hg hr,boxed_own _ _ (fun _=>_) s X Y row hs.2.2.2 hg hr⟩) _)
    (OwnFrom.and (fun _ _ _ _ hs hg _=>Nat.le_trans hs hg.size) (ownFrom_below (Nat.le_refl _) KN.size)))
   (fun c=>OwnFrom.and (Own.from (fun s X Y row hs hg hr=>by
    obtain ⟨h1,p,j,h2,h3,h4,h5⟩:=hs
    exact ⟨h1,p,j,h2,h3,h4,boxed_own _ _ (fun _=>_) s X Y row h5 hg hr⟩) _) (ownFrom_below (Nat.le_refl _) KN.size))
   ⟨⟨by simp,b0,b1,b2⟩,Nat.le_refl _,KN⟩
   (fun x=>{ tmps:=#[.slice A l.length c,int i64 u,int i64 d,.pointer (some ⟨w.heap.size,0,none⟩),undef,.pointer (some ⟨w.heap.size+1,0,none⟩),.pointer (some ⟨w.heap.size+1+1,0,none⟩),int i64 (x:Int),.slice A l.length c,int i64 u,int i64 d,.bool true,.bool false,
    .slice A l.length c,int i64 u,.func (.func 251) #[] #[.pointer (some ⟨w1.heap.size+1,0,none⟩),.pointer (some ⟨w1.heap.size,0,none⟩)],int i64 (x:Int),undef,undef,undef,undef,undef],defers:=[] }) ?assign ?body ?done ?stop
  case assign =>
   intro l x W K hK
   gi_wp2
   exact hK
  case body =>
   rintro lp pre x W ⟨⟨hp,k0,k1,k2⟩,hS,hB⟩ _
   have h0:=k0.cell
   have h1:=k1.cell
   have h2:=k2.cell
   have h3:=k2.frozen
   have HB:Hid (Below w.heap.size w W):=hB
   have HK:Hid (Boxed W w.heap.size 22 (.slice A l.length c)/\Boxed W (w.heap.size+1) 3 (int i64 (d:Int))/\Boxed W (w.heap.size+1+1) 3 (int i64 0)):=⟨k0,k1,k2⟩
   have TS:Hid (cg W A l):=HL.out.bl hB
   have HS:Hid (W0.heap.size≤W.heap.size):=hS
   have HP:Hid (∀y∈pre,y∉ups l d):=hp
   clear hB k0 k1 k2 b0 b1 b2 b3 b4 KN hS hp
   cases hb:fI l d x
   ·have HX:Hid (x∉ups l d):=by intro h;rw [pB.2 h] at hb;exact absurd hb (by decide)
    gi_wp2_with (refine ⟨trivial,?_⟩;gi_at_call 236;refine (CallsIn.inRound lp (callsIn_wide.2 (nu _ _ _ _ _ HT.out hd _ TS.out))).mono ?_;rintro e W2 ⟨he,eY⟩;rw [hb] at he;subst he)
    refine ⟨eY.keeps,Below.mono eY HS.out,⟨fun y hy=>(List.mem_append.1 hy).elim (HP.out y) (fun e=>by simp at e;subst e;exact HX.out),eY.boxed HK.out.1,eY.boxed HK.out.2.1,eY.boxed HK.out.2.2⟩,Nat.le_trans HS.out eY.size,Bl.trans HB.out eY⟩
   ·have HX:Hid (x∈ups l d):=pB.1 hb
    gi_wp2_with (refine ⟨trivial,?_⟩;gi_at_call 236;refine (CallsIn.inRound lp (callsIn_wide.2 (nu _ _ _ _ _ HT.out hd _ TS.out))).mono ?_;rintro e W2 ⟨he,eY⟩;rw [hb] at he;subst he;have m0:=(eY.boxed HK.out.2.2).cell;have m1:=(eY.boxed HK.out.2.2).frozen)
    exact ⟨eY.keeps.trans (KeepsOthers.setCell _ _ _),⟨rfl,pre,x,rfl,HP.out,HX.out,(eY.boxed HK.out.2.2).set _⟩,(Bl.trans HB.out eY).setCell (p:=⟨w.heap.size+1+1,0,none⟩) (by simp;omega) _⟩
  case done =>
   rintro D ys W hD rfl ⟨⟨hne,_,_,_⟩,_,_⟩ hK
   exact absurd (ups_root HT.out d hd) (hne 0 (ups_root HT.out u hu))
  case stop =>
   rintro D c pre W hD hpre ⟨⟨rfl,Ib,j,rfl,hne,hj,hcr⟩,hB⟩ hK
   obtain ⟨post,KO⟩:=hpre
   have HJ:Hid (zv l u d=j):=zw (vI HT.out hu (pre:=Ib) (post:=post) (by rw [<-KO];simp) hne hj)
   clear KO
   gi_wp2
   refine ⟨by simp,.inl ⟨_,_,rfl,run_takeDeferred hK,?_⟩⟩
   have LX:=cell_kept hcr.cell (grownBy_putObj' _ D (.deferred none)) (fun r e=>by cases e;exact ⟨_,hK,rfl⟩)
   refine ⟨int i64 (j:Nat),?_,by rw [HJ.out],hB.trans (belowK_b (w:=w) (Nat.le_refl _) W D _ _ (by omega) hK rfl rfl)⟩
   simp [results,Tryz.f252,go_sem,LX]
end
end
end Go.Proofs.YtimjmdfokicbkaaGreat
