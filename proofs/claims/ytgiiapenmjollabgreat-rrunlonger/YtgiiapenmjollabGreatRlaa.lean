import Derived.WalkKit
import Derived.RowKit3
import Derived.Deep.Slices
import Derived.Below
namespace Go.Proofs.YtgiiapenmjollabGreat
set_option linter.all false
set_option maxHeartbeats 40000000
set_option maxRecDepth 100000
open Go.RowKit
structure Ty where
 kind:Int
 cls:Int
structure Cl where
 super:Int
 fields:List Ty
structure In where
 op:Int
 a:Int
 b:Int
 c:Int
 n:Int
 args:List Int
structure Hd where
 fr:Int
 til:Int
 pc:Int
 cls:Int
structure Me where
 params:List Ty
 ret:Ty
 stack:Int
 locs:Int
 regs:Int
 code:List In
 hands:List Hd
structure Fi where
 classes:List Cl
 methods:List Me
def ty0:Ty:=⟨0,0⟩
def cl0:Cl:=⟨0,[]⟩
def in0:In:=⟨0,0,0,0,0,[]⟩
def hd0:Hd:=⟨0,0,0,0⟩
def me0:Me:=⟨[],ty0,0,0,0,[],[]⟩
def nth {α:Type} (d:α) (l:List α) (i:Nat):α:=l.getD i d
theorem nth_mem {α:Type} {d:α} {l:List α} {i:Nat} (h:i<l.length):nth d l i∈l:=by simp [nth,List.getD,h]
theorem nth_get {α:Type} {d:α} {l:List α} {i:Nat} (h:i<l.length):nth d l i=l[i]:=by simp [nth,List.getD,h]
def I64 (n:Int):Prop:=-9223372036854775808≤n∧n≤9223372036854775807
def TysAt (w:World) (A:Option Addr) (l:List Ty):Prop :=
 l.length≤maxLen∧(l.length=0∨∃b off,A=some ⟨b,off,none⟩∧∀i,i<l.length →
  w.cell? ⟨b,off+i*2,none⟩=some (.int .i64 (nth ty0 l i).kind)∧w.cell? ⟨b,off+i*2+1,none⟩=some (.int .i64 (nth ty0 l i).cls)
  ∧ I64 (nth ty0 l i).kind∧I64 (nth ty0 l i).cls)
def ClsAt (w:World) (A:Option Addr) (l:List Cl):Prop :=
 l.length≤maxLen∧(l.length=0∨∃b off,A=some ⟨b,off,none⟩∧∀i,i<l.length →
  w.cell? ⟨b,off+i*2,none⟩=some (.int .i64 (nth cl0 l i).super)∧I64 (nth cl0 l i).super ∧
  ∃A' c,w.cell? ⟨b,off+i*2+1,none⟩=some (.slice A' (nth cl0 l i).fields.length c)∧TysAt w A' (nth cl0 l i).fields)
def IntsAt (w:World) (A:Option Addr) (l:List Int):Prop :=
 l.length≤maxLen∧(l.length=0∨∃b off,A=some ⟨b,off,none⟩∧∀i,i<l.length→w.cell? ⟨b,off+i,none⟩=some (.int .i64 (nth (0:Int) l i))∧I64 (nth (0:Int) l i))
def In.ok (x:In):Prop:=I64 x.op∧I64 x.a∧I64 x.b∧I64 x.c∧I64 x.n
def InsAt (w:World) (A:Option Addr) (l:List In):Prop :=
 l.length≤maxLen∧(l.length=0∨∃b off,A=some ⟨b,off,none⟩∧∀i,i<l.length →
  w.cell? ⟨b,off+i*6,none⟩=some (.int .i64 (nth in0 l i).op)∧w.cell? ⟨b,off+i*6+1,none⟩=some (.int .i64 (nth in0 l i).a)∧w.cell? ⟨b,off+i*6+2,none⟩=some (.int .i64 (nth in0 l i).b)
  ∧ w.cell? ⟨b,off+i*6+3,none⟩=some (.int .i64 (nth in0 l i).c)∧w.cell? ⟨b,off+i*6+4,none⟩=some (.int .i64 (nth in0 l i).n)∧(nth in0 l i).ok
  ∧ ∃A' c,w.cell? ⟨b,off+i*6+5,none⟩=some (.slice A' (nth in0 l i).args.length c)∧IntsAt w A' (nth in0 l i).args)
def Hd.ok (x:Hd):Prop:=I64 x.fr∧I64 x.til∧I64 x.pc∧I64 x.cls
def HdsAt (w:World) (A:Option Addr) (l:List Hd):Prop :=
 l.length≤maxLen∧(l.length=0∨∃b off,A=some ⟨b,off,none⟩∧∀i,i<l.length →
  w.cell? ⟨b,off+i*4,none⟩=some (.int .i64 (nth hd0 l i).fr)∧w.cell? ⟨b,off+i*4+1,none⟩=some (.int .i64 (nth hd0 l i).til)∧w.cell? ⟨b,off+i*4+2,none⟩=some (.int .i64 (nth hd0 l i).pc)
  ∧ w.cell? ⟨b,off+i*4+3,none⟩=some (.int .i64 (nth hd0 l i).cls)∧(nth hd0 l i).ok)
def Me.ok (x:Me):Prop:=I64 x.ret.kind∧I64 x.ret.cls∧I64 x.stack∧I64 x.locs∧I64 x.regs
def MeAt (w:World) (m:Me) (P C K:Option Addr):Prop:=TysAt w P m.params∧InsAt w C m.code∧HdsAt w K m.hands∧m.ok
def MesAt (w:World) (A:Option Addr) (l:List Me):Prop :=
 l.length≤maxLen∧(l.length=0∨∃b off,A=some ⟨b,off,none⟩∧∀i,i<l.length→∃P C K p c k,
  w.cell? ⟨b,off+i*8,none⟩=some (.slice P (nth me0 l i).params.length p)∧w.cell? ⟨b,off+i*8+1,none⟩=some (.int .i64 (nth me0 l i).ret.kind)∧w.cell? ⟨b,off+i*8+2,none⟩=some (.int .i64 (nth me0 l i).ret.cls)
  ∧ w.cell? ⟨b,off+i*8+3,none⟩=some (.int .i64 (nth me0 l i).stack)∧w.cell? ⟨b,off+i*8+4,none⟩=some (.int .i64 (nth me0 l i).locs)∧w.cell? ⟨b,off+i*8+5,none⟩=some (.int .i64 (nth me0 l i).regs)
  ∧ w.cell? ⟨b,off+i*8+6,none⟩=some (.slice C (nth me0 l i).code.length c)∧w.cell? ⟨b,off+i*8+7,none⟩=some (.slice K (nth me0 l i).hands.length k)∧MeAt w (nth me0 l i) P C K)
def Bl (w w':World):Prop:=Below w.heap.size w w'
theorem Bl.refl (w:World):Bl w w:=Below.refl _ _
theorem Bl.trans {a b c:World} (h:Bl a b) (k:Bl b c):Bl a c:=Below.trans h (Below.mono k h.size)
theorem Bl.alloc {a w:World} (h:Bl a w) (o:Obj):Bl a (w.alloc o):=Below.alloc h h.size o
theorem Bl.drew {a w:World} (h:Bl a w):Bl a w.drew:=Below.drew h
theorem Bl.setCell {a w:World} (h:Bl a w) {p:Addr} (hp:a.heap.size≤p.block) (u:Value):Bl a (w.setCell p u):=Below.setCell h hp u
theorem Bl.size {a w:World} (h:Bl a w):a.heap.size≤w.heap.size:=Below.size h
theorem cell_lt {w:World} {b o:Nat} {v:Value} (hc:w.cell? ⟨b,o,none⟩=some v):b<w.heap.size:=by
 by_cases hb:b<w.heap.size
 ·exact hb
 ·simp [World.cell?,hb] at hc
theorem cell_of_new {w:World} {cs:Array Value} {t:TypeId} {o:Nat} {v:Value} (h:cs[o]?=some v):(w.alloc (.cells cs t)).cell? ⟨w.heap.size,o,none⟩=some v:=by
 have e:(w.alloc (.cells cs t)).heap[w.heap.size]?=some (.cells cs t):=by
  show (w.heap.push _)[w.heap.size]?=_
  simp
 unfold World.cell?
 rw [e]
 simpa using h
theorem Bl.cell {W w':World} (h:Bl W w') {b o:Nat} {v:Value} (hc:W.cell? ⟨b,o,none⟩=some v):w'.cell? ⟨b,o,none⟩=some v :=
 (Below.cell h (p:=⟨b,o,none⟩) (cell_lt hc)).trans hc
theorem IntsAt.bl {W w':World} (h:Bl W w') {A:Option Addr} {l:List Int} (hl:IntsAt W A l):IntsAt w' A l:=by
 refine ⟨hl.1,?_⟩
 rcases hl.2 with h0|⟨b,off,rfl,hi⟩
 ·exact Or.inl h0
 right
 exact ⟨b,off,rfl,fun i hlt=>⟨h.cell (hi i hlt).1,(hi i hlt).2⟩⟩
theorem InsAt.bl {W w':World} (h:Bl W w') {A:Option Addr} {l:List In} (hl:InsAt W A l):InsAt w' A l:=by
 refine ⟨hl.1,?_⟩
 rcases hl.2 with h0|⟨b,off,rfl,hi⟩
 ·exact Or.inl h0
 right
 refine ⟨b,off,rfl,fun i hlt=>?_⟩
 obtain ⟨h0,h1,h2,h3,h4,h5,A',c,h6,h7⟩:=hi i hlt
 exact ⟨h.cell h0,h.cell h1,h.cell h2,h.cell h3,h.cell h4,h5,A',c,h.cell h6,h7.bl h⟩
theorem HdsAt.bl {W w':World} (h:Bl W w') {A:Option Addr} {l:List Hd} (hl:HdsAt W A l):HdsAt w' A l:=by
 refine ⟨hl.1,?_⟩
 rcases hl.2 with h0|⟨b,off,rfl,hi⟩
 ·exact Or.inl h0
 right
 refine ⟨b,off,rfl,fun i hlt=>?_⟩
 obtain ⟨h0,h1,h2,h3,h4⟩:=hi i hlt
 exact ⟨h.cell h0,h.cell h1,h.cell h2,h.cell h3,h4⟩
theorem TysAt.bl {W w':World} (h:Bl W w') {A:Option Addr} {l:List Ty} (hl:TysAt W A l):TysAt w' A l:=by
 refine ⟨hl.1,?_⟩
 rcases hl.2 with h0|⟨b,off,rfl,hi⟩
 ·exact Or.inl h0
 right
 exact ⟨b,off,rfl,fun i hlt=>⟨h.cell (hi i hlt).1,h.cell (hi i hlt).2.1,(hi i hlt).2.2⟩⟩
theorem ClsAt.bl {W w':World} (h:Bl W w') {A:Option Addr} {l:List Cl} (hl:ClsAt W A l):ClsAt w' A l:=by
 refine ⟨hl.1,?_⟩
 rcases hl.2 with h0|⟨b,off,rfl,hi⟩
 ·exact Or.inl h0
 right
 refine ⟨b,off,rfl,fun i hlt=>⟨h.cell (hi i hlt).1,(hi i hlt).2.1,?_⟩⟩
 obtain ⟨A',c,h1,h2⟩:=(hi i hlt).2.2
 exact ⟨A',c,h.cell h1,h2.bl h⟩
theorem MeAt.bl {W w':World} (h:Bl W w') {m:Me} {P C K:Option Addr} (hl:MeAt W m P C K):MeAt w' m P C K :=
 ⟨hl.1.bl h,hl.2.1.bl h,hl.2.2.1.bl h,hl.2.2.2⟩
theorem MesAt.bl {W w':World} (h:Bl W w') {A:Option Addr} {l:List Me} (hl:MesAt W A l):MesAt w' A l:=by
 refine ⟨hl.1,?_⟩
 rcases hl.2 with h0|⟨b,off,rfl,hi⟩
 ·exact Or.inl h0
 right
 refine ⟨b,off,rfl,fun i hlt=>?_⟩
 obtain ⟨P,C,K,p,c,k,h0,h1,h2,h3,h4,h5,h6,h7,h8⟩:=hi i hlt
 exact ⟨P,C,K,p,c,k,h.cell h0,h.cell h1,h.cell h2,h.cell h3,h.cell h4,h.cell h5,h.cell h6,h.cell h7,h8.bl h⟩
def tyB (n:Nat) (t:Ty):Bool:=decide ((t.kind=3∧0≤t.cls∧t.cls<n)∨((t.kind=1∨t.kind=2)∧t.cls=0))
def clB (l:List Cl) (i:Nat):Bool :=
 decide ((i=0∨(0≤(nth cl0 l i).super∧(nth cl0 l i).super<i))∧(nth cl0 l i).fields.length≤6)&&(nth cl0 l i).fields.all (tyB l.length)
def mayB (l:List Cl):Bool:=decide (4≤l.length∧l.length≤12∧(nth cl0 l 0).super=-1)&&(List.range l.length).all (clB l)
theorem may_few {l:List Cl} (h:l.length<4∨12<l.length∨(nth cl0 l 0).super≠-1):mayB l=false:=by
 have:¬(4≤l.length∧l.length≤12∧(nth cl0 l 0).super=-1):=by omega
 unfold mayB;rw [decide_eq_false this];rfl
theorem may_cl {l:List Cl} {i:Nat} (hi:i<l.length) (h:clB l i=false):mayB l=false:=by
 have:(List.range l.length).all (clB l)=false:=by
  rw [List.all_eq_false];exact ⟨i,by simpa using hi,by simp [h]⟩
 simp [mayB,this]
theorem cl_bad {l:List Cl} {i:Nat} (h:¬((i=0∨(0≤(nth cl0 l i).super∧(nth cl0 l i).super<i))∧(nth cl0 l i).fields.length≤6)):clB l i=false:=by
 unfold clB;rw [decide_eq_false h];rfl
theorem may_good {l:List Cl} (h:4≤l.length∧l.length≤12∧(nth cl0 l 0).super=-1) (hc:∀i,i<l.length→clB l i=true):mayB l=true:=by
 have:(List.range l.length).all (clB l)=true:=by
  rw [List.all_eq_true];intro i hi;exact hc i (by simpa using hi)
 unfold mayB;rw [this,decide_eq_true h];rfl
def slotsN:List Ty→Nat
 | []=>0
 | t::l=>(if t.kind=2 then 2 else 1)+slotsN l
def hdB (nc n:Nat) (h:Hd):Bool:=decide (0≤h.fr∧h.fr<h.til∧h.til≤n∧0≤h.pc∧h.pc<n∧0≤h.cls∧h.cls<nc)
def retB (nc:Nat) (t:Ty):Bool:=decide (t.kind=0∧t.cls=0)||tyB nc t
def headB (nc:Nat) (m:Me) (most:Int):Bool :=
 decide (m.params.length≤4∧m.hands.length≤8∧1≤m.code.length∧(m.code.length:Int)≤most)&&m.params.all (tyB nc)&&m.hands.all (hdB nc m.code.length)&&retB nc m.ret
theorem all_bad {α:Type} {d:α} {p:α→Bool} {l:List α} {k:Nat} (hk:k<l.length) (h:p (nth d l k)=false):l.all p=false:=by
 rw [List.all_eq_false]
 exact ⟨nth d l k,nth_mem hk,by rw [h];decide⟩
theorem all_good {α:Type} {d:α} {p:α→Bool} {l:List α} (h:∀k,k<l.length→p (nth d l k)=true):l.all p=true:=by
 rw [List.all_eq_true]
 intro x hx
 obtain ⟨k,hk,rfl⟩:=List.getElem_of_mem hx
 rw [←nth_get (d:=d) hk];exact h k hk
theorem slotsN_le (l:List Ty):slotsN l≤2*l.length:=by
 induction l with
 | nil=>simp [slotsN]
 | cons t l ih=>simp only [slotsN,List.length_cons];split<;>omega
theorem slotsN_take (l:List Ty) (k:Nat) (h:k<l.length):slotsN (l.take (k+1))=slotsN (l.take k)+(if (nth ty0 l k).kind=2 then 2 else 1):=by
 induction l generalizing k with
 | nil=>simp at h
 | cons t l ih =>
  cases k with
  | zero=>simp [slotsN,nth]
  | succ k =>
   have:=ih k (by simpa using h)
   have e:nth ty0 (t::l) (k+1)=nth ty0 l k:=by simp [nth]
   rw [e,List.take_succ_cons,List.take_succ_cons,slotsN,slotsN,this];omega
section
def par (l:List Cl) (c:Nat):Nat:=(nth cl0 l c).super.toNat
def upsF (l:List Cl):Nat→Nat→List Nat
 | 0,_=>[]
 | k+1,c=>c::if c=0 then [] else upsF l k (par l c)
def ups (l:List Cl) (c:Nat):List Nat:=upsF l (c+1) c
structure Tree (l:List Cl):Prop where
 zero:(nth cl0 l 0).super=-1
 up:∀c,0<c→c<l.length→0≤(nth cl0 l c).super∧(nth cl0 l c).super<c
theorem may_tree {l:List Cl} (h:mayB l=true):Tree l∧4≤l.length∧l.length≤12:=by
 unfold mayB at h
 rw [Bool.and_eq_true,decide_eq_true_eq,List.all_eq_true] at h
 refine ⟨⟨h.1.2.2,fun c h0 hc=>?_⟩,h.1.1,h.1.2.1⟩
 have:=h.2 c (by simpa using hc)
 unfold clB at this
 rw [Bool.and_eq_true,decide_eq_true_eq] at this
 rcases this.1.1 with h1|h1
 ·omega
 ·exact h1
section
variable {l:List Cl}
theorem par_lt (ht:Tree l) {c:Nat} (h0:0<c) (hc:c<l.length):par l c<c:=by
 have:=ht.up c h0 hc
 unfold par;omega
theorem super_par (ht:Tree l) {c:Nat} (h0:0<c) (hc:c<l.length):(nth cl0 l c).super=(par l c:Nat):=by
 have:=ht.up c h0 hc
 unfold par;omega
theorem upsF_more (ht:Tree l) (c:Nat):∀k,c<l.length→c<k→upsF l k c=upsF l (c+1) c:=by
 induction c using Nat.strongRecOn with
 | _ c ih =>
  intro k hc hk
  obtain ⟨k,rfl⟩:∃k',k=k'+1:=⟨k-1,by omega⟩
  unfold upsF
  by_cases h0:c=0
  ·rw [if_pos h0,if_pos h0]
  ·rw [if_neg h0,if_neg h0]
   have hp:=par_lt ht (by omega) hc
   rw [ih _ hp k (by omega) (by omega),ih _ hp c (by omega) (by omega)]
theorem ups_zero:ups l 0=[0]:=rfl
theorem ups_step (ht:Tree l) {c:Nat} (h0:0<c) (hc:c<l.length):ups l c=c::ups l (par l c):=by
 have hp:=par_lt ht h0 hc
 show upsF l (c+1) c=_
 rw [upsF,if_neg (by omega),upsF_more ht _ _ (by omega) hp]
 rfl
theorem ups_head (c:Nat):c∈ups l c:=by unfold ups upsF;simp
def IsJoin (l:List Cl) (c d j:Nat):Prop:=j∈ups l c∧j∈ups l d∧∀x,x∈ups l c→x∈ups l d→x≤j
theorem IsJoin.one {c d i j:Nat} (h:IsJoin l c d i) (k:IsJoin l c d j):i=j :=
 Nat.le_antisymm (k.2.2 _ h.1 h.2.1) (h.2.2 _ k.1 k.2.1)
theorem IsJoin.symm {c d i:Nat} (h:IsJoin l c d i):IsJoin l d c i:=⟨h.2.1,h.1,fun x a b=>h.2.2 x b a⟩
theorem most {j:Nat}:∀(L:List Nat) (a:Nat),a≤j→(∀x∈L,x≤j)→(j=a∨j∈L)→L.foldl max a=j
 | [],a,_,_,h=>by
  rcases h with h|h
  ·exact h.symm
  ·cases h
 | x::L,a,ha,hL,h=>by
  have hx:=hL x (by simp)
  refine most L (max a x) (by omega) (fun y hy=>hL y (List.mem_cons_of_mem _ hy)) ?_
  rcases h with h|h
  ·left;omega
  ·rcases List.mem_cons.1 h with h|h
   ·left;omega
   ·exact Or.inr h
def belN (l:List Cl) (c d:Nat):Bool:=decide (d∈ups l c)
theorem bel_iff {c d:Nat}:belN l c d=true↔d∈ups l c:=by unfold belN;simp
def clsI (l:List Cl) (c d:Int):Bool:=decide (0≤c∧c<l.length∧0≤d∧d<l.length)
def belV (l:List Cl) (c d:Int):Bool:=mayB l&&clsI l c d&&belN l c.toNat d.toNat
end
end
section
open Go.RowKit (wrap32 wrap64)
theorem ret_i {k:IntKind} {a b:Int} (h:a=b):Ending.returned (.int k a)=.returned (.int k b):=by rw [h]
theorem w32_bd (a:Int):-2147483648≤wrap32 a∧wrap32 a≤2147483647:=by unfold wrap32;omega
theorem w64_bd (a:Int):-9223372036854775808≤wrap64 a∧wrap64 a≤9223372036854775807:=by unfold wrap64;omega
theorem w64_w32 (a:Int):wrap64 (wrap32 a)=wrap32 a:=by unfold wrap64 wrap32;omega
theorem tmod_sign (a b:Int):a.tmod b=0∨(a.tmod b<0↔a<0):=by
 rcases Int.lt_trichotomy a 0 with h|h|h
 ·have h1:0≤(-a).tmod b:=Int.tmod_nonneg _ (by omega)
  rw [Int.neg_tmod] at h1
  omega
 ·subst h;left;simp
 ·have:0≤a.tmod b:=Int.tmod_nonneg _ (by omega)
  omega
def bitB (n:Int) (k:Nat):Bool:=decide (n/2 ^ k%2=1)
def sumB (f:Nat→Bool):Nat→Nat
 | 0=>0
 | k+1=>sumB f k+if f k then 2 ^ k else 0
theorem sumB_congr {f g:Nat→Bool}:∀k,(∀i,i<k→f i=g i)→sumB f k=sumB g k
 | 0,_=>rfl
 | k+1,h=>by
  have:=sumB_congr k (fun i hi=>h i (by omega))
  simp only [sumB];rw [this,h k (by omega)]
theorem sumB_testBit (x:Nat):∀k,sumB (fun i=>x.testBit i) k=x%2 ^ k
 | 0=>by simp [sumB,Nat.mod_one]
 | k+1=>by
  simp only [sumB]
  rw [sumB_testBit x k,Nat.mod_pow_succ]
  have hb:x.testBit k=decide (x/2 ^ k%2=1):=Nat.testBit_eq_decide_div_mod_eq
  have:x/2 ^ k%2<2:=Nat.mod_lt _ (by omega)
  by_cases h:x/2 ^ k%2=1
  ·simp [hb,h]
  ·have:x/2 ^ k%2=0:=by omega
   simp [hb,this]
theorem pow_split (i:Nat) (h:i<64):(2:Int) ^ 64=2 ^ i*(2*2 ^ (63-i)):=by
 rw [←Int.mul_assoc,←Int.pow_succ,←Int.pow_add];congr 1;omega
theorem testBit_ofInt (a:Int) (i:Nat) (h:i<64):(BitVec.ofInt 64 a).toNat.testBit i=bitB a i:=by
 rw [BitVec.toNat_ofInt,Nat.testBit_eq_decide_div_mod_eq]
 unfold bitB
 have hm:(0:Int)≤a%((2 ^ 64:Nat):Int):=Int.emod_nonneg _ (by decide)
 have hc:(((a%((2 ^ 64:Nat):Int)).toNat/2 ^ i%2:Nat):Int)=a/2 ^ i%2:=by
  rw [Int.natCast_emod,Int.natCast_ediv,Int.toNat_of_nonneg hm,Int.natCast_pow]
  have hp:(0:Int)<2 ^ i:=Int.pow_pos (by omega)
  have he:a=a%((2 ^ 64:Nat):Int)+2 ^ i*(2*2 ^ (63-i)*(a/((2 ^ 64:Nat):Int))):=by
   have hs:=pow_split i h
   have hd:=Int.emod_add_mul_ediv a ((2 ^ 64:Nat):Int)
   rw [←Int.mul_assoc,←hs]
   have e64:(((2 ^ 64:Nat):Int))=(2:Int) ^ 64:=by decide
   rw [e64] at hd ⊢
   exact hd.symm
  conv=>rhs;rw [he]
  rw [Int.add_mul_ediv_left _ _ (by omega),Int.mul_assoc]
  simp
 have:((a%((2 ^ 64:Nat):Int)).toNat/2 ^ i%2=1)↔(a/2 ^ i%2=1):=by omega
 exact decide_eq_decide.mpr this
def opB (op:Int) (x y:Bool):Bool:=(decide (op=6)&&(x&&y))||(decide (op=7)&&(x||y))||(decide (op=8)&&(x !=y))
theorem bits_sum (f:Bool→Bool→Bool) (a b:Int) (r:BitVec 64)
  (h:∀i,i<64→r.toNat.testBit i=f ((BitVec.ofInt 64 a).toNat.testBit i) ((BitVec.ofInt 64 b).toNat.testBit i)) :
  IntKind.i64.wrap (r.toNat:Int)=wrap64 (sumB (fun i=>f (bitB a i) (bitB b i)) 64:Nat):=by
 have hs:sumB (fun i=>f (bitB a i) (bitB b i)) 64=r.toNat:=by
  rw [←Nat.mod_eq_of_lt r.isLt,←sumB_testBit]
  refine sumB_congr _ fun i hi=>?_
  rw [h i hi,testBit_ofInt _ _ hi,testBit_ofInt _ _ hi]
 rw [hs];exact IntWalk.i64_left _
theorem bits_and (a b:Int):bits .and .i64 a b=wrap64 (sumB (fun i=>bitB a i&&bitB b i) 64:Nat) :=
 bits_sum (fun x y=>x&&y) a b _ fun i _=>by
  show (BitVec.ofInt 64 a &&& BitVec.ofInt 64 b).toNat.testBit i=_
  rw [BitVec.toNat_and,Nat.testBit_and]
theorem bits_or (a b:Int):bits .or .i64 a b=wrap64 (sumB (fun i=>bitB a i||bitB b i) 64:Nat) :=
 bits_sum (fun x y=>x||y) a b _ fun i _=>by
  show (BitVec.ofInt 64 a ||| BitVec.ofInt 64 b).toNat.testBit i=_
  rw [BitVec.toNat_or,Nat.testBit_or]
theorem bits_xor (a b:Int):bits .xor .i64 a b=wrap64 (sumB (fun i=>bitB a i !=bitB b i) 64:Nat) :=
 bits_sum (fun x y=>x !=y) a b _ fun i _=>by
  show (BitVec.ofInt 64 a ^^^ BitVec.ofInt 64 b).toNat.testBit i=_
  rw [BitVec.toNat_xor,Nat.testBit_xor]
def lngV (op a b:Int):Int :=
 if op=1 then wrap64 (a+b) else if op=2 then wrap64 (a-b) else if op=3 then wrap64 (a*b)
 else if op=4 then (if b=0 then 0 else wrap64 (a.tdiv b)) else if op=5 then (if b=0 then 0 else a.tmod b)
 else if op=6∨op=7∨op=8 then wrap64 (sumB (fun i=>opB op (bitB a i) (bitB b i)) 64:Nat) else 0
def lngB (op b:Int):Bool:=decide (1≤op∧op≤8∧¬(b=0∧(op=4∨op=5)))
def cmpV (a b:Int):Int:=if a<b then -1 else if b<a then 1 else 0
def hldB (c a:Int):Bool:=(decide (c=1)&&decide (a=0))||(decide (c=2)&&decide (a<0))||(decide (c=3)&&decide (a≠0))||(decide (c=4)&&decide (0<a))
theorem lng_and (a b:Int):lngV 6 a b=bits .and .i64 a b:=by rw [bits_and];simp [lngV,opB]
theorem lng_or (a b:Int):lngV 7 a b=bits .or .i64 a b:=by rw [bits_or];simp [lngV,opB]
theorem lng_xor (a b:Int):lngV 8 a b=bits .xor .i64 a b:=by rw [bits_xor];simp [lngV,opB]
end
structure Va where
 kind:Int
 n:Int
structure Hel where
 cls:Int
 fld:Int
 v:Va
structure Ob where
 cls:Int
 held:List Hel
structure Sh where
 fin:Int
 value:Int
 cls:Int
 out:List Int
 used:Int
 steps:Int
structure Hp where
 file:Fi
 objs:List Ob
 input:List Int
 calls:Int
 fuel:Int
 sh:Sh
 over:Bool
 thrown:Int
def va0:Va:=⟨0,0⟩
def hel0:Hel:=⟨0,0,va0⟩
def ob0:Ob:=⟨0,[]⟩
def Hp.fin (h:Hp) (how:Int):Hp:=if h.over=true then h else { h with over:=true,sh:={ h.sh with fin:=how } }
def Hp.stops (h:Hp):Bool:=h.over||decide (0≤h.thrown)
def Hp.must (h:Hp) (b:Bool):Hp:=if b=true then h else h.fin 6
def Hp.mustB (h:Hp) (b:Bool):Bool:=b&&!h.over
def initV (t:Ty):Va:=⟨t.kind,if t.kind=3 then -1 else 0⟩
def heldOf (cs:List Cl) (c d:Nat):List Hel :=
 if belN cs c d=true then (List.range (nth cl0 cs d).fields.length).map (fun k=>⟨(d:Nat),(k:Nat),initV (nth ty0 (nth cl0 cs d).fields k)⟩) else []
def newHeld (cs:List Cl) (c:Nat):List Hel:=(List.range cs.length).flatMap (heldOf cs c)
def Hp.full (h:Hp):Bool:=decide (100≤h.objs.length)
def Hp.new (h:Hp) (c:Int):Hp:=if h.full=true then h.fin 4 else { h with objs:=h.objs++[⟨c,newHeld h.file.classes c.toNat⟩] }
def Hp.newV (h:Hp):Va:=if h.full=true then va0 else ⟨3,(h.objs.length:Nat)⟩
def Hp.raise (h:Hp) (c:Int):Hp:=if (h.new c).over=true then h.new c else { h.new c with thrown:=h.newV.n }
def belI (cs:List Cl) (x y:Int):Bool:=clsI cs x y&&belN cs x.toNat y.toNat
def Hp.obj (h:Hp) (n:Int):Ob:=nth ob0 h.objs n.toNat
def Hp.of (h:Hp) (v:Va) (t:Ty):Bool :=
 decide (v.kind=t.kind)&&(decide (t.kind≠3)||(decide (v.n<0)||belI h.file.classes (h.obj v.n).cls t.cls))
def isRef (v:Va):Bool:=decide (v.kind=3)
def Hp.throw (h:Hp) (v:Va):Hp :=
 if h.mustB (isRef v)=true then (if v.n<0 then h.raise 1 else { h with thrown:=v.n }) else h.must (isRef v)
def heldAt (l:List Hel) (c k:Int):Int:=match l.findIdx? (fun x=>decide (x.cls=c∧x.fld=k)) with
 | some i=>(i:Nat)
 | none=>-1
def Hp.findH (h:Hp) (r:Va) (c:Int):Hp :=
 if h.mustB (h.of r ⟨3,c⟩)=true then (if r.n<0 then h.raise 1 else h) else h.must (h.of r ⟨3,c⟩)
def Hp.findN (h:Hp) (r:Va) (c k:Int):Int :=
 if h.mustB (h.of r ⟨3,c⟩)=true then (if r.n<0 then -1 else heldAt (h.obj r.n).held c k) else -1
def Hp.getV (h:Hp) (r:Va) (c k:Int):Va :=
 if h.findN r c k<0 then va0 else (nth hel0 (h.obj r.n).held (h.findN r c k).toNat).v
def Hp.setV (h:Hp) (n:Nat) (j:Nat) (v:Va):Hp :=
 { h with objs:=h.objs.set n { nth ob0 h.objs n with held:=(nth ob0 h.objs n).held.set j { nth hel0 (nth ob0 h.objs n).held j with v:=v } } }
def fieldT (cs:List Cl) (c k:Int):Ty:=nth ty0 (nth cl0 cs c.toNat).fields k.toNat
def Hp.put (h:Hp) (r:Va) (c k:Int) (v:Va):Hp :=
 if h.mustB (h.of v (fieldT h.file.classes c k))=true then (if h.findN r c k<0 then h.findH r c else (h.findH r c).setV r.n.toNat (h.findN r c k).toNat v)
 else h.must (h.of v (fieldT h.file.classes c k))
def Hp.cast (h:Hp) (v:Va) (c:Int):Hp :=
 if h.mustB (isRef v)=true then (if h.of v ⟨3,c⟩=true then h else h.raise 3) else h.must (isRef v)
def Hp.isV (h:Hp) (v:Va) (c:Int):Va :=
 ⟨1,if (h.mustB (isRef v)&&(decide (0≤v.n)&&belI h.file.classes (h.obj v.n).cls c))=true then 1 else 0⟩
def ofBoth (a b:Va) (k:Int):Bool:=decide (a.kind=k)&&decide (b.kind=k)
def Hp.emit (h:Hp) (v:Va) (k:Int):Hp :=
 if h.mustB (decide (v.kind=k))=true then { h with sh:={ h.sh with out:=h.sh.out++[v.n] } } else h.must (decide (v.kind=k))
def Hp.dry (h:Hp):Bool:=decide ((h.input.length:Int)≤h.sh.used)
def Hp.input' (h:Hp):Hp:=if h.dry=true then h.fin 3 else { h with sh:={ h.sh with used:=h.sh.used+1 } }
def Hp.inV (h:Hp):Va:=if h.dry=true then va0 else ⟨2,nth (0:Int) h.input h.sh.used.toNat⟩
def Hp.step (h:Hp):Hp:=if h.over=true then h else if h.fuel≤h.sh.steps then h.fin 0 else { h with sh:={ h.sh with steps:=h.sh.steps+1 } }
def Hp.stepB (h:Hp):Bool:=!h.over&&decide (h.sh.steps<h.fuel)
def losP (l:List Va) (a:Nat):List Va :=
 if (nth va0 l a).kind=9 then (l.set (a-1) va0).set a va0 else if (nth va0 l a).kind=2 then (l.set (a+1) va0).set a va0 else l.set a va0
def stoP (l:List Va) (a:Nat) (v:Va):List Va :=
 if v.kind=2 then (((losP (losP l a) (a+1)).set (a+1) ⟨9,0⟩).set a v) else (losP l a).set a v
def sizP:List Va→Nat
 | []=>0
 | v::l=>(if v.kind=2 then 2 else 1)+sizP l
theorem mustB_true {h:Hp} {b:Bool} (hm:h.mustB b=true):b=true∧h.over=false∧h.must b=h:=by
 unfold Hp.mustB at hm
 simp at hm
 refine ⟨hm.1,hm.2,?_⟩
 unfold Hp.must;rw [if_pos hm.1]
theorem of_ref {h:Hp} {r:Va} {c:Int} (ho:h.of r ⟨3,c⟩=true):r.kind=3:=by
 unfold Hp.of at ho
 simp at ho
 exact ho.1
theorem heldAt_lt (l:List Hel) (c k:Int):heldAt l c k=-1∨∃q:Nat,q<l.length∧heldAt l c k=q:=by
 unfold heldAt
 cases h:l.findIdx? (fun x=>decide (x.cls=c∧x.fld=k)) with
 | none=>exact Or.inl rfl
 | some i =>
  rw [List.findIdx?_eq_some_iff_getElem] at h
  exact Or.inr ⟨i,h.1,rfl⟩
theorem nth_set_eq {α:Type} {d:α} {l:List α} {n:Nat} {x:α} (h:n<l.length):nth d (l.set n x) n=x:=by simp [nth,List.getD,h]
theorem nth_set_ne {α:Type} {d:α} {l:List α} {n i:Nat} {x:α} (h:n≠i):nth d (l.set n x) i=nth d l i:=by simp [nth,List.getD,List.getElem?_set_ne h]
theorem losP_length (l:List Va) (a:Nat):(losP l a).length=l.length:=by unfold losP;split<;>(try split)<;>simp
theorem stoP_length (l:List Va) (a:Nat) (v:Va):(stoP l a v).length=l.length:=by unfold stoP;split<;>simp [losP_length]
def reckB (k op:Int) (a b:Va):Bool:=if k=1 then lngB op (wrap32 b.n) else lngB op b.n
def reckN (k op:Int) (a b:Va):Int:=if k=1 then wrap32 (lngV op (wrap32 a.n) (wrap32 b.n)) else lngV op a.n b.n
def Hp.reckH (h:Hp) (a b:Va) (k op:Int):Hp:=if h.mustB (ofBoth a b k)=true then (if reckB k op a b=true then h else h.raise 2) else h.must (ofBoth a b k)
def Hp.reckV (h:Hp) (a b:Va) (k op:Int):Va:=if h.mustB (ofBoth a b k)=true then ⟨k,reckN k op a b⟩ else va0
def Hp.fits (h:Hp) (x:Hd) (pc:Int):Bool:=decide (x.fr≤pc)&&(decide (pc<x.til)&&belI h.file.classes (h.obj h.thrown).cls x.cls)
def Hp.caughtL (h:Hp) (pc:Int):List Hd→Int
 | []=>-1
 | x::l=>if h.fits x pc=true then x.pc else h.caughtL pc l
theorem caught_skip {h:Hp} {pc:Int} {l:List Hd} {q:Nat} (hq:q<l.length) (hx:h.fits (nth hd0 l q) pc=false):h.caughtL pc (l.drop q)=h.caughtL pc (l.drop (q+1)):=by
 rw [List.drop_eq_getElem_cons hq,Hp.caughtL,←nth_get (d:=hd0) hq,if_neg (by rw [hx];decide)]
theorem caught_hit {h:Hp} {pc:Int} {l:List Hd} {q:Nat} (hq:q<l.length) (hx:h.fits (nth hd0 l q) pc=true):h.caughtL pc (l.drop q)=(nth hd0 l q).pc:=by
 rw [List.drop_eq_getElem_cons hq,Hp.caughtL,←nth_get (d:=hd0) hq,if_pos hx]
structure LocOk (l:List Va):Prop where
 nine:∀i,i<l.length→(nth va0 l i).kind=9→1≤i
 two:∀i,i<l.length→(nth va0 l i).kind=2→i+1<l.length
structure Cal where
 m:Me
 locs:List Va
 giv:Va
 cau:Va
 pc:Int
def Cal.rd (c:Cal) (a:Int):Va:=nth va0 c.locs a.toNat
def Hp.rdH (h:Hp) (c:Cal) (a k:Int):Hp:=h.must (decide ((c.rd a).kind=k))
def wrP (h:Hp) (c:Cal) (a:Int) (v:Va):Cal:=if h.stops=true then c else { c with locs:=stoP c.locs a.toNat v }
def Cal.clr (c:Cal):Cal:={ c with giv:=va0,cau:=va0 }
def givesH (h:Hp) (c:Cal) (i:In):Hp :=
 if i.op=1∨i.op=2∨i.op=3 then h
 else if i.op=4 then h.rdH c i.b i.c
 else if i.op=5 then h.reckH (c.rd i.b) (c.rd i.c) 1 i.n
 else if i.op=6 then h.reckH (c.rd i.b) (c.rd i.c) 2 i.n
 else if i.op=7 then h.rdH c i.b 1
 else if i.op=8 then h.rdH c i.b 2
 else if i.op=9 then (h.rdH c i.b 2).rdH c i.c 2
 else if i.op=13 then h.new i.b
 else if i.op=14 then (if (h.rdH c i.b 3).over=true then h.rdH c i.b 3 else (h.rdH c i.b 3).findH (c.rd i.b) i.c)
 else if i.op=17 then (if (h.rdH c i.b 3).over=true then h.rdH c i.b 3 else (h.rdH c i.b 3).must (isRef (c.rd i.b)))
 else h.input'
def givesV (h:Hp) (c:Cal) (i:In):Va :=
 if i.op=1 then ⟨1,i.n⟩
 else if i.op=2 then ⟨2,i.n⟩
 else if i.op=3 then ⟨3,-1⟩
 else if i.op=4 then c.rd i.b
 else if i.op=5 then h.reckV (c.rd i.b) (c.rd i.c) 1 i.n
 else if i.op=6 then h.reckV (c.rd i.b) (c.rd i.c) 2 i.n
 else if i.op=7 then ⟨2,(c.rd i.b).n⟩
 else if i.op=8 then ⟨1,wrap32 (c.rd i.b).n⟩
 else if i.op=9 then ⟨1,cmpV (c.rd i.b).n (c.rd i.c).n⟩
 else if i.op=13 then h.newV
 else if i.op=14 then (if (h.rdH c i.b 3).over=true then va0 else (h.rdH c i.b 3).getV (c.rd i.b) i.c i.n)
 else if i.op=17 then (if (h.rdH c i.b 3).over=true then va0 else (h.rdH c i.b 3).isV (c.rd i.b) i.c)
 else h.inV
structure Did where
 h:Hp
 c:Cal
 nx:Int
def givesP (h:Hp) (c:Cal) (i:In):Did:=⟨givesH h c i,wrP (givesH h c i) c.clr i.a (givesV h c i),c.pc+1⟩
def ifP (h:Hp) (c:Cal) (i:In):Did:=⟨h.rdH c i.c 1,c.clr,if hldB i.b (c.rd i.c).n=true then i.a else c.pc+1⟩
def ifnP (h:Hp) (c:Cal) (i:In):Did:=⟨h.rdH c i.c 3,c.clr,if (c.rd i.c).n<0 then i.a else c.pc+1⟩
def thrP (h:Hp) (c:Cal) (i:In):Did:=⟨if (h.rdH c i.a 3).over=true then h.rdH c i.a 3 else (h.rdH c i.a 3).throw (c.rd i.a),c.clr,c.pc+1⟩
def putP (h:Hp) (c:Cal) (i:In):Did :=
 let h2:=(h.rdH c i.b 3).rdH c i.a (fieldT h.file.classes i.c i.n).kind
 ⟨if h2.over=true then h2 else h2.put (c.rd i.b) i.c i.n (c.rd i.a),c.clr,c.pc+1⟩
def castP (h:Hp) (c:Cal) (i:In):Did:=⟨if (h.rdH c i.a 3).over=true then h.rdH c i.a 3 else (h.rdH c i.a 3).cast (c.rd i.a) i.b,c.clr,c.pc+1⟩
def emitP (h:Hp) (c:Cal) (i:In):Did:=⟨if (h.rdH c i.a i.b).over=true then h.rdH c i.a i.b else (h.rdH c i.a i.b).emit (c.rd i.a) i.b,c.clr,c.pc+1⟩
def resP (h:Hp) (c:Cal) (i:In):Did:=⟨h.must (decide (c.giv.kind=i.b)),if h.mustB (decide (c.giv.kind=i.b))=true then wrP h c.clr i.a c.giv else c.clr,c.pc+1⟩
def cauP (h:Hp) (c:Cal) (i:In):Did:=⟨h.must (isRef c.cau),if h.mustB (isRef c.cau)=true then wrP h c.clr i.a c.cau else c.clr,c.pc+1⟩
def doesP (h:Hp) (c:Cal) (i:In):Did :=
 if i.op=10 then ⟨h,c.clr,i.a⟩
 else if i.op=11 then ifP h c i
 else if i.op=12 then ifnP h c i
 else if i.op=15 then putP h c i
 else if i.op=16 then castP h c i
 else if i.op=19 then resP h c i
 else if i.op=21 then thrP h c i
 else if i.op=22 then cauP h c i
 else if i.op=23 then emitP h c i
 else givesP h c i
def Hp.enterL (h:Hp):List Va→List Ty→Bool
 | v::l,t::k=>h.of v t&&h.enterL l k
 | _,_=>true
def Hp.deep (h:Hp):Bool:=decide (20≤h.calls)
def argsP (l:List Va) (at':Nat):List Va→List Va
 | []=>l
 | v::k=>argsP (stoP l at' v) (at'+sizP [v]) k
def newCal (m:Me) (l:List Va):Cal:=⟨m,argsP (List.replicate m.regs.toNat va0) 0 l,va0,va0,0⟩
def Hp.leave (h:Hp):Hp:={ h with calls:=h.calls-1 }
def Cal.rds (c:Cal):List Int→List Ty→List Va
 | a::l,t::k=>c.rd a::c.rds l k
 | _,_=>[]
def regB (regs n kind:Int):Bool:=decide (0≤n∧n≤regs-(if kind=2 then 2 else 1))
def kindsOf (op:Int):Option (Int×Int×Int) :=
 if op=1 then some (1,0,0)
 else if op=2 then some (2,0,0)
 else if op=3 then some (3,0,0)
 else if op=4 then some (-1,-1,-1)
 else if op=5 then some (1,1,1)
 else if op=6 then some (2,2,2)
 else if op=7 then some (2,1,0)
 else if op=8 then some (1,2,0)
 else if op=9 then some (1,2,2)
 else if op=10 then some (-1,0,0)
 else if op=11 then some (-1,-1,1)
 else if op=12 then some (-1,0,3)
 else if op=13 then some (3,-1,0)
 else if op=14 then some (-1,3,-1)
 else if op=15 then some (-1,3,-1)
 else if op=16 then some (3,-1,0)
 else if op=17 then some (1,3,-1)
 else if op=18 then some (-1,0,0)
 else if op=19 then some (-1,-1,0)
 else if op=20 then some (-1,0,0)
 else if op=21 then some (3,0,0)
 else if op=22 then some (3,0,0)
 else if op=23 then some (-1,-1,0)
 else if op=24 then some (2,0,0)
 else none
def rfldB (regs n kind:Int):Bool:=if kind=0 then decide (n=0) else if 0<kind then regB regs n kind else true
def rrestB (cs:List Cl) (ms:List Me) (ncode:Nat) (regs ret:Int) (i:In):Bool :=
 decide (i.op=18∨i.args.length=0) &&
 (if i.op=14∨i.op=15 then decide (0≤i.c∧i.c<cs.length∧0≤i.n∧i.n<(nth cl0 cs i.c.toNat).fields.length)&&regB regs i.a (nth ty0 (nth cl0 cs i.c.toNat).fields i.n.toNat).kind
 else if i.op=1 then decide (-2147483648≤i.n∧i.n≤2147483647)
 else if i.op=2 then true
 else if i.op=5∨i.op=6 then decide (1≤i.n∧i.n≤8)
 else decide (i.n=0) &&
  (if i.op=4 then decide (1≤i.c∧i.c≤3)&&regB regs i.a i.c&&regB regs i.b i.c
  else if i.op=10∨i.op=12 then decide (0≤i.a∧i.a<ncode)
  else if i.op=11 then decide (0≤i.a∧i.a<ncode∧1≤i.b∧i.b≤4)
  else if i.op=13∨i.op=16 then decide (0≤i.b∧i.b<cs.length)
  else if i.op=17 then decide (0≤i.c∧i.c<cs.length)
  else if i.op=19 then decide (1≤i.b∧i.b≤3)&&regB regs i.a i.b
  else if i.op=23 then decide (1≤i.b∧i.b≤2)&&regB regs i.a i.b
  else if i.op=20 then (if ret=0 then decide (i.a=0) else regB regs i.a ret)
  else if i.op=18 then decide (0≤i.a∧i.a<ms.length∧i.args.length=(nth me0 ms i.a.toNat).params.length) &&
   (List.range i.args.length).all (fun k=>regB regs (nth (0:Int) i.args k) (nth ty0 (nth me0 ms i.a.toNat).params k).kind)
  else true))
def rinB (cs:List Cl) (ms:List Me) (ncode:Nat) (regs ret:Int) (i:In):Bool :=
 match kindsOf i.op with
 | none=>false
 | some (x,y,z)=>rfldB regs i.a x&&rfldB regs i.b y&&rfldB regs i.c z&&rrestB cs ms ncode regs ret i
def rmeB (cs:List Cl) (ms:List Me) (m:Me):Bool :=
 headB cs.length m 2400&&decide (m.stack=0∧m.locs=0∧1≤m.regs∧m.regs≤90∧(slotsN m.params:Int)≤m.regs)&&m.code.all (rinB cs ms m.code.length m.regs m.ret.kind)
def rfmayB (f:Fi):Bool:=mayB f.classes&&decide (1≤f.methods.length∧f.methods.length≤8)&&f.methods.all (rmeB f.classes f.methods)
structure GdV (h:Hp) (v:Va):Prop where
 ref:v.kind=3→-1≤v.n∧v.n<h.objs.length
 num:I64 v.n
theorem gdV0 (h:Hp):GdV h va0:=⟨fun e=>absurd e (by decide),by unfold I64;decide⟩
theorem fin_over {h:Hp} (ho:h.over=false):(h.fin 6).over=true:=by simp [Hp.fin,ho]
structure InOk (cs:List Cl) (ms:List Me) (ncode:Nat) (regs ret:Int) (i:In):Prop where
 op:1≤i.op∧i.op≤24
 a:(i.op≤9∨(13≤i.op∧i.op≤17)∨i.op=19∨21≤i.op)→0≤i.a∧i.a<regs
 two:(i.op=2∨i.op=6∨i.op=7∨i.op=24∨(i.op=4∧i.c=2)∨(i.op=19∧i.b=2)∨(i.op=14∧(nth ty0 (nth cl0 cs i.c.toNat).fields i.n.toNat).kind=2))→i.a+1<regs
 b:(4≤i.op∧i.op≤9∨i.op=14∨i.op=15∨i.op=17)→0≤i.b∧i.b<regs
 c:(i.op=5∨i.op=6∨i.op=9∨i.op=11∨i.op=12)→0≤i.c∧i.c<regs
 move:i.op=4→1≤i.c∧i.c≤3
 res:i.op=19→1≤i.b∧i.b≤3
 emit:i.op=23→1≤i.b∧i.b≤2
 fld:i.op=14∨i.op=15→0≤i.c∧i.c<cs.length∧0≤i.n∧i.n<(nth cl0 cs i.c.toNat).fields.length
 cls:i.op=13∨i.op=16→0≤i.b∧i.b<cs.length
 is':i.op=17→0≤i.c∧i.c<cs.length
 call:i.op=18→0≤i.a∧i.a<ms.length∧i.args.length=(nth me0 ms i.a.toNat).params.length
 args:i.op=18→∀k,k<i.args.length→0≤nth (0:Int) i.args k∧nth (0:Int) i.args k<regs
 jump:i.op=10∨i.op=11∨i.op=12→0≤i.a∧i.a<ncode
 ret:i.op=20→ret≠0→0≤i.a∧i.a<regs
theorem regB_ok (regs n kind:Int):(regB regs n kind=true)=(0≤n∧n<regs∧(kind=2→n+1<regs)):=by
 unfold regB
 rw [decide_eq_true_eq]
 by_cases hk:kind=2
 ·rw [if_pos hk];apply propext;constructor<;>intro h<;>omega
 ·rw [if_neg hk];apply propext;constructor<;>intro h<;>omega
theorem rin_op {cs:List Cl} {ms:List Me} {ncode:Nat} {regs ret:Int} {i:In} (h:rinB cs ms ncode regs ret i=true):1≤i.op∧i.op≤24:=by
 have hk:kindsOf i.op≠none:=by
  intro hn
  unfold rinB at h
  rw [hn] at h
  exact Bool.noConfusion h
 by_cases hr:1≤i.op∧i.op≤24
 ·exact hr
 ·exfalso
  apply hk
  unfold kindsOf
  repeat rw [if_neg (by omega)]
theorem rin_ok {cs:List Cl} {ms:List Me} {ncode:Nat} {regs ret:Int} {i:In} (h:rinB cs ms ncode regs ret i=true):InOk cs ms ncode regs ret i:=by
 have hop:=rin_op h
 unfold rinB at h
 rcases (by omega:i.op=1∨i.op=2∨i.op=3∨i.op=4∨i.op=5∨i.op=6∨i.op=7∨i.op=8∨i.op=9∨i.op=10∨i.op=11∨i.op=12∨i.op=13∨i.op=14∨i.op=15∨i.op=16∨i.op=17∨i.op=18∨i.op=19∨i.op=20∨i.op=21∨i.op=22∨i.op=23∨i.op=24) with e|e|e|e|e|e|e|e|e|e|e|e|e|e|e|e|e|e|e|e|e|e|e|e
 all_goals
  simp only [e,kindsOf,rfldB,rrestB,regB_ok,true_implies,false_implies,if_true,if_false,Int.reduceEq,Int.reduceLT,Int.reduceNeg,or_true,true_or,or_false,false_or,or_self,Bool.and_eq_true,decide_eq_true_eq,List.all_eq_true,List.mem_range,Bool.true_and,decide_true] at h
 all_goals
  constructor
  all_goals intros
  all_goals first|omega|(exact ⟨(h.2.2.2 _ ‹_›).1,(h.2.2.2 _ ‹_›).2.1⟩)|(have h':=h.2.2.2;rw [if_neg ‹_›,regB_ok] at h';omega)
end Go.Proofs.YtgiiapenmjollabGreat
