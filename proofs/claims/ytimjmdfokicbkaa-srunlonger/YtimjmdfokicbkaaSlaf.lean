import Derived.Test.YtimjmdfokicbkaaSlaa
import Derived.Test.YtimjmdfokicbkaaSlae
import Derived.WalkKit
import Derived.RowKit3
import Derived.Below
import Derived.OwnWalk
import Derived.Laws.OwnMore
import Derived.Deep.Draws
import Derived.Deep.AppendLies
import Derived.Maps.OwnSet
import Derived.DeepKeys4
namespace Go.Proofs.Ytimjmdfokicbkaa
set_option linter.unusedVariables false
set_option linter.unusedSimpArgs false
set_option maxHeartbeats 40000000
open Go.RowKit
theorem lt_some {w:World} {b:Nat} {o:Obj} (h:w.heap[b]?=some o):b<w.heap.size:=by
 by_cases hb:b<w.heap.size
 ·exact hb
 ·simp [hb] at h
theorem block_set {w:World} {b i:Nat} {cs:Array Value} {t:TypeId} {f:Nat×Nat} (h:w.heap[b]?=some (.cells cs t f)) (v:Value) :
  (w.setCell ⟨b,i,none⟩ v).heap[b]?=some (.cells (cs.setIfInBounds i v) t f):=by
 simp [World.setCell,Array.getElem?_modify,h]
theorem block_far {w:World} {b b' i:Nat} {s:Option _} (hb:b'≠b) (v:Value):(w.setCell ⟨b,i,s⟩ v).heap[b']?=w.heap[b']?:=Below.heap_setCell _ _ _ _ hb
theorem cell_blk {w:World} {b i:Nat} {cs:Array Value} {t:TypeId} {f:Nat×Nat} (h:w.heap[b]?=some (.cells cs t f)):w.cell? ⟨b,i,none⟩=cs[i]?:=by simp [World.cell?,h]
theorem free_blk {w:World} {b:Nat} {cs:Array Value} {t:TypeId} (h:w.heap[b]?=some (.cells cs t (0,0))) (i:Nat):w.frozen? ⟨b,i,none⟩=false:=by simp [World.frozen?,h]
theorem row_far {w:World} {base:Nat} {e:TypeId} {size n:Nat} {v:Value} {xs:List Value} (ho:w.ownsRow base e size v n xs) {b i:Nat} {cs:Array Value} {t:TypeId} {f:Nat×Nat} (hb:w.heap[b]?=some (.cells cs t f)) (ht:t≠e) (u:Value) :
  (w.setCell ⟨b,i,none⟩ u).ownsRow base e size v n xs:=by
 refine ⟨ho.1,?_⟩
 rcases ho.2 with h0|⟨g,cap,cur,h1,h2,h3,h4⟩
 ·exact Or.inl h0
 ·refine Or.inr ⟨g,cap,cur,h1,h2,?_,h4⟩
  rw [block_far]
  ·exact h3
  ·rintro rfl;rw [hb] at h3;simp at h3;exact ht h3.2.1
theorem blk_new (w:World) (cs:Array Value) (t:TypeId):(w.alloc (.cells cs t)).heap[w.heap.size]?=some (.cells cs t (0,0)):=by
 show (w.heap.push _)[w.heap.size]?=_
 simp
theorem bl_drewN {a w:World} (h:Bl a w) (n:Nat):Bl a (w.drewN n):=⟨h.os,h.tape,h.output,h.size,h.block⟩
theorem grown_keep {w w':World} {base:Nat} {e:TypeId} {size n:Nat} {v:Value} {xs:List Value} (hg:w.grownBy w' v.ownBlock) (ho:w.ownsRow base e size v n xs) {b:Nat} {cs:Array Value} {t:TypeId} {f:Nat×Nat}
  (hb:w.heap[b]?=some (.cells cs t f)) (ht:t≠e):w'.heap[b]?=some (.cells cs t f):=by
 rw [hg.block b (lt_some hb)]
 ·exact hb
 ·intro hc
  rcases ho.2 with ⟨rfl,-⟩|⟨gb,cap,cur,rfl,h2,h3,h4⟩
  ·simp [Value.ownBlock] at hc
  ·simp [Value.ownBlock] at hc
   subst hc
   rw [hb] at h3
   simp at h3
   exact ht h3.2.1
theorem grown_row {w w':World} {base:Nat} {e:TypeId} {size n:Nat} {v:Value} {xs:List Value} (hg:w.grownBy w' v.ownBlock) (ho:w.ownsRow base e size v n xs) {base':Nat} {e':TypeId} {size' n':Nat} {v':Value} {xs':List Value}
  (hr:w.ownsRow base' e' size' v' n' xs') (ht:e'≠e):w'.ownsRow base' e' size' v' n' xs':=by
 refine ⟨hr.1,?_⟩
 rcases hr.2 with h0|⟨gb,cap,cur,h1,h2,h3,h4⟩
 ·exact Or.inl h0
 ·exact Or.inr ⟨gb,cap,cur,h1,h2,grown_keep hg ho h3 ht,h4⟩
theorem grown_base {w w':World} {base:Nat} {e:TypeId} {size n:Nat} {v:Value} {xs:List Value} (hg:w.grownBy w' v.ownBlock) (ho:w.ownsRow base e size v n xs) (hb:base≤w.heap.size):Below base w w' :=
 (Below.refl base w).grown hg hb fun k hk=>(ho.lt k hk).1
theorem own_far {w:World} {base:Nat} {e:TypeId} {size n:Nat} {v:Value} {xs:List Value} (ho:w.ownsRow base e size v n xs) {b:Nat} {cs:Array Value} {t:TypeId} {f:Nat×Nat} (hb:w.heap[b]?=some (.cells cs t f)) (ht:t≠e):v.ownBlock≠some b:=by
 intro hc
 rcases ho.2 with ⟨rfl,-⟩|⟨gb,cap,cur,rfl,h2,h3,h4⟩
 ·simp [Value.ownBlock] at hc
 ·simp [Value.ownBlock] at hc
  subst hc
  rw [hb] at h3
  simp at h3
  exact ht h3.2.1
def vaCells:List Va→List Value
 | []=>[]
 | v::l=>.int .i64 v.kind::.int .i64 v.n::vaCells l
theorem vaCells_length (l:List Va):(vaCells l).length=l.length*2:=by
 induction l with
 | nil=>rfl
 | cons x l ih=>simp [vaCells,ih];omega
theorem va_cells:∀(l:List Va) (i:Nat),i<l.length→(vaCells l)[i*2]?=some (.int .i64 (nth va0 l i).kind)∧(vaCells l)[i*2+1]?=some (.int .i64 (nth va0 l i).n)
 | [],i,h=>by simp at h
 | x::l,0,_=>by simp [vaCells,nth]
 | x::l,i+1,h=>by
  have:=va_cells l i (by simpa using h)
  have e:(i+1)*2=i*2+1+1:=by omega
  rw [e]
  simpa [vaCells,nth] using this
theorem vaCells_set:∀(l:List Va) (i:Nat) (v:Va),i<l.length→vaCells (l.set i v)=((vaCells l).set (i*2) (.int .i64 v.kind)).set (i*2+1) (.int .i64 v.n)
 | [],i,v,h=>by simp at h
 | x::l,0,v,_=>by simp [vaCells]
 | x::l,i+1,v,h=>by
  have:=vaCells_set l i v (by simpa using h)
  have e1:(i+1)*2=i*2+1+1:=by omega
  have e2:(i+1)*2+1=i*2+1+1+1:=by omega
  rw [e2,e1]
  simp [vaCells,this]
theorem vaCells_one:∀(l:List Va) (u:Value),u∈vaCells l→u.oneCell'=true
 | [],u,h=>by simp [vaCells] at h
 | x::l,u,h=>by
  simp only [vaCells,List.mem_cons] at h
  rcases h with rfl|rfl|h
  ·rfl
  ·rfl
  ·exact vaCells_one l u h
theorem vaCells_append (l k:List Va):vaCells (l++k)=vaCells l++vaCells k:=by
 induction l with
 | nil=>rfl
 | cons x l ih=>simp [vaCells,ih]
theorem hid {p:Prop} (h:p):Hid p:=h
abbrev tyMV (t:Ty):Value:=.agg #[.int .i64 t.kind,.int .i64 t.cls]
abbrev tyMO (t:Ty):Obj:=.cells #[.int .i64 t.kind,.int .i64 t.cls] 54
abbrev mvO (v:Va):Obj:=.cells #[.int .i64 v.kind,.int .i64 v.n] 110
abbrev mvZ:Obj:=.cells #[.int .i64 0,.int .i64 0] 110
theorem three_lie (w:World) (a b c:Array Value) (s t u:TypeId):(((w.alloc (.cells a s)).alloc (.cells b t)).alloc (.cells c u)).heap[w.heap.size]?=some (.cells a s (0,0))∧(((w.alloc (.cells a s)).alloc (.cells b t)).alloc (.cells c u)).heap[w.heap.size+1]?=some (.cells b t (0,0))
  ∧ (((w.alloc (.cells a s)).alloc (.cells b t)).alloc (.cells c u)).heap[w.heap.size+1+1]?=some (.cells c u (0,0)):=by
 have h1:(w.alloc (.cells a s)).heap.size=w.heap.size+1:=by simp
 have h2:((w.alloc (.cells a s)).alloc (.cells b t)).heap.size=w.heap.size+1+1:=by simp
 refine ⟨?_,?_,?_⟩
 ·rw [Below.heap_alloc _ _ _ (by omega),Below.heap_alloc _ _ _ (by omega)];exact blk_new _ _ _
 ·rw [Below.heap_alloc _ _ _ (by omega),←h1];exact blk_new _ _ _
 ·rw [←h2];exact blk_new _ _ _
theorem bl_blk {w w':World} (h:Bl w w') {b:Nat} {o:Obj} (hb:w.heap[b]?=some o):w'.heap[b]?=some o:=(h.block b (lt_some hb)).trans hb
theorem c0_of {w:World} {b:Nat} {k n:Value} {t:TypeId} (q:w.heap[b]?=some (.cells #[k,n] t (0,0))):w.cell? ⟨b,0,none⟩=some k:=by rw [cell_blk q];rfl
theorem c1_of {w:World} {b:Nat} {k n:Value} {t:TypeId} (q:w.heap[b]?=some (.cells #[k,n] t (0,0))):w.cell? ⟨b,1,none⟩=some n:=by rw [cell_blk q];rfl
theorem set_two {w:World} {b:Nat} {k n k' n':Value} {t:TypeId} (q:w.heap[b]?=some (.cells #[k,n] t (0,0))):((w.setCell ⟨b,0,none⟩ k').setCell ⟨b,1,none⟩ n').heap[b]?=some (.cells #[k',n'] t (0,0)):=by
 rw [block_set (block_set q _) _];rfl
theorem bl_two {w0 w:World} (h:Bl w0 w) {b:Nat} (hb:w0.heap.size≤b) (k n:Value):Bl w0 ((w.setCell ⟨b,0,none⟩ k).setCell ⟨b,1,none⟩ n):=(h.setCell (p:=⟨b,0,none⟩) hb k).setCell (p:=⟨b,1,none⟩) hb n
theorem blk_in1 {W:World} {cs:Array Value} {t:TypeId} {o:Obj} {n:Nat} (hn:n=W.heap.size):((W.alloc (.cells cs t)).alloc o).heap[n]?=some (.cells cs t (0,0)):=by
 subst hn
 rw [Below.heap_alloc _ _ _ (by simp)]
 exact blk_new _ _ _
theorem grown_set {w:World} (b i:Nat) (v:Value):w.grownBy (w.setCell ⟨b,i,none⟩ v) (some b) :=
 ⟨rfl,rfl,rfl,by simp [World.setCell],fun k hk hb=>block_far (fun e=>hb (by rw [e])) v⟩
theorem grown_trans {x y z:World} {row:Option Nat} (h:x.grownBy y row) (k:y.grownBy z row):x.grownBy z row :=
 ⟨k.os.trans h.os,k.tape.trans h.tape,k.output.trans h.output,Nat.le_trans h.size k.size,fun i hi hb=>(k.block i (Nat.lt_of_lt_of_le hi h.size) hb).trans (h.block i hi hb)⟩
section
open Go.Maps (Keyed has)
abbrev placeV (o c k:Int):Value:=.agg #[.int .i64 o,.int .i64 c,.int .i64 k]
def keyM (o c k:Int):Lit:=.string (keyBytes [.int .i64 o,.int .i64 c,.int .i64 k])
theorem place_out:laidOutB Try.prog=true:=by kernel_rfl
theorem place_row:(159:TypeId)<Try.prog.types.size:=of_decide_eq_true (by kernel_rfl)
theorem place_wide:(match Try.prog.underlying 159 with|some (.array _ _)|some (.struct _)=>true|_=>false)=true:=by rw [Try.underlying159]
theorem place_at:Try.prog.keyTypeAt 2 159=true:=by kernel_rfl
set_option maxRecDepth 1000000 in
theorem place_key:Keyed Try.prog 159:=Keyed.of_law (deep_law_laid (P:=Try.prog) (k:=159) place_out (m:=2) (by omega) place_row place_at place_wide)
theorem place_type:Try.prog.keyType 159=true:=by kernel_rfl
theorem place_cells:Try.prog.cellsOf 159=3:=by kernel_rfl
theorem int_cells:Try.prog.cellsOf 3=1:=by kernel_rfl
theorem i64_wf {n:Int} (h:I64 n):(Lit.int .i64 n).wf=true:=by
 unfold I64 at h
 simp [Lit.wf,IntKind.min,IntKind.max,IntKind.bits,IntKind.signed]
 omega
theorem int_lits (d:Nat) {n:Int} (h:I64 n):Try.prog.keyLits (d+1) 3 [.int .i64 n]=some [.int .i64 n]:=by
 unfold Program.keyLits
 rw [Try.underlying3]
 simp [i64_wf h]
theorem place_lits (d:Nat) {o c k:Int} (ho:I64 o) (hc:I64 c) (hk:I64 k):Try.prog.keyLits (d+1+1) 159 [.int .i64 o,.int .i64 c,.int .i64 k]=some [.int .i64 o,.int .i64 c,.int .i64 k]:=by
 have h1:=int_lits d ho
 have h2:=int_lits d hc
 have h3:=int_lits d hk
 unfold Program.keyLits
 rw [Try.underlying159]
 simp [place_cells,int_cells,h1,h2,h3]
theorem types_two:∃d,Try.prog.types.size+1=d+1+1:=by
 have h:(159:Nat)<Try.prog.types.size:=place_row
 exact ⟨Try.prog.types.size-1,by omega⟩
theorem keyM_of {o c k:Int} (ho:I64 o) (hc:I64 c) (hk:I64 k):keyOf Try.prog 159 (placeV o c k)=some (keyM o c k):=by
 obtain ⟨d,hd⟩:=types_two
 unfold keyOf
 rw [Try.underlying159,hd]
 dsimp only
 have hf:(placeV o c k).formed Try.prog 159=true:=by simp [Value.formed,Try.underlying159,place_cells]
 rw [place_type,hf]
 have hc':(placeV o c k).cells.toList=[.int .i64 o,.int .i64 c,.int .i64 k]:=rfl
 rw [hc',place_lits d ho hc hk]
 rfl
theorem keyM_inj {o c k o' c' k':Int} (ho:I64 o) (hc:I64 c) (hk:I64 k) (ho':I64 o') (hc':I64 c') (hk':I64 k') (h:keyM o c k=keyM o' c' k'):o=o'∧c=c'∧k=k':=by
 have h1:=keyM_of ho hc hk
 have h2:=keyM_of ho' hc' hk'
 rw [←h] at h2
 have:=place_key.inj h1 h2
 simp at this
 exact this
end
def im (v:Va):Va:=⟨v.kind,if v.kind=3 then v.n+1 else v.n⟩
theorem im_kind (v:Va):(im v).kind=v.kind:=rfl
theorem im_num {v:Va} (h:v.kind≠3):im v=v:=by unfold im;rw [if_neg h]
theorem im_ref {v:Va} (h:v.kind=3):im v=⟨3,v.n+1⟩:=by unfold im;rw [if_pos h,h]
theorem nth_set {α:Type} (d:α) (l:List α) (i j:Nat) (v:α):nth d (l.set i v) j=if i=j∧i<l.length then v else nth d l j:=by
 unfold nth
 simp only [List.getD_eq_getElem?_getD,List.getElem?_set]
 by_cases h:i=j
 ·subst h
  by_cases hl:i<l.length
  ·simp [hl]
  ·simp [hl]
 ·simp [h]
theorem nth_out {α:Type} {d:α} {l:List α} {i:Nat} (h:l.length≤i):nth d l i=d:=by
 unfold nth
 simp [List.getD_eq_getElem?_getD,h]
structure LRel (l k:List Va):Prop where
 len:k.length=l.length
 zero:(nth va0 l 0).kind≠9
 pair:∀i,(nth va0 l i).kind=2↔(nth va0 l (i+1)).kind=9
 rd:∀i,1≤(nth va0 l i).kind→(nth va0 l i).kind≤3→nth va0 k i=im (nth va0 l i)
 long:∀i,(nth va0 l i).kind=2→(nth va0 k (i+1)).kind=4
 back:∀i,1≤(nth va0 k i).kind→(nth va0 k i).kind≤3→((nth va0 k i).kind=2→(nth va0 k (i+1)).kind=4)→(nth va0 l i).kind=(nth va0 k i).kind
def stoM (k:List Va) (a:Nat) (v:Va):List Va:=if v.kind=2 then (k.set a v).set (a+1) ⟨4,0⟩ else k.set a v
theorem stoM_length (k:List Va) (a:Nat) (v:Va):(stoM k a v).length=k.length:=by unfold stoM;split<;>simp
theorem los_length (l:List Va) (a:Nat):(losP l a).length=l.length:=losP_length l a
theorem sto_length (l:List Va) (a:Nat) (v:Va):(stoP l a v).length=l.length:=stoP_length l a v
theorem los_nth (l:List Va) (a j:Nat) (ha:a<l.length):nth va0 (losP l a) j=if j=a∨((nth va0 l a).kind=9∧j=a-1)∨((nth va0 l a).kind=2∧j=a+1) then va0 else nth va0 l j:=by
 have hz:∀(l:List Va) i,nth va0 (l.set i va0) j=if i=j then va0 else nth va0 l j:=by
  intro l i
  rw [nth_set]
  by_cases h:i=j
  ·by_cases hl:i<l.length
   ·rw [if_pos ⟨h,hl⟩,if_pos h]
   ·rw [if_neg (fun x=>hl x.2),if_pos h,nth_out (by omega)]
  ·rw [if_neg (fun x=>h x.1),if_neg h]
 unfold losP
 by_cases h9:(nth va0 l a).kind=9
 ·rw [if_pos h9,hz,hz]
  have h2:¬(nth va0 l a).kind=2:=by omega
  by_cases h1:a=j
  ·rw [if_pos h1,if_pos (Or.inl h1.symm)]
  ·rw [if_neg h1]
   by_cases h3:a-1=j
   ·rw [if_pos h3,if_pos (Or.inr (Or.inl ⟨h9,h3.symm⟩))]
   ·rw [if_neg h3,if_neg];rintro (h|h|h)
    ·exact h1 h.symm
    ·exact h3 h.2.symm
    ·exact h2 h.1
 ·rw [if_neg h9]
  by_cases h2:(nth va0 l a).kind=2
  ·rw [if_pos h2,hz,hz]
   by_cases h1:a=j
   ·rw [if_pos h1,if_pos (Or.inl h1.symm)]
   ·rw [if_neg h1]
    by_cases h3:a+1=j
    ·rw [if_pos h3,if_pos (Or.inr (Or.inr ⟨h2,h3.symm⟩))]
    ·rw [if_neg h3,if_neg];rintro (h|h|h)
     ·exact h1 h.symm
     ·exact h9 h.1
     ·exact h3 h.2.symm
  ·rw [if_neg h2,hz]
   by_cases h1:a=j
   ·rw [if_pos h1,if_pos (Or.inl h1.symm)]
   ·rw [if_neg h1,if_neg];rintro (h|h|h)
    ·exact h1 h.symm
    ·exact h9 h.1
    ·exact h2 h.1
theorem LRel.los {l k:List Va} (h:LRel l k) {a:Nat} (ha:a<l.length) (x:Va) (hx:x.kind=0∨4<x.kind):LRel (losP l a) (k.set a x):=by
 have e:=fun j=>los_nth l a j ha
 have e':=fun j=>nth_set va0 k a j x
 have hk:a<k.length:=by rw [h.len];exact ha
 refine ⟨?_,?_,fun i=>?_,fun i h1 h2=>?_,fun i h1=>?_,fun i h1 h2 h3=>?_⟩
 ·rw [List.length_set,los_length,h.len]
 ·rw [e];split
  ·decide
  ·exact h.zero
 ·rw [e,e]
  have hp:=h.pair i
  have hp1:=h.pair a
  have hp0:=h.pair (a-1)
  have hz:=h.zero
  by_cases c1:i=a
  ·subst c1
   rw [if_pos (Or.inl rfl)]
   constructor
   ·intro q;exact absurd q (by decide)
   ·intro q
    split at q
    ·exact absurd q (by decide)
    ·rename_i hn
     have:=hp.mpr q
     exact absurd (Or.inr (Or.inr ⟨this,rfl⟩)) hn
  by_cases c2:i+1=a
  ·have c2':i=a-1:=by omega
   rw [if_pos (Or.inl c2:i+1=a∨_)]
   constructor
   ·intro q
    split at q
    ·exact absurd q (by decide)
    ·rename_i hn
     have:=hp.mp q
     rw [c2] at this
     exact absurd (Or.inr (Or.inl ⟨this,c2'⟩)) hn
   ·intro q;exact absurd q (by decide)
  by_cases c3:(nth va0 l a).kind=2∧i=a+1
  ·have hn:(nth va0 l i).kind=9:=by rw [c3.2];exact hp1.mp c3.1
   rw [if_pos (Or.inr (Or.inr c3))]
   rw [if_neg (by rintro (q|q|q)<;>omega)]
   constructor
   ·intro q;exact absurd q (by decide)
   ·intro q
    have:=hp.mpr q
    omega
  by_cases c4:(nth va0 l a).kind=9∧i+1=a-1
  ·have hn:(nth va0 l (a-1)).kind=2:=by
    have e1:a-1+1=a:=by omega
    rw [e1] at hp0
    exact hp0.mpr c4.1
   rw [if_pos (Or.inr (Or.inl c4):i+1=a∨((nth va0 l a).kind=9∧i+1=a-1)∨_)]
   rw [if_neg (by rintro (q|q|q)<;>omega)]
   constructor
   ·intro q
    have:=hp.mp q
    rw [c4.2] at this
    omega
   ·intro q;exact absurd q (by decide)
  rw [if_neg (by rintro (q|q|q)<;>omega)]
  by_cases c5:(nth va0 l a).kind=9∧i=a-1
  ·exact absurd c5.2 (by omega)
  rw [if_neg]
  ·exact hp
  ·rintro (q|q|q)
   ·omega
   ·exact c4 q
   ·omega
 ·rw [e] at h1 h2 ⊢
  split at h1
  ·exact absurd h1 (by decide)
  ·rename_i hn
   rw [if_neg hn] at h2 ⊢
   rw [e',if_neg (fun q=>hn (Or.inl q.1.symm))]
   exact h.rd i h1 h2
 ·rw [e] at h1
  split at h1
  ·exact absurd h1 (by decide)
  ·rename_i hn
   have hl:=h.long i h1
   rw [e',if_neg]
   ·exact hl
   ·rintro ⟨q,-⟩
    have hp:=(h.pair i).mp h1
    rw [←q] at hp
    exact hn (Or.inr (Or.inl ⟨hp,by omega⟩))
 ·rw [e'] at h1 h2
  split at h1
  ·rename_i hq
   rw [if_pos hq] at h2
   omega
  ·rename_i hn
   rw [if_neg hn] at h2
   rw [e',if_neg hn] at h3 ⊢
   have hb:(nth va0 l i).kind=(nth va0 k i).kind:=by
    refine h.back i h1 h2 fun q=>?_
    have h4:=h3 q
    rw [e'] at h4
    split at h4
    ·omega
    ·exact h4
   rw [e,if_neg]
   ·exact hb
   ·rintro (q|q|q)
    ·exact hn ⟨q.symm,hk⟩
    ·have e1:a-1+1=a:=by
      have:a≠0:=fun z=>h.zero (by rw [←z];exact q.1)
      omega
     have hp:=h.pair (a-1)
     rw [e1] at hp
     have h2':=hp.mpr q.1
     rw [←q.2,hb] at h2'
     have h4:=h3 h2'
     rw [e',q.2,e1,if_pos ⟨rfl,hk⟩] at h4
     omega
    ·have hp:=(h.pair a).mp q.1
     rw [←q.2,hb] at hp
     omega
theorem LRel.sto {l k:List Va} (h:LRel l k) {a:Nat} (ha:a<l.length) (v:Va) (hv:1≤v.kind∧v.kind≤3) (h2:v.kind=2→a+1<l.length):LRel (stoP l a v) (stoM k a (im v)):=by
 have hv2:(im v).kind=v.kind:=rfl
 by_cases hk:v.kind=2
 ·have ha1:=h2 hk
  have r1:=(h.los ha va0 (Or.inl rfl)).los (a:=a+1) (by rw [los_length];exact ha1) va0 (Or.inl rfl)
  have r0:stoP l a v=(((losP (losP l a) (a+1)).set (a+1) ⟨9,0⟩).set a v):=by unfold stoP;rw [if_pos hk]
  have r2:stoM k a (im v)=(k.set a (im v)).set (a+1) ⟨4,0⟩:=by unfold stoM;rw [if_pos (by rw [hv2];exact hk)]
  rw [r0,r2]
  have hl2:(losP (losP l a) (a+1)).length=l.length:=by rw [los_length,los_length]
  have e:∀j,nth va0 (((losP (losP l a) (a+1)).set (a+1) ⟨9,0⟩).set a v) j=if j=a then v else if j=a+1 then ⟨9,0⟩ else nth va0 (losP (losP l a) (a+1)) j:=by
   intro j
   rw [nth_set,nth_set,List.length_set,hl2]
   by_cases c1:j=a
   ·rw [if_pos ⟨c1.symm,ha⟩,if_pos c1]
   ·rw [if_neg (fun q=>c1 q.1.symm),if_neg c1]
    by_cases c2:j=a+1
    ·rw [if_pos ⟨c2.symm,ha1⟩,if_pos c2]
    ·rw [if_neg (fun q=>c2 q.1.symm),if_neg c2]
  have e':∀j,nth va0 ((k.set a (im v)).set (a+1) ⟨4,0⟩) j=if j=a then im v else if j=a+1 then ⟨4,0⟩ else nth va0 ((k.set a va0).set (a+1) va0) j:=by
   intro j
   rw [nth_set,nth_set,nth_set,nth_set,List.length_set,List.length_set,h.len]
   by_cases c1:j=a
   ·rw [if_neg (by omega),if_pos ⟨c1.symm,ha⟩,if_pos c1]
   ·rw [if_neg c1]
    by_cases c2:j=a+1
    ·rw [if_pos ⟨c2.symm,ha1⟩,if_pos c2]
    ·rw [if_neg (fun q=>c2 q.1.symm),if_neg (fun q=>c1 q.1.symm),if_neg c2,if_neg (fun q=>c2 q.1.symm),if_neg (fun q=>c1 q.1.symm)]
  have z0:nth va0 (losP (losP l a) (a+1)) a=va0:=by
   have hlt:a+1<(losP l a).length:=by rw [los_length];exact ha1
   rw [los_nth _ _ _ hlt]
   split
   ·rfl
   ·rw [los_nth _ _ _ ha,if_pos (Or.inl rfl)]
  have z1:nth va0 (losP (losP l a) (a+1)) (a+1)=va0:=by
   have hlt:a+1<(losP l a).length:=by rw [los_length];exact ha1
   rw [los_nth _ _ _ hlt,if_pos (Or.inl rfl)]
  have zp:∀i,i+1=a→(nth va0 (losP (losP l a) (a+1)) i).kind≠2:=by
   intro i hi q
   have:=(r1.pair i).mp q
   rw [hi,z0] at this
   exact absurd this (by decide)
  have zn:(nth va0 (losP (losP l a) (a+1)) (a+1+1)).kind≠9:=by
   intro q
   have:=(r1.pair (a+1)).mpr q
   rw [z1] at this
   exact absurd this (by decide)
  refine ⟨?_,?_,fun i=>?_,fun i h1 h3=>?_,fun i h1=>?_,fun i h1 h3 h4=>?_⟩
  ·simp [hl2,h.len]
  ·rw [e];split
   ·omega
   ·split
    ·omega
    ·exact r1.zero
  ·rw [e,e]
   by_cases c1:i=a
   ·subst c1;rw [if_pos rfl,if_neg (by omega),if_pos rfl];exact ⟨fun _=>rfl,fun _=>hk⟩
   ·rw [if_neg c1]
    by_cases c2:i=a+1
    ·subst c2
     rw [if_pos rfl,if_neg (by omega),if_neg (by omega)]
     constructor
     ·intro q;exact absurd q (by decide)
     ·intro q;exact absurd q zn
    ·rw [if_neg c2]
     by_cases c3:i+1=a
     ·rw [if_pos c3]
      constructor
      ·intro q;exact absurd q (zp i c3)
      ·intro q;omega
     ·rw [if_neg c3,if_neg (by omega)];exact r1.pair i
  ·rw [e] at h1 h3 ⊢
   rw [e']
   by_cases c1:i=a
   ·rw [if_pos c1,if_pos c1]
   ·rw [if_neg c1] at h1 h3 ⊢
    rw [if_neg c1]
    by_cases c2:i=a+1
    ·rw [if_pos c2] at h3;exact absurd h3 (by decide)
    ·rw [if_neg c2] at h1 h3 ⊢
     rw [if_neg c2]
     exact r1.rd i h1 h3
  ·rw [e] at h1
   rw [e']
   by_cases c1:i=a
   ·rw [if_neg (by omega),if_pos (by omega)]
   ·rw [if_neg c1] at h1
    by_cases c2:i=a+1
    ·rw [if_pos c2] at h1;exact absurd h1 (by decide)
    ·rw [if_neg c2] at h1
     by_cases c3:i+1=a
     ·exact absurd h1 (zp i c3)
     ·rw [if_neg c3,if_neg (by omega)]
      exact r1.long i h1
  ·rw [e'] at h1 h3
   rw [e,e']
   by_cases c1:i=a
   ·rw [if_pos c1,if_pos c1];rfl
   ·rw [if_neg c1] at h1 h3
    rw [if_neg c1,if_neg c1]
    by_cases c2:i=a+1
    ·rw [if_pos c2] at h3;exact absurd h3 (by decide)
    ·rw [if_neg c2] at h1 h3
     rw [if_neg c2,if_neg c2]
     refine r1.back i h1 h3 fun q=>?_
     have h5:=h4 (by rw [e',if_neg c1,if_neg c2];exact q)
     rw [e'] at h5
     by_cases c3:i+1=a
     ·rw [if_pos c3] at h5
      rw [hv2,hk] at h5
      exact absurd h5 (by decide)
     ·rw [if_neg c3,if_neg (by omega)] at h5
      exact h5
 ·have r1:=h.los ha va0 (Or.inl rfl)
  have r0:stoP l a v=(losP l a).set a v:=by unfold stoP;rw [if_neg hk]
  have r2:stoM k a (im v)=k.set a (im v):=by unfold stoM;rw [if_neg (by rw [hv2];exact hk)]
  rw [r0,r2]
  have e:∀j,nth va0 ((losP l a).set a v) j=if j=a then v else nth va0 (losP l a) j:=by
   intro j
   rw [nth_set,los_length]
   by_cases c1:j=a
   ·rw [if_pos ⟨c1.symm,ha⟩,if_pos c1]
   ·rw [if_neg (fun q=>c1 q.1.symm),if_neg c1]
  have e':∀j,nth va0 (k.set a (im v)) j=if j=a then im v else nth va0 (k.set a va0) j:=by
   intro j
   rw [nth_set,nth_set,h.len]
   by_cases c1:j=a
   ·rw [if_pos ⟨c1.symm,ha⟩,if_pos c1]
   ·rw [if_neg (fun q=>c1 q.1.symm),if_neg c1,if_neg (fun q=>c1 q.1.symm)]
  have z0:nth va0 (losP l a) a=va0:=by rw [los_nth _ _ _ ha,if_pos (Or.inl rfl)]
  have zp:∀i,i+1=a→(nth va0 (losP l a) i).kind≠2:=by
   intro i hi q
   have:=(r1.pair i).mp q
   rw [hi,z0] at this
   exact absurd this (by decide)
  have zn:(nth va0 (losP l a) (a+1)).kind≠9:=by
   intro q
   have:=(r1.pair a).mpr q
   rw [z0] at this
   exact absurd this (by decide)
  refine ⟨?_,?_,fun i=>?_,fun i h1 h3=>?_,fun i h1=>?_,fun i h1 h3 h4=>?_⟩
  ·simp [los_length,h.len]
  ·rw [e];split
   ·omega
   ·exact r1.zero
  ·rw [e,e]
   by_cases c1:i=a
   ·subst c1;rw [if_pos rfl,if_neg (by omega)]
    constructor
    ·intro q;exact absurd q hk
    ·intro q;exact absurd q zn
   ·rw [if_neg c1]
    by_cases c3:i+1=a
    ·rw [if_pos c3]
     constructor
     ·intro q;exact absurd q (zp i c3)
     ·intro q;omega
    ·rw [if_neg c3];exact r1.pair i
  ·rw [e] at h1 h3 ⊢
   rw [e']
   by_cases c1:i=a
   ·rw [if_pos c1,if_pos c1]
   ·rw [if_neg c1] at h1 h3 ⊢
    rw [if_neg c1]
    exact r1.rd i h1 h3
  ·rw [e] at h1
   rw [e']
   by_cases c1:i=a
   ·rw [if_pos c1] at h1;exact absurd h1 hk
   ·rw [if_neg c1] at h1
    by_cases c3:i+1=a
    ·exact absurd h1 (zp i c3)
    ·rw [if_neg c3]
     exact r1.long i h1
  ·rw [e'] at h1 h3
   rw [e,e']
   by_cases c1:i=a
   ·rw [if_pos c1,if_pos c1];rfl
   ·rw [if_neg c1] at h1 h3
    rw [if_neg c1,if_neg c1]
    refine r1.back i h1 h3 fun q=>?_
    have h5:=h4 (by rw [e',if_neg c1];exact q)
    rw [e'] at h5
    by_cases c3:i+1=a
    ·rw [if_pos c3] at h5
     rw [hv2] at h5
     omega
    ·rw [if_neg c3] at h5
     exact h5
theorem LRel.new (n:Nat):LRel (List.replicate n va0) (List.replicate n va0):=by
 have e:∀i,nth va0 (List.replicate n va0) i=va0:=by
  intro i
  unfold nth
  simp [List.getD_eq_getElem?_getD,List.getElem?_replicate]
  split<;>rfl
 refine ⟨rfl,?_,fun i=>?_,fun i h=>?_,fun i h=>?_,fun i h=>?_⟩
 ·rw [e];decide
 ·rw [e,e];decide
 ·rw [e] at h;exact absurd h (by decide)
 ·rw [e] at h;exact absurd h (by decide)
 ·rw [e] at h;exact absurd h (by decide)
def argsM (l:List Va) (at':Nat):List Va→List Va
 | []=>l
 | v::k=>argsM (stoM l at' v) (at'+(if v.kind=2 then 2 else 1)) k
end Go.Proofs.Ytimjmdfokicbkaa
