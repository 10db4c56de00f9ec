import Derived.Test.YtimjmdfokicbkabGreatRlaa
import Derived.Test.YtimjmdfokicbkabGreatChecked
import Derived.Handy
import Derived.WalkLawsBesides
import Derived.WalkKit
import Derived.RowKit3
import Derived.Below
import Derived.OwnWalk
import Derived.Laws.OwnMore
import Derived.Deep.Draws
import Derived.Deep.AppendLies
import Derived.Maps.OwnSet
import Derived.DeepKeys4
namespace Go.Proofs.YtimjmdfokicbkabGreat
set_option linter.unusedVariables false
set_option linter.unusedSimpArgs false
set_option maxHeartbeats 40000000
open Go.RowKit
structure Gc (h:Hp) (c:Cal):Prop where
 giv:GdV h c.giv
 cau:GdV h c.cau
 locs:∀v∈c.locs,GdV h v
 ok:LocOk c.locs
 len:(c.locs.length:Int)=c.m.regs
 me:rmeB h.file.classes h.file.methods c.m=true
 mok:∀i∈c.m.code,i.ok
theorem sizP_ge (l:List Va):l.length≤sizP l:=by
 induction l with
 | nil=>simp [sizP]
 | cons t l ih=>simp only [sizP,List.length_cons];split<;>omega
theorem sizP_append (l k:List Va):sizP (l++k)=sizP l+sizP k:=by
 induction l with
 | nil=>simp [sizP]
 | cons t l ih=>simp only [sizP,List.cons_append,ih];omega
theorem sizP_takeLe (l:List Va) (n:Nat):sizP (l.take n)≤sizP l:=by
 have:=sizP_append (l.take n) (l.drop n)
 rw [List.take_append_drop] at this
 omega
theorem smeP {cs:List Cl} {ms:List Me} {m:Me} (h:rmeB cs ms m=true):1≤m.regs∧m.regs≤90∧(slotsN m.params:Int)≤m.regs∧m.params.length≤4∧1≤m.code.length∧m.code.length≤2400∧(∀i∈m.code,rinB cs ms m.code.length m.regs m.ret.kind i=true)∧(∀t∈m.params,tyB cs.length t=true)∧(∀x∈m.hands,hdB cs.length m.code.length x=true)∧retB cs.length m.ret=true:=by
 unfold rmeB headB at h
 simp only [Bool.and_eq_true,List.all_eq_true,decide_eq_true_eq] at h
 obtain ⟨⟨⟨⟨⟨h1,h2⟩,h3⟩,h4⟩,h5⟩,h6⟩:=h
 exact ⟨by omega,by omega,by omega,by omega,by omega,by omega,h6,h2,h3,h4⟩
theorem Gc.le {h h':Hp} {c:Cal} (g:Gc h c) (l:Le h h'):Gc h' c :=
 ⟨g.giv.le l,g.cau.le l,fun v hv=>(g.locs v hv).le l,g.ok,g.len,by rw [l.file];exact g.me,g.mok⟩
theorem Gc.pc {h:Hp} {c:Cal} (g:Gc h c) (n:Int):Gc h { c with pc:=n }:=⟨g.giv,g.cau,g.locs,g.ok,g.len,g.me,g.mok⟩
theorem Gc.clr {h:Hp} {c:Cal} (g:Gc h c):Gc h c.clr:=⟨gdV0 h,gdV0 h,g.locs,g.ok,g.len,g.me,g.mok⟩
theorem Gc.rd {h:Hp} {c:Cal} (g:Gc h c) {a:Int} (ha:0≤a∧a<c.m.regs):GdV h (c.rd a):=g.locs _ (nth_mem (by have:=g.len;omega))
theorem fin_thrown (h:Hp) (e:Int):(h.fin e).thrown=h.thrown:=by unfold Hp.fin;split<;>rfl
theorem must_thrown (h:Hp) (b:Bool):(h.must b).thrown=h.thrown:=by unfold Hp.must;split;rfl;exact fin_thrown h 6
theorem must_go {h:Hp} {b:Bool} (ho:(h.must b).over=false):b=true∧h.over=false:=by
 unfold Hp.must at ho;split at ho
 ·rename_i hb;exact ⟨hb,ho⟩
 ·unfold Hp.fin at ho;split at ho
  ·rename_i h1;rw [h1] at ho;cases ho
  ·simp at ho
theorem set_ok {l:List Va} (h:LocOk l) (i:Nat) (v:Va) (h9:v.kind≠9) (h2:v.kind≠2):LocOk (l.set i v):=by
 have key:∀j,j<l.length→nth va0 (l.set i v) j=v∨nth va0 (l.set i v) j=nth va0 l j:=fun j hj=>by
  by_cases e:i=j
  ·subst e;exact Or.inl (nth_set_eq hj)
  ·exact Or.inr (nth_set_ne e)
 refine ⟨fun j hj hk=>?_,fun j hj hk=>?_⟩
 ·rw [List.length_set] at hj
  rcases key j hj with e|e
  ·rw [e] at hk;exact absurd hk h9
  ·rw [e] at hk;exact h.nine j hj hk
 ·rw [List.length_set] at hj ⊢
  rcases key j hj with e|e
  ·rw [e] at hk;exact absurd hk h2
  ·rw [e] at hk;exact h.two j hj hk
theorem los_ok {l:List Va} (h:LocOk l) (a:Nat):LocOk (losP l a):=by
 have h0:(va0).kind≠9:=by decide
 have h1:(va0).kind≠2:=by decide
 unfold losP;split
 ·exact set_ok (set_ok h _ _ h0 h1) _ _ h0 h1
 ·split
  ·exact set_ok (set_ok h _ _ h0 h1) _ _ h0 h1
  ·exact set_ok h _ _ h0 h1
theorem sto_ok {l:List Va} (h:LocOk l) (a:Nat) (v:Va) (h9:v.kind≠9) (h2:v.kind=2→a+1<l.length):LocOk (stoP l a v):=by
 unfold stoP;split
 ·rename_i hk
  have hl:=h2 hk
  have h3:=los_ok (los_ok h a) (a+1)
  have hlen:(losP (losP l a) (a+1)).length=l.length:=by rw [losP_length,losP_length]
  generalize losP (losP l a) (a+1)=m at h3 hlen
  refine ⟨fun j hj hj9=>?_,fun j hj hj2=>?_⟩
  ·rw [List.length_set,List.length_set] at hj
   by_cases e:a=j
   ·subst e;rw [nth_set_eq (by rw [List.length_set];exact hj)] at hj9;exact absurd hj9 h9
   ·rw [nth_set_ne e] at hj9
    by_cases e2:a+1=j
    ·omega
    ·rw [nth_set_ne e2] at hj9;exact h3.nine j hj hj9
  ·rw [List.length_set,List.length_set] at hj ⊢
   by_cases e:a=j
   ·omega
   ·rw [nth_set_ne e] at hj2
    by_cases e2:a+1=j
    ·subst e2;rw [nth_set_eq hj] at hj2;exact absurd hj2 (by decide)
    ·rw [nth_set_ne e2] at hj2;exact h3.two j hj hj2
 ·rename_i hk
  exact set_ok (los_ok h a) a v h9 hk
theorem los_mem {l:List Va} {a:Nat} {x:Va} (h:x∈losP l a):x=va0∨x∈l:=by
 unfold losP at h;split at h
 ·rcases mem_set' h with h|h
  ·exact Or.inl h
  ·exact mem_set' h
 ·split at h
  ·rcases mem_set' h with h|h
   ·exact Or.inl h
   ·exact mem_set' h
  ·exact mem_set' h
theorem sto_gd {h:Hp} {l:List Va} (hl:∀x∈l,GdV h x) {v:Va} (hv:GdV h v) (a:Nat):∀x∈stoP l a v,GdV h x:=by
 intro x hx
 have h0:=gdV0 h
 have h9:GdV h ⟨9,0⟩:=⟨fun e=>absurd e (by decide),by unfold I64;decide⟩
 unfold stoP at hx;split at hx
 ·rcases mem_set' hx with rfl|hx
  ·exact hv
  rcases mem_set' hx with rfl|hx
  ·exact h9
  rcases los_mem hx with rfl|hx
  ·exact h0
  rcases los_mem hx with rfl|hx
  ·exact h0
  exact hl x hx
 ·rcases mem_set' hx with rfl|hx
  ·exact hv
  rcases los_mem hx with rfl|hx
  ·exact h0
  exact hl x hx
theorem Gc.wr {h:Hp} {c:Cal} (g:Gc h c) {a:Int} {v:Va} (hv:h.stops=false→GdV h v∧v.kind≠9∧(v.kind=2→a+1<c.m.regs)) (ha:0≤a):Gc h (wrP h c a v):=by
 unfold wrP;split
 ·exact g
 ·rename_i hs
  obtain ⟨h1,h2,h3⟩:=hv (by simpa using hs)
  refine ⟨g.giv,g.cau,sto_gd g.locs h1 _,sto_ok g.ok _ _ h2 (fun e=>by have:=h3 e;have:=g.len;omega),?_,g.me,g.mok⟩
  show ((stoP c.locs a.toNat v).length:Int)=c.m.regs
  rw [stoP_length];exact g.len
structure Safe (P:Hp→Prop):Prop where
 fin:∀(h:Hp) (e:Int),e=3∨e=4∨e=6→P h→P (h.fin e)
 obj:∀(h:Hp) (o:List Ob),P h→P { h with objs:=o }
 thr:∀(h:Hp) (t:Int),P h→P { h with thrown:=t }
 out:∀(h:Hp) (n:Int),P h→P { h with sh:={ h.sh with out:=h.sh.out++[n] } }
 use:∀(h:Hp),P h→P { h with sh:={ h.sh with used:=h.sh.used+1 } }
theorem Safe.must {P:Hp→Prop} (S:Safe P) {h:Hp} (hf:P h) (b:Bool):P (h.must b):=by
 unfold Hp.must
 split
 ·exact hf
 ·exact S.fin _ _ (by decide) hf
theorem Safe.new {P:Hp→Prop} (S:Safe P) {h:Hp} (hf:P h) (c:Int):P (h.new c):=by
 unfold Hp.new
 split
 ·exact S.fin _ _ (by decide) hf
 ·exact S.obj _ _ hf
theorem Safe.raise {P:Hp→Prop} (S:Safe P) {h:Hp} (hf:P h) (c:Int):P (h.raise c):=by
 unfold Hp.raise
 split
 ·exact S.new hf c
 ·exact S.thr _ _ (S.new hf c)
theorem Safe.throw {P:Hp→Prop} (S:Safe P) {h:Hp} (hf:P h) (v:Va):P (h.throw v):=by
 unfold Hp.throw
 split
 ·split
  ·exact S.raise hf 1
  ·exact S.thr _ _ hf
 ·exact S.must hf _
theorem Safe.findH {P:Hp→Prop} (S:Safe P) {h:Hp} (hf:P h) (r:Va) (c:Int):P (h.findH r c):=by
 unfold Hp.findH
 split
 ·split
  ·exact S.raise hf 1
  ·exact hf
 ·exact S.must hf _
theorem Safe.put {P:Hp→Prop} (S:Safe P) {h:Hp} (hf:P h) (r:Va) (c k:Int) (v:Va):P (h.put r c k v):=by
 unfold Hp.put
 split
 ·split
  ·exact S.findH hf r c
  ·exact S.obj _ _ (S.findH hf r c)
 ·exact S.must hf _
theorem Safe.cast {P:Hp→Prop} (S:Safe P) {h:Hp} (hf:P h) (v:Va) (c:Int):P (h.cast v c):=by
 unfold Hp.cast
 split
 ·split
  ·exact hf
  ·exact S.raise hf 3
 ·exact S.must hf _
theorem Safe.emit {P:Hp→Prop} (S:Safe P) {h:Hp} (hf:P h) (v:Va) (k:Int):P (h.emit v k):=by
 unfold Hp.emit
 split
 ·exact S.out _ _ hf
 ·exact S.must hf _
theorem Safe.input {P:Hp→Prop} (S:Safe P) {h:Hp} (hf:P h):P h.input':=by
 unfold Hp.input'
 split
 ·exact S.fin _ _ (by decide) hf
 ·exact S.use _ hf
theorem Safe.reckH {P:Hp→Prop} (S:Safe P) {h:Hp} (hf:P h) (a b:Va) (k op:Int):P (h.reckH a b k op):=by
 unfold Hp.reckH
 split
 ·split
  ·exact hf
  ·exact S.raise hf 2
 ·exact S.must hf _
theorem Safe.givesH {P:Hp→Prop} (S:Safe P) {h:Hp} (hf:P h) (c:Cal) (i:In):P (givesH h c i):=by
 unfold Go.Proofs.YtimjmdfokicbkabGreat.givesH
 split
 ·exact hf
 split
 ·exact S.must hf _
 split
 ·exact S.reckH hf _ _ _ _
 split
 ·exact S.reckH hf _ _ _ _
 split
 ·exact S.must hf _
 split
 ·exact S.must hf _
 split
 ·exact S.must (S.must hf _) _
 split
 ·exact S.new hf _
 split
 ·split
  ·exact S.must hf _
  ·exact S.findH (S.must hf _) _ _
 split
 ·split
  ·exact S.must hf _
  ·exact S.must (S.must hf _) _
 ·exact S.input hf
theorem Safe.does {P:Hp→Prop} (S:Safe P) {h:Hp} (hf:P h) (c:Cal) (i:In):P (doesP h c i).h:=by
 have m:=fun b=>S.must hf b
 unfold doesP
 split
 ·exact hf
 split
 ·exact m _
 split
 ·exact m _
 split
 ·unfold putP;dsimp only;split
  ·exact S.must (m _) _
  ·exact S.put (S.must (m _) _) _ _ _ _
 split
 ·unfold castP;dsimp only;split
  ·exact m _
  ·exact S.cast (m _) _ _
 split
 ·exact m _
 split
 ·unfold thrP;dsimp only;split
  ·exact m _
  ·exact S.throw (m _) _
 split
 ·exact m _
 split
 ·unfold emitP;dsimp only;split
  ·exact m _
  ·exact S.emit (m _) _ _
 ·exact S.givesH hf _ _
theorem ret_bool {x y:Bool} (h:x=y):Ending.returned (.bool x)=.returned (.bool y):=by rw [h]
abbrev stopE (how k n:Int):Ending:=.panicked [{ v:=.iface 76 (.agg #[.int .i64 how,.int .i64 k,.int .i64 n]),recovered:=false }]
abbrev mvV (v:Va):Value:=.agg #[.int .i64 v.kind,.int .i64 v.n]
theorem info_mv:(Tryz.prog.info? 65).map (·.size)=some 2:=by kernel_rfl
theorem mblk {w:World} {b:Nat} {cs:Array Value} {t:TypeId} (hb:b=w.heap.size):(w.alloc (.cells cs t)).heap[b]?=some (.cells cs t (0,0)):=by
 subst hb
 show (w.heap.push _)[w.heap.size]?=_
 simp
theorem mend_any (how:Int) (w:World):Calls Tryz.prog 42 #[.int .i64 how] w fun e w'=>e=stopE how 0 0∧w'=w:=by
 go_enter Tryz.func42,Tryz.ntmps42
 go_wp2
 exact ⟨rfl,rfl,rfl⟩
theorem mstuck_any (w:World):Calls Tryz.prog 30 #[] w fun e w'=>e=stopE 6 0 0∧w'=w:=by
 go_enter Tryz.func30,Tryz.ntmps30
 go_wp2_with (go_at_call 42;refine (mend_any 6 _).mono ?_;rintro e w1 ⟨rfl,hw⟩;rw [hw];clear hw w1)
 exact ⟨rfl,rfl,rfl⟩
theorem mustbe_yes (v:Va) (k:Int) (w:World) (h:v.kind=k):Calls Tryz.prog 83 #[mvV v,.int .i64 k] w fun e w'=>e=.returned (mvV v)∧Bl w w':=by
 subst h
 go_enter Tryz.func83,Tryz.ntmps83
 go_wp2
 refine bodyPost_ret (results_cell_row rfl _ _ (w.heap.size+1) _ _ _ _ rfl (mblk (by simp)) Tryz.underlying65 rfl info_mv) rfl ?_
 exact ⟨rfl,((Bl.refl w).alloc _).alloc _⟩
theorem mustbe_no (v:Va) (k:Int) (w:World) (h:v.kind≠k):Calls Tryz.prog 83 #[mvV v,.int .i64 k] w fun e w'=>e=stopE 6 0 0∧Bl w w':=by
 have hz:(v.kind !=k)=true:=by simpa using h
 go_enter Tryz.func83,Tryz.ntmps83
 go_wp2_with (go_at_call 30;refine (mstuck_any _).mono ?_;rintro e w1 ⟨rfl,hw⟩;rw [hw];clear hw w1)
 exact ⟨rfl,rfl,((Bl.refl w).alloc _).alloc _⟩
theorem lt_some {w:World} {b:Nat} {o:Obj} (h:w.heap[b]?=some o):b<w.heap.size:=by
 by_cases hb:b<w.heap.size
 ·exact hb
 ·simp [hb] at h
theorem block_set {w:World} {b i:Nat} {cs:Array Value} {t:TypeId} {f:Nat×Nat} (h:w.heap[b]?=some (.cells cs t f)) (v:Value) :
  (w.setCell ⟨b,i,none⟩ v).heap[b]?=some (.cells (cs.setIfInBounds i v) t f):=by
 simp [World.setCell,Array.getElem?_modify,h]
theorem block_far {w:World} {b b' i:Nat} {s:Option _} (hb:b'≠b) (v:Value):(w.setCell ⟨b,i,s⟩ v).heap[b']?=w.heap[b']?:=Below.heap_setCell _ _ _ _ hb
theorem cell_blk {w:World} {b i:Nat} {cs:Array Value} {t:TypeId} {f:Nat×Nat} (h:w.heap[b]?=some (.cells cs t f)):w.cell? ⟨b,i,none⟩=cs[i]?:=by simp [World.cell?,h]
theorem free_blk {w:World} {b:Nat} {cs:Array Value} {t:TypeId} (h:w.heap[b]?=some (.cells cs t (0,0))) (i:Nat):w.frozen? ⟨b,i,none⟩=false:=by simp [World.frozen?,h]
theorem row_far {w:World} {base:Nat} {e:TypeId} {size n:Nat} {v:Value} {xs:List Value} (ho:w.ownsRow base e size v n xs) {b i:Nat} {cs:Array Value} {t:TypeId} {f:Nat×Nat} (hb:w.heap[b]?=some (.cells cs t f)) (ht:t≠e) (u:Value) :
  (w.setCell ⟨b,i,none⟩ u).ownsRow base e size v n xs:=by
 refine ⟨ho.1,?_⟩
 rcases ho.2 with h0|⟨g,cap,cur,h1,h2,h3,h4⟩
 ·exact Or.inl h0
 ·refine Or.inr ⟨g,cap,cur,h1,h2,?_,h4⟩
  rw [block_far]
  ·exact h3
  ·rintro rfl;rw [hb] at h3;simp at h3;exact ht h3.2.1
theorem blk_new (w:World) (cs:Array Value) (t:TypeId):(w.alloc (.cells cs t)).heap[w.heap.size]?=some (.cells cs t (0,0)):=by
 show (w.heap.push _)[w.heap.size]?=_
 simp
theorem bl_drewN {a w:World} (h:Bl a w) (n:Nat):Bl a (w.drewN n):=⟨h.os,h.tape,h.output,h.size,h.block⟩
theorem own_far {w:World} {base:Nat} {e:TypeId} {size n:Nat} {v:Value} {xs:List Value} (ho:w.ownsRow base e size v n xs) {b:Nat} {cs:Array Value} {t:TypeId} {f:Nat×Nat} (hb:w.heap[b]?=some (.cells cs t f)) (ht:t≠e):v.ownBlock≠some b:=by
 intro hc
 rcases ho.2 with ⟨rfl,-⟩|⟨gb,cap,cur,rfl,h2,h3,h4⟩
 ·simp [Value.ownBlock] at hc
 ·simp [Value.ownBlock] at hc
  subst hc
  rw [hb] at h3
  simp at h3
  exact ht h3.2.1
def vaCells:List Va→List Value
 | []=>[]
 | v::l=>.int .i64 v.kind::.int .i64 v.n::vaCells l
theorem vaCells_length (l:List Va):(vaCells l).length=l.length*2:=by
 induction l with
 | nil=>rfl
 | cons x l ih=>simp [vaCells,ih];omega
theorem va_cells:∀(l:List Va) (i:Nat),i<l.length→(vaCells l)[i*2]?=some (.int .i64 (nth va0 l i).kind)∧(vaCells l)[i*2+1]?=some (.int .i64 (nth va0 l i).n)
 | [],i,h=>by simp at h
 | x::l,0,_=>by simp [vaCells,nth]
 | x::l,i+1,h=>by
  have:=va_cells l i (by simpa using h)
  have e:(i+1)*2=i*2+1+1:=by omega
  rw [e]
  simpa [vaCells,nth] using this
theorem vaCells_set:∀(l:List Va) (i:Nat) (v:Va),i<l.length→vaCells (l.set i v)=((vaCells l).set (i*2) (.int .i64 v.kind)).set (i*2+1) (.int .i64 v.n)
 | [],i,v,h=>by simp at h
 | x::l,0,v,_=>by simp [vaCells]
 | x::l,i+1,v,h=>by
  have:=vaCells_set l i v (by simpa using h)
  have e1:(i+1)*2=i*2+1+1:=by omega
  have e2:(i+1)*2+1=i*2+1+1+1:=by omega
  rw [e2,e1]
  simp [vaCells,this]
theorem hid {p:Prop} (h:p):Hid p:=h
abbrev tyMV (t:Ty):Value:=.agg #[.int .i64 t.kind,.int .i64 t.cls]
abbrev tyMO (t:Ty):Obj:=.cells #[.int .i64 t.kind,.int .i64 t.cls] 43
abbrev mvO (v:Va):Obj:=.cells #[.int .i64 v.kind,.int .i64 v.n] 65
abbrev mvZ:Obj:=.cells #[.int .i64 0,.int .i64 0] 65
theorem three_lie (w:World) (a b c:Array Value) (s t u:TypeId):(((w.alloc (.cells a s)).alloc (.cells b t)).alloc (.cells c u)).heap[w.heap.size]?=some (.cells a s (0,0))∧(((w.alloc (.cells a s)).alloc (.cells b t)).alloc (.cells c u)).heap[w.heap.size+1]?=some (.cells b t (0,0))
  ∧ (((w.alloc (.cells a s)).alloc (.cells b t)).alloc (.cells c u)).heap[w.heap.size+1+1]?=some (.cells c u (0,0)):=by
 have h1:(w.alloc (.cells a s)).heap.size=w.heap.size+1:=by simp
 have h2:((w.alloc (.cells a s)).alloc (.cells b t)).heap.size=w.heap.size+1+1:=by simp
 refine ⟨?_,?_,?_⟩
 ·rw [Below.heap_alloc _ _ _ (by omega),Below.heap_alloc _ _ _ (by omega)];exact blk_new _ _ _
 ·rw [Below.heap_alloc _ _ _ (by omega),←h1];exact blk_new _ _ _
 ·rw [←h2];exact blk_new _ _ _
theorem bl_blk {w w':World} (h:Bl w w') {b:Nat} {o:Obj} (hb:w.heap[b]?=some o):w'.heap[b]?=some o:=(h.block b (lt_some hb)).trans hb
theorem c0_of {w:World} {b:Nat} {k n:Value} {t:TypeId} (q:w.heap[b]?=some (.cells #[k,n] t (0,0))):w.cell? ⟨b,0,none⟩=some k:=by rw [cell_blk q];rfl
theorem c1_of {w:World} {b:Nat} {k n:Value} {t:TypeId} (q:w.heap[b]?=some (.cells #[k,n] t (0,0))):w.cell? ⟨b,1,none⟩=some n:=by rw [cell_blk q];rfl
theorem set_two {w:World} {b:Nat} {k n k' n':Value} {t:TypeId} (q:w.heap[b]?=some (.cells #[k,n] t (0,0))):((w.setCell ⟨b,0,none⟩ k').setCell ⟨b,1,none⟩ n').heap[b]?=some (.cells #[k',n'] t (0,0)):=by
 rw [block_set (block_set q _) _];rfl
theorem bl_two {w0 w:World} (h:Bl w0 w) {b:Nat} (hb:w0.heap.size≤b) (k n:Value):Bl w0 ((w.setCell ⟨b,0,none⟩ k).setCell ⟨b,1,none⟩ n):=(h.setCell (p:=⟨b,0,none⟩) hb k).setCell (p:=⟨b,1,none⟩) hb n
theorem grown_set {w:World} (b i:Nat) (v:Value):w.grownBy (w.setCell ⟨b,i,none⟩ v) (some b) :=
 ⟨rfl,rfl,rfl,by simp [World.setCell],fun k hk hb=>block_far (fun e=>hb (by rw [e])) v⟩
theorem grown_trans {x y z:World} {row:Option Nat} (h:x.grownBy y row) (k:y.grownBy z row):x.grownBy z row :=
 ⟨k.os.trans h.os,k.tape.trans h.tape,k.output.trans h.output,Nat.le_trans h.size k.size,fun i hi hb=>(k.block i (Nat.lt_of_lt_of_le hi h.size) hb).trans (h.block i hi hb)⟩
section
open Go.Maps (Keyed has)
abbrev placeV (o c k:Int):Value:=.agg #[.int .i64 o,.int .i64 c,.int .i64 k]
def keyM (o c k:Int):Lit:=.string (keyBytes [.int .i64 o,.int .i64 c,.int .i64 k])
theorem place_out:laidOutB Tryz.prog=true:=by kernel_rfl
theorem place_row:(132:TypeId)<Tryz.prog.types.size:=of_decide_eq_true (by kernel_rfl)
theorem place_wide:(match Tryz.prog.underlying 132 with|some (.array _ _)|some (.struct _)=>true|_=>false)=true:=by rw [Tryz.underlying132]
theorem place_at:Tryz.prog.keyTypeAt 2 132=true:=by kernel_rfl
set_option maxRecDepth 1000000 in
theorem place_key:Keyed Tryz.prog 132:=Keyed.of_law (deep_law_laid (P:=Tryz.prog) (k:=132) place_out (m:=2) (by omega) place_row place_at place_wide)
theorem place_type:Tryz.prog.keyType 132=true:=by kernel_rfl
theorem place_cells:Tryz.prog.cellsOf 132=3:=by kernel_rfl
theorem int_cells:Tryz.prog.cellsOf 3=1:=by kernel_rfl
theorem i64_wf {n:Int} (h:I64 n):(Lit.int .i64 n).wf=true:=by
 unfold I64 at h
 simp [Lit.wf,IntKind.min,IntKind.max,IntKind.bits,IntKind.signed]
 omega
theorem int_lits (d:Nat) {n:Int} (h:I64 n):Tryz.prog.keyLits (d+1) 3 [.int .i64 n]=some [.int .i64 n]:=by
 unfold Program.keyLits
 rw [Tryz.underlying3]
 simp [i64_wf h]
theorem place_lits (d:Nat) {o c k:Int} (ho:I64 o) (hc:I64 c) (hk:I64 k):Tryz.prog.keyLits (d+1+1) 132 [.int .i64 o,.int .i64 c,.int .i64 k]=some [.int .i64 o,.int .i64 c,.int .i64 k]:=by
 have h1:=int_lits d ho
 have h2:=int_lits d hc
 have h3:=int_lits d hk
 unfold Program.keyLits
 rw [Tryz.underlying132]
 simp [place_cells,int_cells,h1,h2,h3]
theorem types_two:∃d,Tryz.prog.types.size+1=d+1+1:=by
 have h:(132:Nat)<Tryz.prog.types.size:=place_row
 exact ⟨Tryz.prog.types.size-1,by omega⟩
theorem keyM_of {o c k:Int} (ho:I64 o) (hc:I64 c) (hk:I64 k):keyOf Tryz.prog 132 (placeV o c k)=some (keyM o c k):=by
 obtain ⟨d,hd⟩:=types_two
 unfold keyOf
 rw [Tryz.underlying132,hd]
 dsimp only
 have hf:(placeV o c k).formed Tryz.prog 132=true:=by simp [Value.formed,Tryz.underlying132,place_cells]
 rw [place_type,hf]
 have hc':(placeV o c k).cells.toList=[.int .i64 o,.int .i64 c,.int .i64 k]:=rfl
 rw [hc',place_lits d ho hc hk]
 rfl
theorem keyM_inj {o c k o' c' k':Int} (ho:I64 o) (hc:I64 c) (hk:I64 k) (ho':I64 o') (hc':I64 c') (hk':I64 k') (h:keyM o c k=keyM o' c' k'):o=o'∧c=c'∧k=k':=by
 have h1:=keyM_of ho hc hk
 have h2:=keyM_of ho' hc' hk'
 rw [←h] at h2
 have:=place_key.inj h1 h2
 simp at this
 exact this
end
def im (v:Va):Va:=⟨v.kind,if v.kind=3 then v.n+1 else v.n⟩
theorem im_kind (v:Va):(im v).kind=v.kind:=rfl
theorem im_num {v:Va} (h:v.kind≠3):im v=v:=by unfold im;rw [if_neg h]
theorem im_ref {v:Va} (h:v.kind=3):im v=⟨3,v.n+1⟩:=by unfold im;rw [if_pos h,h]
theorem nth_set {α:Type} (d:α) (l:List α) (i j:Nat) (v:α):nth d (l.set i v) j=if i=j∧i<l.length then v else nth d l j:=by
 unfold nth
 simp only [List.getD_eq_getElem?_getD,List.getElem?_set]
 by_cases h:i=j
 ·subst h
  by_cases hl:i<l.length
  ·simp [hl]
  ·simp [hl]
 ·simp [h]
theorem nth_out {α:Type} {d:α} {l:List α} {i:Nat} (h:l.length≤i):nth d l i=d:=by
 unfold nth
 simp [List.getD_eq_getElem?_getD,h]
structure LRel (l k:List Va):Prop where
 len:k.length=l.length
 zero:(nth va0 l 0).kind≠9
 pair:∀i,(nth va0 l i).kind=2↔(nth va0 l (i+1)).kind=9
 rd:∀i,1≤(nth va0 l i).kind→(nth va0 l i).kind≤3→nth va0 k i=im (nth va0 l i)
 long:∀i,(nth va0 l i).kind=2→(nth va0 k (i+1)).kind=4
 back:∀i,1≤(nth va0 k i).kind→(nth va0 k i).kind≤3→((nth va0 k i).kind=2→(nth va0 k (i+1)).kind=4)→(nth va0 l i).kind=(nth va0 k i).kind
def stoM (k:List Va) (a:Nat) (v:Va):List Va:=if v.kind=2 then (k.set a v).set (a+1) ⟨4,0⟩ else k.set a v
theorem stoM_length (k:List Va) (a:Nat) (v:Va):(stoM k a v).length=k.length:=by unfold stoM;split<;>simp
theorem los_length (l:List Va) (a:Nat):(losP l a).length=l.length:=losP_length l a
theorem sto_length (l:List Va) (a:Nat) (v:Va):(stoP l a v).length=l.length:=stoP_length l a v
theorem los_nth (l:List Va) (a j:Nat) (ha:a<l.length):nth va0 (losP l a) j=if j=a∨((nth va0 l a).kind=9∧j=a-1)∨((nth va0 l a).kind=2∧j=a+1) then va0 else nth va0 l j:=by
 have hz:∀(l:List Va) i,nth va0 (l.set i va0) j=if i=j then va0 else nth va0 l j:=by
  intro l i
  rw [nth_set]
  by_cases h:i=j
  ·by_cases hl:i<l.length
   ·rw [if_pos ⟨h,hl⟩,if_pos h]
   ·rw [if_neg (fun x=>hl x.2),if_pos h,nth_out (by omega)]
  ·rw [if_neg (fun x=>h x.1),if_neg h]
 unfold losP
 by_cases h9:(nth va0 l a).kind=9
 ·rw [if_pos h9,hz,hz]
  have h2:¬(nth va0 l a).kind=2:=by omega
  by_cases h1:a=j
  ·rw [if_pos h1,if_pos (Or.inl h1.symm)]
  ·rw [if_neg h1]
   by_cases h3:a-1=j
   ·rw [if_pos h3,if_pos (Or.inr (Or.inl ⟨h9,h3.symm⟩))]
   ·rw [if_neg h3,if_neg];rintro (h|h|h)
    ·exact h1 h.symm
    ·exact h3 h.2.symm
    ·exact h2 h.1
 ·rw [if_neg h9]
  by_cases h2:(nth va0 l a).kind=2
  ·rw [if_pos h2,hz,hz]
   by_cases h1:a=j
   ·rw [if_pos h1,if_pos (Or.inl h1.symm)]
   ·rw [if_neg h1]
    by_cases h3:a+1=j
    ·rw [if_pos h3,if_pos (Or.inr (Or.inr ⟨h2,h3.symm⟩))]
    ·rw [if_neg h3,if_neg];rintro (h|h|h)
     ·exact h1 h.symm
     ·exact h9 h.1
     ·exact h3 h.2.symm
  ·rw [if_neg h2,hz]
   by_cases h1:a=j
   ·rw [if_pos h1,if_pos (Or.inl h1.symm)]
   ·rw [if_neg h1,if_neg];rintro (h|h|h)
    ·exact h1 h.symm
    ·exact h9 h.1
    ·exact h2 h.1
theorem LRel.los {l k:List Va} (h:LRel l k) {a:Nat} (ha:a<l.length) (x:Va) (hx:x.kind=0∨4<x.kind):LRel (losP l a) (k.set a x):=by
 have e:=fun j=>los_nth l a j ha
 have e':=fun j=>nth_set va0 k a j x
 have hk:a<k.length:=by rw [h.len];exact ha
 refine ⟨?_,?_,fun i=>?_,fun i h1 h2=>?_,fun i h1=>?_,fun i h1 h2 h3=>?_⟩
 ·rw [List.length_set,los_length,h.len]
 ·rw [e];split
  ·decide
  ·exact h.zero
 ·rw [e,e]
  have hp:=h.pair i
  have hp1:=h.pair a
  have hp0:=h.pair (a-1)
  have hz:=h.zero
  by_cases c1:i=a
  ·subst c1
   rw [if_pos (Or.inl rfl)]
   constructor
   ·intro q;exact absurd q (by decide)
   ·intro q
    split at q
    ·exact absurd q (by decide)
    ·rename_i hn
     have:=hp.mpr q
     exact absurd (Or.inr (Or.inr ⟨this,rfl⟩)) hn
  by_cases c2:i+1=a
  ·have c2':i=a-1:=by omega
   rw [if_pos (Or.inl c2:i+1=a∨_)]
   constructor
   ·intro q
    split at q
    ·exact absurd q (by decide)
    ·rename_i hn
     have:=hp.mp q
     rw [c2] at this
     exact absurd (Or.inr (Or.inl ⟨this,c2'⟩)) hn
   ·intro q;exact absurd q (by decide)
  by_cases c3:(nth va0 l a).kind=2∧i=a+1
  ·have hn:(nth va0 l i).kind=9:=by rw [c3.2];exact hp1.mp c3.1
   rw [if_pos (Or.inr (Or.inr c3))]
   rw [if_neg (by rintro (q|q|q)<;>omega)]
   constructor
   ·intro q;exact absurd q (by decide)
   ·intro q
    have:=hp.mpr q
    omega
  by_cases c4:(nth va0 l a).kind=9∧i+1=a-1
  ·have hn:(nth va0 l (a-1)).kind=2:=by
    have e1:a-1+1=a:=by omega
    rw [e1] at hp0
    exact hp0.mpr c4.1
   rw [if_pos (Or.inr (Or.inl c4):i+1=a∨((nth va0 l a).kind=9∧i+1=a-1)∨_)]
   rw [if_neg (by rintro (q|q|q)<;>omega)]
   constructor
   ·intro q
    have:=hp.mp q
    rw [c4.2] at this
    omega
   ·intro q;exact absurd q (by decide)
  rw [if_neg (by rintro (q|q|q)<;>omega)]
  by_cases c5:(nth va0 l a).kind=9∧i=a-1
  ·exact absurd c5.2 (by omega)
  rw [if_neg]
  ·exact hp
  ·rintro (q|q|q)
   ·omega
   ·exact c4 q
   ·omega
 ·rw [e] at h1 h2 ⊢
  split at h1
  ·exact absurd h1 (by decide)
  ·rename_i hn
   rw [if_neg hn] at h2 ⊢
   rw [e',if_neg (fun q=>hn (Or.inl q.1.symm))]
   exact h.rd i h1 h2
 ·rw [e] at h1
  split at h1
  ·exact absurd h1 (by decide)
  ·rename_i hn
   have hl:=h.long i h1
   rw [e',if_neg]
   ·exact hl
   ·rintro ⟨q,-⟩
    have hp:=(h.pair i).mp h1
    rw [←q] at hp
    exact hn (Or.inr (Or.inl ⟨hp,by omega⟩))
 ·rw [e'] at h1 h2
  split at h1
  ·rename_i hq
   rw [if_pos hq] at h2
   omega
  ·rename_i hn
   rw [if_neg hn] at h2
   rw [e',if_neg hn] at h3 ⊢
   have hb:(nth va0 l i).kind=(nth va0 k i).kind:=by
    refine h.back i h1 h2 fun q=>?_
    have h4:=h3 q
    rw [e'] at h4
    split at h4
    ·omega
    ·exact h4
   rw [e,if_neg]
   ·exact hb
   ·rintro (q|q|q)
    ·exact hn ⟨q.symm,hk⟩
    ·have e1:a-1+1=a:=by
      have:a≠0:=fun z=>h.zero (by rw [←z];exact q.1)
      omega
     have hp:=h.pair (a-1)
     rw [e1] at hp
     have h2':=hp.mpr q.1
     rw [←q.2,hb] at h2'
     have h4:=h3 h2'
     rw [e',q.2,e1,if_pos ⟨rfl,hk⟩] at h4
     omega
    ·have hp:=(h.pair a).mp q.1
     rw [←q.2,hb] at hp
     omega
theorem LRel.sto {l k:List Va} (h:LRel l k) {a:Nat} (ha:a<l.length) (v:Va) (hv:1≤v.kind∧v.kind≤3) (h2:v.kind=2→a+1<l.length):LRel (stoP l a v) (stoM k a (im v)):=by
 have hv2:(im v).kind=v.kind:=rfl
 by_cases hk:v.kind=2
 ·have ha1:=h2 hk
  have r1:=(h.los ha va0 (Or.inl rfl)).los (a:=a+1) (by rw [los_length];exact ha1) va0 (Or.inl rfl)
  have r0:stoP l a v=(((losP (losP l a) (a+1)).set (a+1) ⟨9,0⟩).set a v):=by unfold stoP;rw [if_pos hk]
  have r2:stoM k a (im v)=(k.set a (im v)).set (a+1) ⟨4,0⟩:=by unfold stoM;rw [if_pos (by rw [hv2];exact hk)]
  rw [r0,r2]
  have hl2:(losP (losP l a) (a+1)).length=l.length:=by rw [los_length,los_length]
  have e:∀j,nth va0 (((losP (losP l a) (a+1)).set (a+1) ⟨9,0⟩).set a v) j=if j=a then v else if j=a+1 then ⟨9,0⟩ else nth va0 (losP (losP l a) (a+1)) j:=by
   intro j
   rw [nth_set,nth_set,List.length_set,hl2]
   by_cases c1:j=a
   ·rw [if_pos ⟨c1.symm,ha⟩,if_pos c1]
   ·rw [if_neg (fun q=>c1 q.1.symm),if_neg c1]
    by_cases c2:j=a+1
    ·rw [if_pos ⟨c2.symm,ha1⟩,if_pos c2]
    ·rw [if_neg (fun q=>c2 q.1.symm),if_neg c2]
  have e':∀j,nth va0 ((k.set a (im v)).set (a+1) ⟨4,0⟩) j=if j=a then im v else if j=a+1 then ⟨4,0⟩ else nth va0 ((k.set a va0).set (a+1) va0) j:=by
   intro j
   rw [nth_set,nth_set,nth_set,nth_set,List.length_set,List.length_set,h.len]
   by_cases c1:j=a
   ·rw [if_neg (by omega),if_pos ⟨c1.symm,ha⟩,if_pos c1]
   ·rw [if_neg c1]
    by_cases c2:j=a+1
    ·rw [if_pos ⟨c2.symm,ha1⟩,if_pos c2]
    ·rw [if_neg (fun q=>c2 q.1.symm),if_neg (fun q=>c1 q.1.symm),if_neg c2,if_neg (fun q=>c2 q.1.symm),if_neg (fun q=>c1 q.1.symm)]
  have z0:nth va0 (losP (losP l a) (a+1)) a=va0:=by
   have hlt:a+1<(losP l a).length:=by rw [los_length];exact ha1
   rw [los_nth _ _ _ hlt]
   split
   ·rfl
   ·rw [los_nth _ _ _ ha,if_pos (Or.inl rfl)]
  have z1:nth va0 (losP (losP l a) (a+1)) (a+1)=va0:=by
   have hlt:a+1<(losP l a).length:=by rw [los_length];exact ha1
   rw [los_nth _ _ _ hlt,if_pos (Or.inl rfl)]
  have zp:∀i,i+1=a→(nth va0 (losP (losP l a) (a+1)) i).kind≠2:=by
   intro i hi q
   have:=(r1.pair i).mp q
   rw [hi,z0] at this
   exact absurd this (by decide)
  have zn:(nth va0 (losP (losP l a) (a+1)) (a+1+1)).kind≠9:=by
   intro q
   have:=(r1.pair (a+1)).mpr q
   rw [z1] at this
   exact absurd this (by decide)
  refine ⟨?_,?_,fun i=>?_,fun i h1 h3=>?_,fun i h1=>?_,fun i h1 h3 h4=>?_⟩
  ·simp [hl2,h.len]
  ·rw [e];split
   ·omega
   ·split
    ·omega
    ·exact r1.zero
  ·rw [e,e]
   by_cases c1:i=a
   ·subst c1;rw [if_pos rfl,if_neg (by omega),if_pos rfl];exact ⟨fun _=>rfl,fun _=>hk⟩
   ·rw [if_neg c1]
    by_cases c2:i=a+1
    ·subst c2
     rw [if_pos rfl,if_neg (by omega),if_neg (by omega)]
     constructor
     ·intro q;exact absurd q (by decide)
     ·intro q;exact absurd q zn
    ·rw [if_neg c2]
     by_cases c3:i+1=a
     ·rw [if_pos c3]
      constructor
      ·intro q;exact absurd q (zp i c3)
      ·intro q;omega
     ·rw [if_neg c3,if_neg (by omega)];exact r1.pair i
  ·rw [e] at h1 h3 ⊢
   rw [e']
   by_cases c1:i=a
   ·rw [if_pos c1,if_pos c1]
   ·rw [if_neg c1] at h1 h3 ⊢
    rw [if_neg c1]
    by_cases c2:i=a+1
    ·rw [if_pos c2] at h3;exact absurd h3 (by decide)
    ·rw [if_neg c2] at h1 h3 ⊢
     rw [if_neg c2]
     exact r1.rd i h1 h3
  ·rw [e] at h1
   rw [e']
   by_cases c1:i=a
   ·rw [if_neg (by omega),if_pos (by omega)]
   ·rw [if_neg c1] at h1
    by_cases c2:i=a+1
    ·rw [if_pos c2] at h1;exact absurd h1 (by decide)
    ·rw [if_neg c2] at h1
     by_cases c3:i+1=a
     ·exact absurd h1 (zp i c3)
     ·rw [if_neg c3,if_neg (by omega)]
      exact r1.long i h1
  ·rw [e'] at h1 h3
   rw [e,e']
   by_cases c1:i=a
   ·rw [if_pos c1,if_pos c1];rfl
   ·rw [if_neg c1] at h1 h3
    rw [if_neg c1,if_neg c1]
    by_cases c2:i=a+1
    ·rw [if_pos c2] at h3;exact absurd h3 (by decide)
    ·rw [if_neg c2] at h1 h3
     rw [if_neg c2,if_neg c2]
     refine r1.back i h1 h3 fun q=>?_
     have h5:=h4 (by rw [e',if_neg c1,if_neg c2];exact q)
     rw [e'] at h5
     by_cases c3:i+1=a
     ·rw [if_pos c3] at h5
      rw [hv2,hk] at h5
      exact absurd h5 (by decide)
     ·rw [if_neg c3,if_neg (by omega)] at h5
      exact h5
 ·have r1:=h.los ha va0 (Or.inl rfl)
  have r0:stoP l a v=(losP l a).set a v:=by unfold stoP;rw [if_neg hk]
  have r2:stoM k a (im v)=k.set a (im v):=by unfold stoM;rw [if_neg (by rw [hv2];exact hk)]
  rw [r0,r2]
  have e:∀j,nth va0 ((losP l a).set a v) j=if j=a then v else nth va0 (losP l a) j:=by
   intro j
   rw [nth_set,los_length]
   by_cases c1:j=a
   ·rw [if_pos ⟨c1.symm,ha⟩,if_pos c1]
   ·rw [if_neg (fun q=>c1 q.1.symm),if_neg c1]
  have e':∀j,nth va0 (k.set a (im v)) j=if j=a then im v else nth va0 (k.set a va0) j:=by
   intro j
   rw [nth_set,nth_set,h.len]
   by_cases c1:j=a
   ·rw [if_pos ⟨c1.symm,ha⟩,if_pos c1]
   ·rw [if_neg (fun q=>c1 q.1.symm),if_neg c1,if_neg (fun q=>c1 q.1.symm)]
  have z0:nth va0 (losP l a) a=va0:=by rw [los_nth _ _ _ ha,if_pos (Or.inl rfl)]
  have zp:∀i,i+1=a→(nth va0 (losP l a) i).kind≠2:=by
   intro i hi q
   have:=(r1.pair i).mp q
   rw [hi,z0] at this
   exact absurd this (by decide)
  have zn:(nth va0 (losP l a) (a+1)).kind≠9:=by
   intro q
   have:=(r1.pair a).mpr q
   rw [z0] at this
   exact absurd this (by decide)
  refine ⟨?_,?_,fun i=>?_,fun i h1 h3=>?_,fun i h1=>?_,fun i h1 h3 h4=>?_⟩
  ·simp [los_length,h.len]
  ·rw [e];split
   ·omega
   ·exact r1.zero
  ·rw [e,e]
   by_cases c1:i=a
   ·subst c1;rw [if_pos rfl,if_neg (by omega)]
    constructor
    ·intro q;exact absurd q hk
    ·intro q;exact absurd q zn
   ·rw [if_neg c1]
    by_cases c3:i+1=a
    ·rw [if_pos c3]
     constructor
     ·intro q;exact absurd q (zp i c3)
     ·intro q;omega
    ·rw [if_neg c3];exact r1.pair i
  ·rw [e] at h1 h3 ⊢
   rw [e']
   by_cases c1:i=a
   ·rw [if_pos c1,if_pos c1]
   ·rw [if_neg c1] at h1 h3 ⊢
    rw [if_neg c1]
    exact r1.rd i h1 h3
  ·rw [e] at h1
   rw [e']
   by_cases c1:i=a
   ·rw [if_pos c1] at h1;exact absurd h1 hk
   ·rw [if_neg c1] at h1
    by_cases c3:i+1=a
    ·exact absurd h1 (zp i c3)
    ·rw [if_neg c3]
     exact r1.long i h1
  ·rw [e'] at h1 h3
   rw [e,e']
   by_cases c1:i=a
   ·rw [if_pos c1,if_pos c1];rfl
   ·rw [if_neg c1] at h1 h3
    rw [if_neg c1,if_neg c1]
    refine r1.back i h1 h3 fun q=>?_
    have h5:=h4 (by rw [e',if_neg c1];exact q)
    rw [e'] at h5
    by_cases c3:i+1=a
    ·rw [if_pos c3] at h5
     rw [hv2] at h5
     omega
    ·rw [if_neg c3] at h5
     exact h5
theorem LRel.new (n:Nat):LRel (List.replicate n va0) (List.replicate n va0):=by
 have e:∀i,nth va0 (List.replicate n va0) i=va0:=by
  intro i
  unfold nth
  simp [List.getD_eq_getElem?_getD,List.getElem?_replicate]
  split<;>rfl
 refine ⟨rfl,?_,fun i=>?_,fun i h=>?_,fun i h=>?_,fun i h=>?_⟩
 ·rw [e];decide
 ·rw [e,e];decide
 ·rw [e] at h;exact absurd h (by decide)
 ·rw [e] at h;exact absurd h (by decide)
 ·rw [e] at h;exact absurd h (by decide)
theorem numbers_any (x n:Int) (w:World) :
  Calls Tryz.prog 40 #[.int .i64 x,.int .i64 n] w fun e w'=>e=.returned (.bool (decide (0≤x∧x<n)))∧w'=w:=by
 go_enter Tryz.func40,Tryz.ntmps40
 go_wp2
 all_goals
  go_ret
  refine ⟨ret_bool ?_,rfl⟩
  rw [Bool.eq_iff_iff];simp;try omega
theorem span_any (n lo hi:Int) (w:World) :
  Calls Tryz.prog 11 #[.int .i64 n,.int .i64 lo,.int .i64 hi] w fun e w'=>e=.returned (.bool (decide (lo≤n∧n≤hi)))∧w'=w:=by
 go_enter Tryz.func11,Tryz.ntmps11
 go_wp2
 all_goals
  go_ret
  refine ⟨ret_bool ?_,rfl⟩
  rw [Bool.eq_iff_iff];simp;try omega
theorem maySuper_any (c s:Int) (w:World) :
  Calls Tryz.prog 23 #[.int .i64 c,.int .i64 s] w fun e w'=>e=.returned (.bool (decide ((c=0∧s=-1)∨(c≠0∧0≤s∧s<c))))∧w'=w:=by
 by_cases h0:c=0
 ·subst h0
  go_enter Tryz.func23,Tryz.ntmps23
  go_wp2
  all_goals
   go_ret
   refine ⟨ret_bool ?_,rfl⟩
   rw [Bool.eq_iff_iff];simp
 ·go_enter Tryz.func23,Tryz.ntmps23
  go_wp2_with (go_at_call 40;refine (numbers_any _ _ _).mono ?_;rintro e w' ⟨rfl,rfl⟩)
  all_goals
   go_ret
   refine ⟨ret_bool ?_,rfl⟩
   rw [Bool.eq_iff_iff];simp;omega
theorem mayType_any (n:Nat) (k x:Int) (w:World) :
  Calls Tryz.prog 72 #[.agg #[.int .i64 k,.int .i64 x],.int .i64 n] w fun e w'=>e=.returned (.bool (tyB n ⟨k,x⟩))∧Bl w w':=by
 have hk:k=1∨k=2∨k=3∨(k≠1∧k≠2∧k≠3):=by omega
 rcases hk with rfl|rfl|rfl|⟨h1,h2,h3⟩
 all_goals
  go_enter Tryz.func72,Tryz.ntmps72
  go_wp2_with (go_at_call 40;refine (numbers_any _ _ _).mono ?_;rintro e w' ⟨rfl,rfl⟩)
  go_ret
  refine ⟨ret_bool ?_,(Bl.refl _).alloc _⟩
  unfold tyB
  rw [Bool.eq_iff_iff];simp;try omega
def fldB (n:Nat) (f:List Ty):Bool:=decide (f.length≤6)&&f.all (tyB n)
theorem fld_long {n:Nat} {f:List Ty} (h:¬f.length≤6):fldB n f=false:=by unfold fldB;rw [decide_eq_false h];rfl
theorem all_ty_bad {n q:Nat} {f:List Ty} (hq:q<f.length) (h:tyB n (nth ty0 f q)=false):f.all (tyB n)=false:=by
 rw [List.all_eq_false];exact ⟨nth ty0 f q,nth_mem hq,by rw [h];decide⟩
theorem all_ty_good {n:Nat} {f:List Ty} (ht:∀k,k<f.length→tyB n (nth ty0 f k)=true):f.all (tyB n)=true:=by
 rw [List.all_eq_true]
 intro x hx
 obtain ⟨k,hk,rfl⟩:=List.getElem_of_mem hx
 rw [←nth_get hk];exact ht k hk
theorem mayTypes_any (A:Option Addr) (n c:Nat) (F:List Ty) (w:World) (hl:TysAt w A F) :
  Calls Tryz.prog 51 #[.int .i64 n,.slice A F.length c] w fun e w'=>e=.returned (.bool (F.all (tyB n)))∧Bl w w':=by
 obtain ⟨hm,hl⟩:=hl
 unfold maxLen at hm
 have HG:Hid ((∀k,k<F.length→tyB n (nth ty0 F k)=true)→F.all (tyB n)=true):=all_ty_good
 have HT:Hid (∀q,q<F.length→tyB n (nth ty0 F q)=false→F.all (tyB n)=false):=fun q=>all_ty_bad
 obtain ⟨R,hR⟩:∃R,F.all (tyB n)=R:=⟨_,rfl⟩
 rw [hR] at HG HT ⊢
 clear hR
 go_enter Tryz.func51,Tryz.ntmps51
 go_wp2
 go_loopw [9] (fun i wr=>∃q:Nat,q≤F.length∧i=.int .i64 q∧Hid (∀j,j<q→tyB n (nth ty0 F j)=true)∧Hid (Bl w wr)) (fun i _=>F.length-(intOf i).toNat)
 case atStart=>exact ⟨0,Nat.zero_le _,rfl,fun j hj=>absurd hj (Nat.not_lt_zero _),Bl.refl _⟩
 case round =>
  obtain ⟨q,hq,rfl,hgq,hg⟩:=hrel
  by_cases hql:q<F.length
  ·rcases hl with h0|⟨b,off,rfl,hcell⟩
   ·omega
   obtain ⟨ht1,ht2,-,-⟩:=hcell q hql
   replace ht1:=hg.out.cell ht1
   replace ht2:=hg.out.cell ht2
   clear hcell HG
   cases hT:tyB n (nth ty0 F q)
   ·have hT':tyB n ⟨(nth ty0 F q).kind,(nth ty0 F q).cls⟩=false:=hT
    have HF:=HT.out q hql hT
    clear HT hT
    go_wp2_with (go_at_call 72;refine (mayType_any _ _ _ _).mono ?_;rintro e w1 ⟨rfl,hg1⟩)
    go_ret
    exact ⟨ret_bool HF.symm,(hg.out.alloc _).trans hg1⟩
   ·have hT':tyB n ⟨(nth ty0 F q).kind,(nth ty0 F q).cls⟩=true:=hT
    have HT1:Hid (tyB n (nth ty0 F q)=true):=hT
    clear hT HT
    go_wp2_with (go_at_call 72;refine (mayType_any _ _ _ _).mono ?_;rintro e w1 ⟨rfl,hg1⟩)
    go_roundw
    case rel=>exact ⟨q+1,by omega,by go_num,fun j hj=>if h:j<q then hgq.out j h else by have:j=q:=(by omega);subst this;exact HT1.out,(hg.out.alloc _).trans hg1⟩
    case measure=>simp [intOf];omega
  ·have hkk:q=F.length:=by omega
   subst hkk
   have HF:=HG.out hgq.out
   clear HG hl
   go_wp2
   go_ret
   exact ⟨ret_bool HF.symm,hg.out⟩
theorem mayFields_any (A:Option Addr) (n c:Nat) (F:List Ty) (w:World) (hl:TysAt w A F) :
  Calls Tryz.prog 24 #[.slice A F.length c,.int .i64 n] w fun e w'=>e=.returned (.bool (fldB n F))∧Bl w w':=by
 have hm:=hl.1
 unfold maxLen at hm
 by_cases h6:F.length≤6
 ·have hb:fldB n F=F.all (tyB n):=by unfold fldB;rw [decide_eq_true h6];rfl
  rw [hb]
  go_enter Tryz.func24,Tryz.ntmps24
  go_wp2_with (go_at_call 51;refine (mayTypes_any _ _ _ _ _ hl).mono ?_;rintro e w1 ⟨rfl,hg1⟩)
  go_ret
  exact ⟨rfl,hg1⟩
 ·have hb:=fld_long (n:=n) h6
  rw [hb]
  clear hb hl
  go_enter Tryz.func24,Tryz.ntmps24
  go_wp2
  go_ret
  exact ⟨rfl,Bl.refl _⟩
def supB (l:List Cl) (i:Nat):Bool:=decide (((i:Int)=0∧(nth cl0 l i).super=-1)∨((i:Int)≠0∧0≤(nth cl0 l i).super∧(nth cl0 l i).super<i))
theorem may_sup {l:List Cl} {i:Nat} (hi:i<l.length) (h:supB l i=false):mayB l=false:=by
 unfold supB at h
 rw [decide_eq_false_iff_not] at h
 by_cases h0:i=0
 ·subst h0;exact may_few (by omega)
 ·exact may_cl hi (cl_bad (by omega))
theorem may_fld {l:List Cl} {i:Nat} (hi:i<l.length) (h:fldB l.length (nth cl0 l i).fields=false):mayB l=false:=by
 refine may_cl hi ?_
 by_cases h6:(nth cl0 l i).fields.length≤6
 ·unfold fldB at h
  rw [decide_eq_true h6,Bool.true_and] at h
  unfold clB;rw [h,Bool.and_false]
 ·exact cl_bad (by omega)
theorem may_both {l:List Cl} (h4:4≤l.length) (h12:l.length≤12) (h:∀i,i<l.length→supB l i=true∧fldB l.length (nth cl0 l i).fields=true):mayB l=true:=by
 have h0:=(h 0 (by omega)).1
 unfold supB at h0
 rw [decide_eq_true_eq] at h0
 refine may_good ⟨h4,h12,by omega⟩ fun i hi=>?_
 obtain ⟨h1,h2⟩:=h i hi
 unfold supB at h1;unfold fldB at h2
 rw [decide_eq_true_eq] at h1
 rw [Bool.and_eq_true,decide_eq_true_eq] at h2
 unfold clB
 rw [h2.2,Bool.and_true,decide_eq_true_eq]
 exact ⟨by omega,h2.1⟩
theorem may_any (A:Option Addr) (c:Nat) (l:List Cl) (w:World) (hl:ClsAt w A l) :
  Calls Tryz.prog 10 #[.slice A l.length c] w fun e w'=>e=.returned (.bool (mayB l))∧Bl w w':=by
 obtain ⟨hm,hl⟩:=hl
 unfold maxLen at hm
 by_cases h4:¬(4≤(l.length:Int)∧(l.length:Int)≤12)
 ·have hb:mayB l=false:=may_few (by omega)
  rw [hb]
  clear hb hl
  have hd:decide (4≤(l.length:Int)∧(l.length:Int)≤12)=false:=decide_eq_false h4
  go_enter Tryz.func10,Tryz.ntmps10
  go_wp2_with (go_at_call 11;refine (span_any _ _ _ _).mono ?_;rintro e w1 ⟨he,rfl⟩;rw [hd] at he;subst he)
  go_ret
  exact ⟨rfl,Bl.refl _⟩
 replace h4:=Decidable.of_not_not h4
 have hd:decide (4≤(l.length:Int)∧(l.length:Int)≤12)=true:=decide_eq_true h4
 rcases hl with hl|⟨b,off,rfl,hc⟩
 ·omega
 have HB:Hid ((∀i,i<l.length→supB l i=true∧fldB l.length (nth cl0 l i).fields=true)→mayB l=true):=may_both (by omega) (by omega)
 go_enter Tryz.func10,Tryz.ntmps10
 go_wp2_with (go_at_call 11;refine (span_any _ _ _ _).mono ?_;rintro e w1 ⟨he,hw1⟩;rw [hd] at he;subst he;rw [hw1];clear hw1 w1)
 go_loopw [11] (fun i wr=>∃k:Nat,k≤l.length∧i=.int .i64 k∧Hid (∀j,j<k→supB l j=true∧fldB l.length (nth cl0 l j).fields=true)∧Hid (Bl w wr)) (fun i _=>l.length-(intOf i).toNat)
 case atStart=>exact ⟨0,Nat.zero_le _,rfl,fun j hj=>absurd hj (Nat.not_lt_zero _),Bl.refl _⟩
 case round =>
  obtain ⟨k,hk,rfl,hgood,hg⟩:=hrel
  by_cases hlt:k<l.length
  ·obtain ⟨hsup,hsb,A',c',hfl,hty⟩:=hc k hlt
   replace hsup:=hg.out.cell hsup
   replace hfl:=hg.out.cell hfl
   have HTY:Hid (TysAt wr A' (nth cl0 l k).fields):=hty.bl hg.out
   have HS:Hid (supB l k=false→mayB l=false):=may_sup hlt
   have HF:Hid (fldB l.length (nth cl0 l k).fields=false→mayB l=false):=may_fld hlt
   clear hc HB hty
   cases hS:supB l k
   ·have HBAD:=HS.out hS
    have hS':decide (((k:Int)=0∧(nth cl0 l k).super=-1)∨((k:Int)≠0∧0≤(nth cl0 l k).super∧(nth cl0 l k).super<k))=false:=hS
    clear hS
    go_wp2_with (go_at_call 23;refine (maySuper_any _ _ _).mono ?_;rintro e w1 ⟨he,rfl⟩;rw [hS'] at he;subst he)
    go_ret
    exact ⟨ret_bool HBAD.symm,hg.out.alloc _⟩
   ·have HST:Hid (supB l k=true):=hS
    have hS':decide (((k:Int)=0∧(nth cl0 l k).super=-1)∨((k:Int)≠0∧0≤(nth cl0 l k).super∧(nth cl0 l k).super<k))=true:=hS
    clear hS
    cases hF:fldB l.length (nth cl0 l k).fields
    ·have HBAD:=HF.out hF
     go_wp2_with (first
      | (go_at_call 23;refine (maySuper_any _ _ _).mono ?_;rintro e w1 ⟨he,rfl⟩;rw [hS'] at he;subst he)
      | (go_at_call 24;refine (mayFields_any _ _ _ _ _ (HTY.out.bl ((Bl.refl _).alloc _))).mono ?_;rintro e w1 ⟨he,hg1⟩;rw [hF] at he;subst he))
     go_ret
     exact ⟨ret_bool HBAD.symm,(hg.out.alloc _).trans hg1⟩
    ·have HFT:Hid (fldB l.length (nth cl0 l k).fields=true):=hF
     go_wp2_with (first
      | (go_at_call 23;refine (maySuper_any _ _ _).mono ?_;rintro e w1 ⟨he,rfl⟩;rw [hS'] at he;subst he)
      | (go_at_call 24;refine (mayFields_any _ _ _ _ _ (HTY.out.bl ((Bl.refl _).alloc _))).mono ?_;rintro e w1 ⟨he,hg1⟩;rw [hF] at he;subst he))
     go_roundw
     case rel=>exact ⟨k+1,by omega,by go_num,fun j hj=>if h:j<k then hgood.out j h else by have:j=k:=(by omega);subst this;exact ⟨HST.out,HFT.out⟩,(hg.out.alloc _).trans hg1⟩
     case measure=>simp [intOf];omega
  ·have hkk:k=l.length:=by omega
   subst hkk
   have HBB:=HB.out hgood.out
   clear HB hc
   go_wp2
   go_ret
   exact ⟨ret_bool HBB.symm,hg.out⟩
end Go.Proofs.YtimjmdfokicbkabGreat
