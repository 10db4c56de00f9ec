import Derived.Test.YtgiiapenmjollabGreatRsad
import Derived.WalkKit
import Derived.RowKit3
import Derived.Below
import Derived.OwnWalk
import Derived.Laws.OwnMore
import Derived.Deep.Draws
import Derived.Test.YtgiiapenmjollabGreatChecked
import Derived.Handy
import Derived.Deep.RegionHeld3
import Derived.BigQuiet
import Derived.Deep.AppendLies
import Derived.Deep.RegionLaw
import Derived.BigRegion
namespace Go.Proofs.YtgiiapenmjollabGreat
set_option linter.all false
set_option maxHeartbeats 40000000
set_option maxRecDepth 100000
open Go.RowKit
def Kd (h:Hp):Prop:=∀o∈h.objs,∀x∈o.held,x.v.kind=(fieldT h.file.classes x.cls x.fld).kind
theorem Kd.same {h h':Hp} (k:Kd h) (e1:h'.objs=h.objs) (e2:h'.file=h.file):Kd h':=by
 unfold Kd
 rw [e1,e2]
 exact k
theorem fin_ob (h:Hp) (e:Int):(h.fin e).objs=h.objs∧(h.fin e).file=h.file:=by unfold Hp.fin;split<;>exact ⟨rfl,rfl⟩
theorem Kd.fin {h:Hp} (k:Kd h) (e:Int):Kd (h.fin e):=k.same (fin_ob h e).1 (fin_ob h e).2
theorem Kd.must {h:Hp} (k:Kd h) (b:Bool):Kd (h.must b):=by unfold Hp.must;split;exact k;exact k.fin 6
theorem newHeld_kd (cs:List Cl) (c:Nat):∀x∈newHeld cs c,x.v.kind=(fieldT cs x.cls x.fld).kind:=by
 intro x hx
 unfold newHeld at hx
 rw [List.mem_flatMap] at hx
 obtain ⟨d,-,hd⟩:=hx
 unfold heldOf at hd
 split at hd
 ·rw [List.mem_map] at hd
  obtain ⟨k,-,rfl⟩:=hd
  rfl
 ·simp at hd
theorem Kd.new {h:Hp} (k:Kd h) (c:Int):Kd (h.new c):=by
 unfold Hp.new;split
 ·exact k.fin 4
 ·intro o ho x hx
  dsimp only at ho ⊢
  rw [List.mem_append] at ho
  rcases ho with ho|ho
  ·exact k o ho x hx
  ·simp at ho;subst ho;exact newHeld_kd _ _ x hx
theorem Kd.raise {h:Hp} (k:Kd h) (c:Int):Kd (h.raise c):=by
 unfold Hp.raise;split
 ·exact k.new c
 ·exact (k.new c).same rfl rfl
theorem Kd.throw {h:Hp} (k:Kd h) (v:Va):Kd (h.throw v):=by
 unfold Hp.throw;split
 ·split
  ·exact k.raise 1
  ·exact k.same rfl rfl
 ·exact k.must _
theorem Kd.findH {h:Hp} (k:Kd h) (r:Va) (c:Int):Kd (h.findH r c):=by
 unfold Hp.findH;split
 ·split
  ·exact k.raise 1
  ·exact k
 ·exact k.must _
theorem held_is {l:List Hel} {c k:Int} {q:Nat} (h:heldAt l c k=q):q<l.length∧(nth hel0 l q).cls=c∧(nth hel0 l q).fld=k:=by
 unfold heldAt at h
 split at h
 ·rename_i i hi
  rw [List.findIdx?_eq_some_iff_getElem] at hi
  obtain ⟨h1,h2,-⟩:=hi
  have e:i=q:=by exact_mod_cast h
  subst e
  rw [nth_get h1]
  have:=of_decide_eq_true h2
  exact ⟨h1,this.1,this.2⟩
 ·omega
theorem find_at {h:Hp} {r:Va} {c k:Int} (hn:¬h.findN r c k<0):h.findH r c=h∧h.mustB (h.of r ⟨3,c⟩)=true∧¬r.n<0∧heldAt (h.obj r.n).held c k=(h.findN r c k).toNat:=by
 unfold Hp.findN at hn ⊢
 split
 ·rename_i hm
  rw [if_pos hm] at hn
  split
  ·rename_i h1;rw [if_pos h1] at hn;omega
  ·rename_i h1
   rw [if_neg h1] at hn
   refine ⟨?_,hm,h1,by omega⟩
   unfold Hp.findH
   rw [if_pos hm,if_neg h1]
 ·rename_i hm;rw [if_neg hm] at hn;omega
theorem Kd.put {h:Hp} (g:Kd h) (r:Va) (c k:Int) (v:Va):Kd (h.put r c k v):=by
 unfold Hp.put;split
 ·rename_i hm
  split
  ·exact g.findH r c
  ·rename_i hn
   obtain ⟨e1,e2,e3,e4⟩:=find_at hn
   obtain ⟨p1,p2,p3⟩:=held_is e4
   rw [e1]
   generalize (h.findN r c k).toNat=j at p1 p2 p3
   intro o ho x hx
   unfold Hp.setV at ho ⊢
   dsimp only at ho ⊢
   by_cases hl:r.n.toNat<h.objs.length
   ·rcases mem_set' ho with rfl|ho
    ·dsimp only at hx
     rcases mem_set' hx with rfl|hx
     ·dsimp only
      have hk:v.kind=(fieldT h.file.classes c k).kind:=by
       have:=(mustB_true hm).1
       unfold Hp.of at this
       rw [Bool.and_eq_true] at this
       exact of_decide_eq_true this.1
      unfold Hp.obj at p2 p3
      rw [p2,p3];exact hk
     ·exact g _ (nth_mem hl) x hx
    ·exact g o ho x hx
   ·rw [List.set_eq_of_length_le (by omega)] at ho;exact g o ho x hx
 ·exact g.must _
theorem Kd.cast {h:Hp} (k:Kd h) (v:Va) (c:Int):Kd (h.cast v c):=by
 unfold Hp.cast;split
 ·split
  ·exact k
  ·exact k.raise 3
 ·exact k.must _
theorem Kd.emit {h:Hp} (k:Kd h) (v:Va) (n:Int):Kd (h.emit v n):=by
 unfold Hp.emit;split
 ·exact k.same rfl rfl
 ·exact k.must _
theorem Kd.input {h:Hp} (k:Kd h):Kd h.input':=by
 unfold Hp.input';split
 ·exact k.fin 3
 ·exact k.same rfl rfl
theorem Kd.reckH {h:Hp} (k:Kd h) (a b:Va) (n op:Int):Kd (h.reckH a b n op):=by
 unfold Hp.reckH;split
 ·split
  ·exact k
  ·exact k.raise 2
 ·exact k.must _
theorem Kd.step {h:Hp} (k:Kd h):Kd h.step:=by
 unfold Hp.step;split
 ·exact k
 ·split
  ·exact k.fin 0
  ·exact k.same rfl rfl
theorem getV_kind {h:Hp} (g:Kd h) {r:Va} {c k:Int} (hr:GdV h r) (hn:¬h.findN r c k<0):(h.getV r c k).kind=(fieldT h.file.classes c k).kind:=by
 obtain ⟨e1,e2,e3,e4⟩:=find_at hn
 obtain ⟨p1,p2,p3⟩:=held_is e4
 have h3:r.kind=3:=of_ref (mustB_true e2).1
 have hol:r.n.toNat<h.objs.length:=by have:=(hr.ref h3).2;omega
 unfold Hp.getV
 rw [if_neg hn]
 have:=g _ (nth_mem (d:=ob0) hol) _ (nth_mem (d:=hel0) p1)
 refine Eq.trans this ?_
 show (fieldT h.file.classes (nth hel0 (h.obj r.n).held (h.findN r c k).toNat).cls (nth hel0 (h.obj r.n).held (h.findN r c k).toNat).fld).kind=_
 rw [p2,p3]
structure Ad where
 A:Option Addr
 a:Nat
 M:Option Addr
 m:Nat
 I:Option Addr
 i:Nat
 T:TypeId
abbrev vaV (v:Va):Value:=.agg #[.int .i64 v.kind,.int .i64 v.n]
def hpRow (g:Ad) (h:Hp) (vo vx:Value):Array Value :=
 #[.slice g.A h.file.classes.length g.a,.slice g.M h.file.methods.length g.m,vo,.slice g.I h.input.length g.i,.int .i64 h.calls,.int .i64 h.fuel,
  .int .i64 h.sh.fin,.int .i64 h.sh.value,.int .i64 h.sh.cls,vx,.int .i64 h.sh.used,.int .i64 h.sh.steps,.bool h.over,.int .i64 h.thrown]
def obCells:List Ob→List Value→List Value
 | o::l,v::k=>.int .i64 o.cls::v::obCells l k
 | _,_=>[]
def heCells:List Hel→List Value
 | []=>[]
 | x::l=>.int .i64 x.cls::.int .i64 x.fld::.int .i64 x.v.kind::.int .i64 x.v.n::heCells l
abbrev hv0:Value:=.bool false
structure ObsAt (B:Nat) (w:World) (vo:Value) (l:List Ob) (hv:List Value):Prop where
 len:hv.length=l.length
 row:w.ownsRow B 152 2 vo l.length (obCells l hv)
 held:∀i,i<l.length→w.ownsRow B 285 4 (nth hv0 hv i) (nth ob0 l i).held.length (heCells (nth ob0 l i).held)
 apart:∀i j,i<l.length→j<l.length→i≠j→(nth hv0 hv i).ownBlock=none∨(nth hv0 hv i).ownBlock≠(nth hv0 hv j).ownBlock
structure HpAt (w0:World) (g:Ad) (w:World) (p:Nat) (h:Hp) (vo vx:Value) (hv:List Value):Prop where
 own:w0.heap.size≤p
 blk:w.heap[p]?=some (.cells (hpRow g h vo vx) g.T (0,0))
 bl:Bl w0 w
 out:w.ownsRow w0.heap.size 2 1 vx h.sh.out.length (h.sh.out.map (Value.int .i64))
 obs:ObsAt w0.heap.size w vo h.objs hv
def Hs (w0:World) (g:Ad) (w:World) (p:Nat) (h:Hp):Prop:=∃vo vx hv,HpAt w0 g w p h vo vx hv
def heapT (T t:TypeId):Prop:=t=T∨t=152∨t=285∨t=2
structure Tk (T:TypeId):Prop where
 o:T≠152
 h:T≠285
 i:T≠2
 v:T≠82
 c:T≠174
 t:T≠46
 m:T≠50
 n:T≠58
 d:T≠98
theorem Tk.nv {T:TypeId} (k:Tk T):¬heapT T 82:=by rintro (h|h|h|h)<;>first|exact k.v h.symm|exact absurd h (by decide)
theorem Tk.nc {T:TypeId} (k:Tk T):¬heapT T 174:=by rintro (h|h|h|h)<;>first|exact k.c h.symm|exact absurd h (by decide)
theorem Tk.nm {T:TypeId} (k:Tk T):¬heapT T 50:=by rintro (h|h|h|h)<;>first|exact k.m h.symm|exact absurd h (by decide)
theorem Tk.nd {T:TypeId} (k:Tk T):¬heapT T 98:=by rintro (h|h|h|h)<;>first|exact k.d h.symm|exact absurd h (by decide)
structure Fr (B:Nat) (T:TypeId) (w w':World):Prop where
 bl:Below B w w'
 keep:∀(b:Nat) (cs:Array Value) (t:TypeId) (f:Nat×Nat),w.heap[b]?=some (.cells cs t f)→¬heapT T t→w'.heap[b]?=some (.cells cs t f)
structure Cf (B:Nat) (T:TypeId) (w w':World):Prop where
 bl:Below B w w'
 keep:∀(b:Nat) (cs:Array Value) (t:TypeId) (f:Nat×Nat),w.heap[b]?=some (.cells cs t f)→heapT T t→w'.heap[b]?=some (.cells cs t f)
theorem Fr.refl (B:Nat) (T:TypeId) (w:World):Fr B T w w:=⟨Below.refl _ _,fun _ _ _ _ h _=>h⟩
theorem Fr.trans {B:Nat} {T:TypeId} {a b c:World} (h:Fr B T a b) (k:Fr B T b c):Fr B T a c:=⟨h.bl.trans k.bl,fun x cs t f e n=>k.keep x cs t f (h.keep x cs t f e n) n⟩
theorem Cf.refl (B:Nat) (T:TypeId) (w:World):Cf B T w w:=⟨Below.refl _ _,fun _ _ _ _ h _=>h⟩
theorem Cf.trans {B:Nat} {T:TypeId} {a b c:World} (h:Cf B T a b) (k:Cf B T b c):Cf B T a c:=⟨h.bl.trans k.bl,fun x cs t f e n=>k.keep x cs t f (h.keep x cs t f e n) n⟩
theorem Fr.alloc {B:Nat} {T:TypeId} {a w:World} (h:Fr B T a w) (hB:B≤w.heap.size) (o:Obj):Fr B T a (w.alloc o) :=
 h.trans ⟨(Below.refl B w).alloc hB o,fun b _ _ _ e _=>(Below.heap_alloc w o b (lt_some e)).trans e⟩
theorem Cf.alloc {B:Nat} {T:TypeId} {a w:World} (h:Cf B T a w) (hB:B≤w.heap.size) (o:Obj):Cf B T a (w.alloc o) :=
 h.trans ⟨(Below.refl B w).alloc hB o,fun b _ _ _ e _=>(Below.heap_alloc w o b (lt_some e)).trans e⟩
theorem Fr.drew {B:Nat} {T:TypeId} {a w:World} (h:Fr B T a w):Fr B T a w.drew:=⟨h.bl.drew,h.keep⟩
theorem Cf.drew {B:Nat} {T:TypeId} {a w:World} (h:Cf B T a w):Cf B T a w.drew:=⟨h.bl.drew,h.keep⟩
theorem Fr.set {B:Nat} {T:TypeId} {a w:World} (h:Fr B T a w) {b i:Nat} {cs:Array Value} {t:TypeId} {f:Nat×Nat} (hb:w.heap[b]?=some (.cells cs t f)) (ht:heapT T t) (hB:B≤b) (v:Value):Fr B T a (w.setCell ⟨b,i,none⟩ v):=by
 refine h.trans ⟨(Below.refl B w).setCell hB v,fun x cs' t' f' e n=>?_⟩
 by_cases hx:x=b
 ·subst hx;rw [hb] at e;simp at e;exact absurd (e.2.1▸ht) n
 ·rw [block_far hx];exact e
theorem Cf.set {B:Nat} {T:TypeId} {a w:World} (h:Cf B T a w) {b i:Nat} {cs:Array Value} {t:TypeId} {f:Nat×Nat} (hb:w.heap[b]?=some (.cells cs t f)) (ht:¬heapT T t) (hB:B≤b) (v:Value):Cf B T a (w.setCell ⟨b,i,none⟩ v):=by
 refine h.trans ⟨(Below.refl B w).setCell hB v,fun x cs' t' f' e n=>?_⟩
 by_cases hx:x=b
 ·subst hx;rw [hb] at e;simp at e;exact absurd (e.2.1▸n) ht
 ·rw [block_far hx];exact e
theorem Cf.row {B:Nat} {T:TypeId} {w w':World} (h:Cf B T w w') {e:TypeId} (he:heapT T e) {base size n:Nat} {v:Value} {xs:List Value} (ho:w.ownsRow base e size v n xs):w'.ownsRow base e size v n xs:=by
 refine ⟨ho.1,?_⟩
 rcases ho.2 with h0|⟨g,cap,cur,h1,h2,h3,h4⟩
 ·exact Or.inl h0
 ·exact Or.inr ⟨g,cap,cur,h1,h2,h.keep _ _ _ _ h3 he,h4⟩
theorem ObsAt.cf {B:Nat} {T:TypeId} {w w':World} (h:Cf B T w w') {vo:Value} {l:List Ob} {hv:List Value} (ho:ObsAt B w vo l hv):ObsAt B w' vo l hv :=
 ⟨ho.len,h.row (.inr (.inl rfl)) ho.row,fun i hi=>h.row (.inr (.inr (.inl rfl))) (ho.held i hi),ho.apart⟩
theorem HpAt.cf {w0 w w':World} {g:Ad} {p:Nat} {h:Hp} {vo vx:Value} {hv:List Value} (H:HpAt w0 g w p h vo vx hv) (k:Cf w0.heap.size g.T w w'):HpAt w0 g w' p h vo vx hv :=
 ⟨H.own,k.keep _ _ _ _ H.blk (.inl rfl),Below.trans H.bl k.bl,k.row (.inr (.inr (.inr rfl))) H.out,H.obs.cf k⟩
theorem HpAt.base {w0 w:World} {g:Ad} {p:Nat} {h:Hp} {vo vx:Value} {hv:List Value} (H:HpAt w0 g w p h vo vx hv):w0.heap.size≤w.heap.size:=H.bl.size
structure HpCells (g:Ad) (w:World) (p:Nat) (h:Hp) (vo vx:Value):Prop where
 c0:w.cell? ⟨p,0,none⟩=some (.slice g.A h.file.classes.length g.a)
 c1:w.cell? ⟨p,1,none⟩=some (.slice g.M h.file.methods.length g.m)
 c2:w.cell? ⟨p,2,none⟩=some vo
 c3:w.cell? ⟨p,3,none⟩=some (.slice g.I h.input.length g.i)
 c4:w.cell? ⟨p,4,none⟩=some (.int .i64 h.calls)
 c5:w.cell? ⟨p,5,none⟩=some (.int .i64 h.fuel)
 c6:w.cell? ⟨p,6,none⟩=some (.int .i64 h.sh.fin)
 c7:w.cell? ⟨p,7,none⟩=some (.int .i64 h.sh.value)
 c8:w.cell? ⟨p,8,none⟩=some (.int .i64 h.sh.cls)
 c9:w.cell? ⟨p,9,none⟩=some vx
 c10:w.cell? ⟨p,10,none⟩=some (.int .i64 h.sh.used)
 c11:w.cell? ⟨p,11,none⟩=some (.int .i64 h.sh.steps)
 c12:w.cell? ⟨p,12,none⟩=some (.bool h.over)
 c13:w.cell? ⟨p,13,none⟩=some (.int .i64 h.thrown)
theorem HpAt.cells {w0 w:World} {g:Ad} {p:Nat} {h:Hp} {vo vx:Value} {hv:List Value} (H:HpAt w0 g w p h vo vx hv):HpCells g w p h vo vx:=by
 constructor<;>(rw [cell_blk H.blk];rfl)
theorem HpAt.free {w0 w:World} {g:Ad} {p:Nat} {h:Hp} {vo vx:Value} {hv:List Value} (H:HpAt w0 g w p h vo vx hv) (i:Nat):w.frozen? ⟨p,i,none⟩=false:=free_blk H.blk i
theorem HpAt.set {w0 w:World} {g:Ad} {p:Nat} {h:Hp} {vo vx:Value} {hv:List Value} (H:HpAt w0 g w p h vo vx hv) (k:Tk g.T) {i:Nat} {v:Value} (h':Hp)
  (hrow:(hpRow g h vo vx).setIfInBounds i v=hpRow g h' vo vx) (ho:h'.objs=h.objs) (hx:h'.sh.out=h.sh.out):HpAt w0 g (w.setCell ⟨p,i,none⟩ v) p h' vo vx hv:=by
 refine ⟨H.own,?_,Below.setCell H.bl H.own v,?_,?_⟩
 ·rw [block_set H.blk,hrow]
 ·rw [hx];exact row_far H.out H.blk k.i v
 ·rw [ho];exact ⟨H.obs.len,row_far H.obs.row H.blk k.o v,fun i hi=>row_far (H.obs.held i hi) H.blk k.h v,H.obs.apart⟩
theorem HpAt.frSet {w0 w:World} {g:Ad} {p:Nat} {h:Hp} {vo vx:Value} {hv:List Value} (H:HpAt w0 g w p h vo vx hv) (i:Nat) (v:Value):Fr w0.heap.size g.T w (w.setCell ⟨p,i,none⟩ v) :=
 (Fr.refl _ _ w).set H.blk (.inl rfl) H.own v
theorem Fr.drewN {B:Nat} {T:TypeId} {a w:World} (h:Fr B T a w) (n:Nat):Fr B T a (w.drewN n):=⟨⟨h.bl.os,h.bl.tape,h.bl.output,h.bl.size,h.bl.block⟩,h.keep⟩
theorem Cf.drewN {B:Nat} {T:TypeId} {a w:World} (h:Cf B T a w) (n:Nat):Cf B T a (w.drewN n):=⟨⟨h.bl.os,h.bl.tape,h.bl.output,h.bl.size,h.bl.block⟩,h.keep⟩
theorem HpAt.drewN {w0 w:World} {g:Ad} {p:Nat} {h:Hp} {vo vx:Value} {hv:List Value} (H:HpAt w0 g w p h vo vx hv) (n:Nat):HpAt w0 g (w.drewN n) p h vo vx hv:=H.cf ((Cf.refl _ _ w).drewN n)
theorem Hs.cf {w0 w w':World} {g:Ad} {p:Nat} {h:Hp} (H:Hs w0 g w p h) (k:Cf w0.heap.size g.T w w'):Hs w0 g w' p h:=by
 obtain ⟨vo,vx,hv,H⟩:=H
 exact ⟨vo,vx,hv,H.cf k⟩
theorem Hs.drewN {w0 w:World} {g:Ad} {p:Nat} {h:Hp} (H:Hs w0 g w p h) (n:Nat):Hs w0 g (w.drewN n) p h:=H.cf ((Cf.refl _ _ w).drewN n)
theorem Hs.base {w0 w:World} {g:Ad} {p:Nat} {h:Hp} (H:Hs w0 g w p h):w0.heap.size≤w.heap.size:=by
 obtain ⟨vo,vx,hv,H⟩:=H
 exact H.base
theorem Fr.new {B:Nat} {T:TypeId} {a w:World} (h:Fr B T a w) {b i:Nat} (hb:a.heap.size≤b) (hB:B≤b) (v:Value):Fr B T a (w.setCell ⟨b,i,none⟩ v):=by
 refine ⟨h.bl.setCell hB v,fun x cs t f e n=>?_⟩
 have:=lt_some e
 rw [block_far (by omega)]
 exact h.keep x cs t f e n
structure VaBox (w:World) (b:Nat) (v:Va):Prop where
 blk:w.heap[b]?=some (.cells #[.int .i64 v.kind,.int .i64 v.n] 82 (0,0))
theorem VaBox.c0 {w:World} {b:Nat} {v:Va} (h:VaBox w b v):w.cell? ⟨b,0,none⟩=some (.int .i64 v.kind):=by rw [cell_blk h.blk];rfl
theorem VaBox.c1 {w:World} {b:Nat} {v:Va} (h:VaBox w b v):w.cell? ⟨b,1,none⟩=some (.int .i64 v.n):=by rw [cell_blk h.blk];rfl
theorem VaBox.fr {w:World} {b:Nat} {v:Va} (h:VaBox w b v) (i:Nat):w.frozen? ⟨b,i,none⟩=false:=free_blk h.blk i
theorem VaBox.keep {B:Nat} {T:TypeId} {w w':World} {b:Nat} {v:Va} (h:VaBox w b v) (k:Tk T) (f:Fr B T w w'):VaBox w' b v:=⟨f.keep _ _ _ _ h.blk k.nv⟩
theorem VaBox.new (w:World) (v:Va):VaBox (w.alloc (.cells #[.int .i64 v.kind,.int .i64 v.n] 82)) w.heap.size v:=⟨blk_new _ _ _⟩
theorem VaBox.drewN {w:World} {b:Nat} {v:Va} (h:VaBox w b v) (n:Nat):VaBox (w.drewN n) b v:=⟨h.blk⟩
theorem VaBox.set {w:World} {b:Nat} {v:Va} (h:VaBox w b v) (u:Va):VaBox ((w.setCell ⟨b,0,none⟩ (.int .i64 u.kind)).setCell ⟨b,1,none⟩ (.int .i64 u.n)) b u :=
 ⟨by rw [block_set (block_set h.blk _)];rfl⟩
theorem VaBox.cf {B:Nat} {T:TypeId} {w:World} {b:Nat} {v:Va} (h:VaBox w b v) (k:Tk T) (hB:B≤b) (x y:Value):Cf B T w ((w.setCell ⟨b,0,none⟩ x).setCell ⟨b,1,none⟩ y) :=
 ((Cf.refl B T w).set h.blk k.nv hB x).set (block_set h.blk x) k.nv hB y
theorem end_any (w0:World) (g:Ad) (k:Tk g.T) (p:Nat) (h:Hp) (how:Int) (w:World) (hH:Hs w0 g w p h) :
  Calls Tryz.prog 158 #[.pointer (some ⟨p,0,none⟩),.int .i64 how] w fun e w'=>e=.returned (.tuple #[])∧Hs w0 g w' p (h.fin how)∧Fr w0.heap.size g.T w w':=by
 obtain ⟨vo,vx,hv,H⟩:=hH
 have HH:Hid (HpAt w0 g w p h vo vx hv):=H
 have c12:=H.cells.c12
 have c6:=H.cells.c6
 have f12:=H.free 12
 have f6:=H.free 6
 clear H
 cases ho:h.over
 ·rw [ho] at c12
  have hf:h.fin how={ { h with over:=true } with sh:={ h.sh with fin:=how } }:=by unfold Hp.fin;rw [if_neg (by rw [ho];decide)]
  rw [hf]
  have H1:Hid (HpAt w0 g (w.setCell ⟨p,12,none⟩ (.bool true)) p { h with over:=true } vo vx hv):=HH.out.set k _ rfl rfl rfl
  have H2:Hid (HpAt w0 g ((w.setCell ⟨p,12,none⟩ (.bool true)).setCell ⟨p,6,none⟩ (.int .i64 how)) p { { h with over:=true } with sh:={ h.sh with fin:=how } } vo vx hv):=H1.out.set k _ rfl rfl rfl
  clear hf
  go_enter Tryz.func158,Tryz.ntmps158
  go_wp2
  go_end0
  exact ⟨rfl,⟨vo,vx,hv,H2.out⟩,(HH.out.frSet 12 _).trans (H1.out.frSet 6 _)⟩
 ·rw [ho] at c12
  have hf:h.fin how=h:=by unfold Hp.fin;rw [if_pos ho]
  rw [hf]
  clear hf
  go_enter Tryz.func158,Tryz.ntmps158
  go_wp2
  go_end0
  exact ⟨rfl,⟨vo,vx,hv,HH.out⟩,Fr.refl _ _ _⟩
theorem stops_any (w0:World) (g:Ad) (p:Nat) (h:Hp) (w:World) (hH:Hs w0 g w p h) :
  Calls Tryz.prog 161 #[.pointer (some ⟨p,0,none⟩)] w fun e w'=>e=.returned (.bool h.stops)∧w'=w:=by
 obtain ⟨vo,vx,hv,H⟩:=hH
 have c12:=H.cells.c12
 have c13:=H.cells.c13
 clear H
 cases ho:h.over
 ·rw [ho] at c12
  have hs:h.stops=decide (0≤h.thrown):=by unfold Hp.stops;rw [ho];rfl
  rw [hs]
  go_enter Tryz.func161,Tryz.ntmps161
  go_wp2
  all_goals
   go_ret
   exact ⟨ret_bool (by simp [*]),rfl⟩
 ·rw [ho] at c12
  have hs:h.stops=true:=by unfold Hp.stops;rw [ho];rfl
  rw [hs]
  go_enter Tryz.func161,Tryz.ntmps161
  go_wp2
  go_ret
  exact ⟨rfl,rfl⟩
theorem must_any (w0:World) (g:Ad) (k:Tk g.T) (p:Nat) (h:Hp) (b:Bool) (w:World) (hH:Hs w0 g w p h) :
  Calls Tryz.prog 85 #[.pointer (some ⟨p,0,none⟩),.bool b] w fun e w'=>e=.returned (.bool (h.mustB b))∧Hs w0 g w' p (h.must b)∧Fr w0.heap.size g.T w w':=by
 have HH:Hid (Hs w0 g w p h):=hH
 obtain ⟨vo,vx,hv,H⟩:=hH
 have c12:=H.cells.c12
 clear H
 cases b
 ·go_enter Tryz.func85,Tryz.ntmps85
  go_wp2_with (go_at_call 158;refine (end_any w0 g k p h 6 _ HH.out).mono ?_;rintro e w1 ⟨rfl,h1,f1⟩)
  go_ret
  exact ⟨rfl,h1,f1⟩
 ·go_enter Tryz.func85,Tryz.ntmps85
  go_wp2
  go_ret
  exact ⟨rfl,HH.out,Fr.refl _ _ _⟩
theorem step_any (w0:World) (g:Ad) (k:Tk g.T) (p:Nat) (h:Hp) (w:World) (hH:Hs w0 g w p h) (hs:0≤h.sh.steps∧h.sh.steps≤60000) :
  Calls Tryz.prog 84 #[.pointer (some ⟨p,0,none⟩)] w fun e w'=>e=.returned (.bool h.stepB)∧Hs w0 g w' p h.step∧Fr w0.heap.size g.T w w':=by
 have HH:Hid (Hs w0 g w p h):=hH
 obtain ⟨vo,vx,hv,H⟩:=hH
 have HA:Hid (HpAt w0 g w p h vo vx hv):=H
 have c12:=H.cells.c12
 have c11:=H.cells.c11
 have c5:=H.cells.c5
 have f11:=H.free 11
 clear H
 cases ho:h.over
 ·rw [ho] at c12
  by_cases hf:h.fuel≤h.sh.steps
  ·have e1:h.stepB=false:=by unfold Hp.stepB;rw [decide_eq_false (by omega),Bool.and_false]
   have e2:h.step=h.fin 0:=by unfold Hp.step;rw [if_neg (by rw [ho];decide),if_pos hf]
   rw [e1,e2]
   clear e1 e2
   have d1:decide (h.fuel≤h.sh.steps)=true:=decide_eq_true hf
   go_enter Tryz.func84,Tryz.ntmps84
   go_wp2
   go_quiet (fail)
   go_wp2_with (go_at_call 158;refine (end_any w0 g k p h 0 _ (HH.out.drewN _)).mono ?_;rintro e w1 ⟨rfl,h1,f1⟩)
   go_ret
   exact ⟨rfl,h1,((Fr.refl _ _ w).drewN _).trans f1⟩
  ·have e1:h.stepB=true:=by unfold Hp.stepB;rw [decide_eq_true (by omega),ho];rfl
   have e2:h.step={ h with sh:={ h.sh with steps:=h.sh.steps+1 } }:=by unfold Hp.step;rw [if_neg (by rw [ho];decide),if_neg hf]
   rw [e1,e2]
   clear e1 e2
   have d1:decide (h.fuel≤h.sh.steps)=false:=decide_eq_false hf
   go_enter Tryz.func84,Tryz.ntmps84
   go_wp2
   go_quiet (fail)
   go_wp2
   go_ret
   exact ⟨rfl,⟨vo,vx,hv,(HA.out.drewN _).set k _ rfl rfl rfl⟩,((Fr.refl _ _ w).drewN _).trans ((HA.out.drewN _).frSet 11 _)⟩
 ·rw [ho] at c12
  have e1:h.stepB=false:=by unfold Hp.stepB;rw [ho];rfl
  have e2:h.step=h:=by unfold Hp.step;rw [if_pos ho]
  rw [e1,e2]
  clear e1 e2
  go_enter Tryz.func84,Tryz.ntmps84
  go_wp2
  go_ret
  exact ⟨rfl,HH.out,Fr.refl _ _ _⟩
theorem info_va:(Tryz.prog.info? 82).map (·.size)=some 2:=by kernel_rfl
theorem in_any (w0:World) (g:Ad) (k:Tk g.T) (p:Nat) (h:Hp) (w:World) (hH:Hs w0 g w p h) (hI:IntsAt w0 g.I h.input) (hu:0≤h.sh.used) :
  Calls Tryz.prog 233 #[.pointer (some ⟨p,0,none⟩)] w fun e w'=>e=.returned (vaV h.inV)∧Hs w0 g w' p h.input'∧Fr w0.heap.size g.T w w':=by
 have hal:Cf w0.heap.size g.T w (w.alloc (.cells #[.int .i64 0,.int .i64 0] 82)):=(Cf.refl _ _ w).alloc hH.base _
 have HF:Hid (Fr w0.heap.size g.T w (w.alloc (.cells #[.int .i64 0,.int .i64 0] 82))):=(Fr.refl _ _ w).alloc hH.base _
 have hm:=hI.1
 have hbs:=hH.base
 unfold maxLen at hm
 obtain ⟨vo,vx,hv,H⟩:=hH
 have HA:Hid (HpAt w0 g (w.alloc (.cells #[.int .i64 0,.int .i64 0] 82)) p h vo vx hv):=H.cf hal
 have c3:=HA.out.cells.c3
 have c10:=HA.out.cells.c10
 have f10:=HA.out.free 10
 have hlt:p<w.heap.size:=lt_some H.blk
 have HI:Hid (IntsAt (w.alloc (.cells #[.int .i64 0,.int .i64 0] 82)) g.I h.input):=hI.bl HA.out.bl
 have HR:Hid (VaBox (w.alloc (.cells #[.int .i64 0,.int .i64 0] 82)) w.heap.size va0):=VaBox.new w va0
 clear H hal hI
 by_cases hd:(h.input.length:Int)≤h.sh.used
 ·have e0:h.dry=true:=decide_eq_true hd
  have e1:h.inV=va0:=by unfold Hp.inV;rw [if_pos e0]
  have e2:h.input'=h.fin 3:=by unfold Hp.input';rw [if_pos e0]
  rw [e1,e2]
  clear e0 e1 e2
  have d1:decide ((h.input.length:Int)≤h.sh.used)=true:=decide_eq_true hd
  go_enter Tryz.func233,Tryz.ntmps233
  go_wp2
  go_quiet (fail)
  go_wp2_with (go_at_call 158;refine (end_any w0 g k p h 3 _ ⟨vo,vx,hv,HA.out.drewN _⟩).mono ?_;rintro e w1 ⟨rfl,h1,f1⟩;have b1:=(HR.out.drewN _).keep k f1;have r0:=b1.c0;have r1:=b1.c1;have r2:=b1.fr 0;have r3:=b1.fr 1;have HB1:Hid (VaBox w1 w.heap.size va0):=b1;clear b1)
  (try simp only [Exit.inBlock,Exit.then])
  refine bodyPost_ret (results_cell_row rfl _ _ w.heap.size _ _ _ _ rfl (HB1.out.set va0).blk Tryz.underlying82 rfl info_va) rfl ?_
  exact ⟨rfl,h1.cf (HB1.out.cf k hbs _ _),(((HF.out.drewN _).trans f1).new (Nat.le_refl _) hbs _).new (Nat.le_refl _) hbs _⟩
 ·have e0:h.dry=false:=decide_eq_false hd
  obtain ⟨q,hq⟩:∃q:Nat,h.sh.used=q:=⟨h.sh.used.toNat,by omega⟩
  have hql:q<h.input.length:=by omega
  rcases HI.out.2 with h0|⟨b,off,hA,hc⟩
  ·omega
  have hcell:=(hc q hql).1
  have e1:h.inV=⟨2,nth (0:Int) h.input q⟩:=by unfold Hp.inV;rw [if_neg (by rw [e0];decide),hq];rfl
  have e2:h.input'={ h with sh:={ h.sh with used:=(q:Int)+1 } }:=by unfold Hp.input';rw [if_neg (by rw [e0];decide),hq]
  rw [e1,e2]
  clear e0 e1 e2 hc
  rw [hA] at c3
  rw [hq] at c10
  have d1:decide ((h.input.length:Int)≤(q:Int))=false:=decide_eq_false (by omega)
  have hq0:(0:Int)≤(q:Int):=by omega
  have hq1:(q:Int)<(h.input.length:Int):=by omega
  clear hq hd hu hA
  have H2:Hid (∀n,HpAt w0 g (((w.alloc (.cells #[.int .i64 0,.int .i64 0] 82)).drewN n).setCell ⟨p,10,none⟩ (.int .i64 ((q:Int)+1))) p { h with sh:={ h.sh with used:=(q:Int)+1 } } vo vx hv):=fun n=>(HA.out.drewN n).set k _ rfl rfl rfl
  have R2:Hid (∀n,VaBox (((w.alloc (.cells #[.int .i64 0,.int .i64 0] 82)).drewN n).setCell ⟨p,10,none⟩ (.int .i64 ((q:Int)+1))) w.heap.size va0):=fun n=>(HR.out.drewN n).keep k ((HA.out.drewN n).frSet 10 _)
  have F2:Hid (∀n,Fr w0.heap.size g.T w (((w.alloc (.cells #[.int .i64 0,.int .i64 0] 82)).drewN n).setCell ⟨p,10,none⟩ (.int .i64 ((q:Int)+1)))):=fun n=>(HF.out.drewN n).trans ((HA.out.drewN n).frSet 10 _)
  go_enter Tryz.func233,Tryz.ntmps233
  go_wp2
  go_quiet (fail)
  go_wp2
  go_quiet (fail)
  go_wp2
  (try simp only [Exit.inBlock,Exit.then])
  refine bodyPost_ret (results_cell_row rfl _ _ w.heap.size _ _ _ _ rfl ((R2.out _).set ⟨2,nth (0:Int) h.input q⟩).blk Tryz.underlying82 rfl info_va) rfl ?_
  exact ⟨rfl,⟨vo,vx,hv,(H2.out _).cf ((R2.out _).cf k hbs _ _)⟩,((F2.out _).new (Nat.le_refl _) hbs _).new (Nat.le_refl _) hbs _⟩
theorem ob_cells:∀(l:List Ob) (hv:List Value) (i:Nat),hv.length=l.length→i<l.length→(obCells l hv)[i*2]?=some (.int .i64 (nth ob0 l i).cls)∧(obCells l hv)[i*2+1]?=some (nth hv0 hv i)
 | [],_,i,_,h=>by simp at h
 | o::l,[],i,h,_=>by simp at h
 | o::l,v::hv,0,_,_=>by simp [obCells,nth]
 | o::l,v::hv,i+1,h,hi=>by
  have:=ob_cells l hv i (by simpa using h) (by simpa using hi)
  have e:(i+1)*2=i*2+1+1:=by omega
  rw [e]
  simpa [obCells,nth] using this
theorem row_cell {w:World} {base:Nat} {e:TypeId} {size n:Nat} {v:Value} {xs:List Value} (ho:w.ownsRow base e size v n xs) (hn:0<n) :
  ∃gb cap,v=.slice (some ⟨gb,0,none⟩) n cap∧base≤gb∧n≤maxLen∧∀j,j<n*size→w.cell? ⟨gb,j,none⟩=xs[j]?:=by
 rcases ho.2 with ⟨-,h0⟩|⟨gb,cap,cur,rfl,h2,h3,h4,h5,h6,h7⟩
 ·omega
 ·refine ⟨gb,cap,rfl,h2,by omega,fun j hj=>?_⟩
  rw [cell_blk h3,←h7,List.getElem?_take,if_pos hj]
  simp
theorem obs_cell {B:Nat} {w:World} {vo:Value} {l:List Ob} {hv:List Value} (h:ObsAt B w vo l hv) (hn:0<l.length) :
  ∃gb cap,vo=.slice (some ⟨gb,0,none⟩) l.length cap∧B≤gb∧l.length≤maxLen∧∀i,i<l.length→w.cell? ⟨gb,i*2,none⟩=some (.int .i64 (nth ob0 l i).cls)∧w.cell? ⟨gb,i*2+1,none⟩=some (nth hv0 hv i):=by
 obtain ⟨gb,cap,e,hb,hm,hc⟩:=row_cell h.row hn
 refine ⟨gb,cap,e,hb,hm,fun i hi=>?_⟩
 have:=ob_cells l hv i h.len hi
 exact ⟨(hc _ (by omega)).trans this.1,(hc _ (by omega)).trans this.2⟩
abbrev vaO (v:Va):Obj:=.cells #[.int .i64 v.kind,.int .i64 v.n] 82
abbrev tyO (t:Ty):Obj:=.cells #[.int .i64 t.kind,.int .i64 t.cls] 46
abbrev tyV (t:Ty):Value:=.agg #[.int .i64 t.kind,.int .i64 t.cls]
theorem of_any (w0:World) (g:Ad) (p:Nat) (h:Hp) (v:Va) (t:Ty) (w:World) (hH:Hs w0 g w p h) (hA:ClsAt w0 g.A h.file.classes) (ht:Tree h.file.classes) (hv3:v.kind=3→v.n<h.objs.length) :
  Calls Tryz.prog 87 #[.pointer (some ⟨p,0,none⟩),vaV v,tyV t] w fun e w'=>e=.returned (.bool (h.of v t))∧Hs w0 g w' p h∧Fr w0.heap.size g.T w w'∧Bl w w':=by
 have hbs:=hH.base
 have hal:Cf w0.heap.size g.T w ((w.alloc (vaO v)).alloc (tyO t)):=((Cf.refl _ _ w).alloc hbs _).alloc (by simp;omega) _
 have HF:Hid (Fr w0.heap.size g.T w ((w.alloc (vaO v)).alloc (tyO t))):=((Fr.refl _ _ w).alloc hbs _).alloc (by simp;omega) _
 have HBL:Hid (Bl w ((w.alloc (vaO v)).alloc (tyO t))):=((Bl.refl _).alloc _).alloc _
 obtain ⟨vo,vx,hv,H⟩:=hH
 have HA:Hid (HpAt w0 g ((w.alloc (vaO v)).alloc (tyO t)) p h vo vx hv):=H.cf hal
 have HT:Hid (Tree h.file.classes):=ht
 have HC:Hid (ClsAt ((w.alloc (vaO v)).alloc (tyO t)) g.A h.file.classes):=hA.bl HA.out.bl
 have c0:=HA.out.cells.c0
 have c2:=HA.out.cells.c2
 clear H hal hA ht
 by_cases e1:v.kind=t.kind
 ·by_cases e3:t.kind=3
  ·by_cases en:v.n<0
   ·have hr:h.of v t=true:=by unfold Hp.of;rw [decide_eq_true e1,decide_eq_true en];simp
    rw [hr]
    obtain ⟨vk,vn⟩:=v
    obtain ⟨tk,tc⟩:=t
    dsimp only at e1 e3 en
    subst e3
    subst e1
    have d1:decide (vn<0)=true:=decide_eq_true en
    go_enter Tryz.func87,Tryz.ntmps87
    go_wp2
    go_quiet (fail)
    go_wp2
    go_ret
    exact ⟨rfl,⟨vo,vx,hv,HA.out.drewN _⟩,HF.out.drewN _,bl_drewN HBL.out _⟩
   ·obtain ⟨vk,vn⟩:=v
    obtain ⟨tk,tc⟩:=t
    dsimp only at e1 e3 en hv3
    subst e3
    subst e1
    obtain ⟨q,rfl⟩:∃q:Nat,vn=q:=⟨vn.toNat,by omega⟩
    have hq:=hv3 rfl
    have hql:q<h.objs.length:=by omega
    obtain ⟨gb,cap,hvo,-,hom,hc⟩:=obs_cell HA.out.obs (by omega)
    have ho:=(hc q hql).1
    rw [hvo] at c2
    unfold maxLen at hom
    have hr:h.of ⟨3,q⟩ ⟨3,tc⟩=(clsI h.file.classes (nth ob0 h.objs q).cls tc&&belN h.file.classes (nth ob0 h.objs q).cls.toNat tc.toNat):=by
     unfold Hp.of Hp.obj belI;rw [decide_eq_false en];simp
    rw [hr]
    obtain ⟨R,hR⟩:∃R,(clsI h.file.classes (nth ob0 h.objs q).cls tc&&belN h.file.classes (nth ob0 h.objs q).cls.toNat tc.toNat)=R:=⟨_,rfl⟩
    rw [hR]
    have d1:decide ((q:Int)<0)=false:=decide_eq_false en
    have hq0:(0:Int)≤(q:Int):=by omega
    have hq1:(q:Int)<(h.objs.length:Int):=by omega
    clear hr hc hv3 hvo en
    generalize hX:(nth ob0 h.objs q).cls=X at *
    clear hX
    go_enter Tryz.func87,Tryz.ntmps87
    go_wp2
    go_quiet ((go_at_call 160;exact Calls.quiet_of_same ((rbelow_any _ _ _ _ _ _ (HC.out.bl (bl_drewN (Bl.refl _) _)) HT.out).mono fun e w' hh=>⟨hh.1.trans (ret_bool hR),hh.2⟩)))
    go_wp2
    go_ret
    exact ⟨rfl,⟨vo,vx,hv,HA.out.drewN _⟩,HF.out.drewN _,bl_drewN HBL.out _⟩
  ·have hr:h.of v t=true:=by unfold Hp.of;rw [decide_eq_true e1,decide_eq_true e3];simp
   rw [hr]
   obtain ⟨vk,vn⟩:=v
   obtain ⟨tk,tc⟩:=t
   dsimp only at e1 e3
   subst e1
   have d1:(vk !=3)=true:=by simpa using e3
   clear e3
   go_enter Tryz.func87,Tryz.ntmps87
   go_wp2
   go_quiet (fail)
   go_wp2
   go_ret
   exact ⟨rfl,⟨vo,vx,hv,HA.out.drewN _⟩,HF.out.drewN _,bl_drewN HBL.out _⟩
 ·have hr:h.of v t=false:=by unfold Hp.of;rw [decide_eq_false e1];rfl
  rw [hr]
  have d1:(v.kind !=t.kind)=true:=by simpa using e1
  clear e1
  go_enter Tryz.func87,Tryz.ntmps87
  go_wp2
  go_ret
  exact ⟨rfl,⟨vo,vx,hv,HA.out⟩,HF.out,HBL.out⟩
theorem info_i64:(Tryz.prog.info? 2).map (fun i=>(i.zero,i.size,i.bytes))=some (some (.int .i64 0),1,8):=by kernel_rfl
theorem HpAt.outs {w0 w w2:World} {g:Ad} {p:Nat} {h:Hp} {vo vx:Value} {hv:List Value} (H:HpAt w0 g w p h vo vx hv) (k:Tk g.T) (hg:w.grownBy w2 vx.ownBlock) {n:Int} {v':Value}
  (ho:w2.ownsRow w0.heap.size 2 1 v' (h.sh.out.length+1) (h.sh.out.map (Value.int .i64)++[.int .i64 n])) :
  HpAt w0 g (w2.setCell ⟨p,9,none⟩ v') p { h with sh:={ h.sh with out:=h.sh.out++[n] } } vo v' hv∧Fr w0.heap.size g.T w (w2.setCell ⟨p,9,none⟩ v'):=by
 have hp:w2.heap[p]?=some (.cells (hpRow g h vo vx) g.T (0,0)):=grown_keep hg H.out H.blk k.i
 have hbl:=grown_base hg H.out H.base
 refine ⟨⟨H.own,by rw [block_set hp];rfl,Below.setCell (Below.trans H.bl hbl) H.own _,?_,?_⟩,?_⟩
 ·have:=row_far (i:=9) ho hp k.i v'
  simpa using this
 ·exact ⟨H.obs.len,row_far (grown_row hg H.out H.obs.row (by decide)) hp k.o _,fun i hi=>row_far (grown_row hg H.out (H.obs.held i hi) (by decide)) hp k.h _,H.obs.apart⟩
 ·refine Fr.set ⟨hbl,fun b cs t f e n=>grown_keep hg H.out e fun ht=>n (ht▸.inr (.inr (.inr rfl)))⟩ hp (.inl rfl) H.own _
theorem emit_any (w0:World) (g:Ad) (k:Tk g.T) (p:Nat) (h:Hp) (v:Va) (kd:Int) (w:World) (hH:Hs w0 g w p h) (ho:h.sh.out.length≤60000) :
  Calls Tryz.prog 166 #[.pointer (some ⟨p,0,none⟩),vaV v,.int .i64 kd] w fun e w'=>e=.returned (.tuple #[])∧Hs w0 g w' p (h.emit v kd)∧Fr w0.heap.size g.T w w':=by
 obtain ⟨i0,hi0,hz0,hz1,hz2⟩:=info_parts info_i64
 have hbs:=hH.base
 have HF:Hid (Fr w0.heap.size g.T w (w.alloc (vaO v))):=(Fr.refl _ _ w).alloc hbs _
 have HH:Hid (Hs w0 g (w.alloc (vaO v)) p h):=hH.cf ((Cf.refl _ _ w).alloc hbs _)
 have HV:Hid (VaBox (w.alloc (vaO v)) w.heap.size v):=VaBox.new w v
 clear hH
 cases hm:h.mustB (decide (v.kind=kd))
 ·have hr:h.emit v kd=h.must (decide (v.kind=kd)):=by unfold Hp.emit;rw [if_neg (by rw [hm];decide)]
  rw [hr]
  clear hr
  have hq:(v.kind==kd)=decide (v.kind=kd):=by rw [Bool.eq_iff_iff];simp
  go_enter Tryz.func166,Tryz.ntmps166
  go_wp2_with (go_at_call 85;refine (must_any w0 g k p h _ _ HH.out).mono ?_;rintro e w1 ⟨he,h1,f1⟩;rw [hm] at he;subst he)
  go_end0
  exact ⟨rfl,h1,HF.out.trans f1⟩
 ·have hd:decide (v.kind=kd)=true:=by unfold Hp.mustB at hm;simp at hm;simpa using hm.1
  have hk:v.kind=kd:=of_decide_eq_true hd
  have hov:h.over=false:=by unfold Hp.mustB at hm;simp at hm;exact hm.2
  have hr:h.emit v kd={ h with sh:={ h.sh with out:=h.sh.out++[v.n] } }:=by unfold Hp.emit;rw [if_pos hm]
  rw [hr]
  have hmu:h.must true=h:=rfl
  have hmb:h.mustB true=true:=by unfold Hp.mustB;rw [hov];rfl
  subst hk
  clear hr hd hm hov
  go_enter Tryz.func166,Tryz.ntmps166
  go_wp2_with (go_at_call 85;refine (must_any w0 g k p h true _ HH.out).mono ?_;rintro e w1 ⟨he,h1,f1⟩;rw [hmb] at he;subst he;have b1:=HV.out.keep k f1;have HB:Hid (VaBox w1 w.heap.size v):=b1;have r1:=b1.c1;have hlt1:=lt_some b1.blk;clear b1;obtain ⟨vo,vx,hv,H⟩:=h1;have HA:Hid (HpAt w0 g w1 p h vo vx hv):=H;have c9:=H.cells.c9;have f9:=H.free 9;have hp1:=lt_some H.blk;have hb1:=H.base;clear H)
  have HO:Hid (w1.ownsRow w0.heap.size 2 1 vx h.sh.out.length (h.sh.out.map (Value.int .i64))):=HA.out.out
  go_region_law ((refine step_append_lies _ (by rfl) _ _ _ (by rfl) w0.heap.size 2 i0 _ 1 8 Tryz.underlying26 hi0 hz0 hz1 hz2 rfl (by omega) vx h.sh.out.length (h.sh.out.map (Value.int .i64)) (by rfl) ((HO.out.alloc _).drew) ⟨w1.heap.size,0,none⟩ 1 1 [.int .i64 v.n] (by rfl) (by rfl) (World.news_of_block (cs:=#[.int .i64 v.n]) (t:=2) (fr:=(0,0)) (heap_alloc_new w1 _)) (by simp [Value.oneCell']) (by omega) (by unfold maxLen;omega) (by omega) (by simp;omega) (w1.heap.size+1) (by simp) ?_;intro gg cap w2 hown1 hgrow hat hlt;have hp2:=grown_keep hgrow ((HO.out.alloc _).drew) (HA.out.cf (((Cf.refl _ _ w1).alloc hb1 _).drew)).blk k.i;have q9:w2.cell? ⟨p,9,none⟩=some vx:=(cell_blk hp2).trans rfl;have z9:=free_blk hp2 9;have hb2:=grown_keep hgrow ((HO.out.alloc _).drew) (HB.out.keep k (((Fr.refl w0.heap.size _ w1).alloc hb1 _).drew)).blk (by decide);have q1:w2.cell? ⟨w.heap.size,1,none⟩=some (.int .i64 v.n):=(cell_blk hb2).trans rfl;clear hp2 hb2))
  all_goals go_wp2
  all_goals
   go_end0
   have hh:=HpAt.outs (HA.out.cf (((Cf.refl _ _ w1).alloc hb1 _).drew)) k hgrow hown1
   exact ⟨rfl,⟨vo,_,hv,hh.1⟩,((HF.out.trans f1).trans (((Fr.refl _ _ w1).alloc hb1 _).drew)).trans hh.2⟩
theorem heCells_append (l k:List Hel):heCells (l++k)=heCells l++heCells k:=by
 induction l with
 | nil=>rfl
 | cons x l ih=>simp [heCells,ih]
theorem obCells_append:∀(l:List Ob) (hv:List Value) (o:Ob) (v:Value),hv.length=l.length→obCells (l++[o]) (hv++[v])=obCells l hv++[.int .i64 o.cls,v]
 | [],[],o,v,_=>rfl
 | [],_::_,_,_,h=>by simp at h
 | _::_,[],_,_,h=>by simp at h
 | a::l,b::hv,o,v,h=>by simp [obCells,obCells_append l hv o v (by simpa using h)]
def heldTo (cs:List Cl) (c q:Nat):List Hel:=(List.range q).flatMap (heldOf cs c)
def fieldsTo (cs:List Cl) (d k:Nat):List Hel:=(List.range k).map (fun j=>⟨(d:Nat),(j:Nat),initV (nth ty0 (nth cl0 cs d).fields j)⟩)
theorem heldTo_not {cs:List Cl} {c q:Nat} (h:belN cs c q=false):heldTo cs c (q+1)=heldTo cs c q:=by
 unfold heldTo;rw [List.range_succ,List.flatMap_append];simp [heldOf,h]
theorem heldTo_is {cs:List Cl} {c q:Nat} (h:belN cs c q=true):heldTo cs c (q+1)=heldTo cs c q++fieldsTo cs q (nth cl0 cs q).fields.length:=by
 unfold heldTo fieldsTo;rw [List.range_succ,List.flatMap_append];simp [heldOf,h]
theorem fieldsTo_zero (cs:List Cl) (d:Nat):fieldsTo cs d 0=[]:=rfl
theorem fieldsTo_succ (cs:List Cl) (d k:Nat):fieldsTo cs d (k+1)=fieldsTo cs d k++[⟨(d:Nat),(k:Nat),initV (nth ty0 (nth cl0 cs d).fields k)⟩]:=by
 unfold fieldsTo;rw [List.range_succ,List.map_append];rfl
theorem fieldsTo_length (cs:List Cl) (d k:Nat):(fieldsTo cs d k).length=k:=by simp [fieldsTo]
theorem heldTo_le {cs:List Cl} (hf:∀d,d<cs.length→(nth cl0 cs d).fields.length≤6) (c:Nat):∀q,q≤cs.length→(heldTo cs c q).length≤6*q
 | 0,_=>by simp [heldTo]
 | q+1,h=>by
  have h1:=heldTo_le hf c q (by omega)
  have h2:=hf q (by omega)
  cases hb:belN cs c q
  ·rw [heldTo_not hb];omega
  ·rw [heldTo_is hb,List.length_append,fieldsTo_length];omega
theorem newHeld_to (cs:List Cl) (c:Nat):newHeld cs c=heldTo cs c cs.length:=rfl
theorem row_old {w w':World} (hb:Bl w w') {base:Nat} {e:TypeId} {size n:Nat} {v:Value} {xs:List Value} (ho:w.ownsRow base e size v n xs):w'.ownsRow base e size v n xs:=by
 refine ⟨ho.1,?_⟩
 rcases ho.2 with h0|⟨gb,cap,cur,h1,h2,h3,h4⟩
 ·exact Or.inl h0
 ·exact Or.inr ⟨gb,cap,cur,h1,h2,(hb.block gb (lt_some h3)).trans h3,h4⟩
theorem HpAt.old {w0 w w':World} {g:Ad} {p:Nat} {h:Hp} {vo vx:Value} {hv:List Value} (H:HpAt w0 g w p h vo vx hv) (hb:Bl w w'):HpAt w0 g w' p h vo vx hv :=
 ⟨H.own,(hb.block p (lt_some H.blk)).trans H.blk,Bl.trans H.bl hb,row_old hb H.out,⟨H.obs.len,row_old hb H.obs.row,fun i hi=>row_old hb (H.obs.held i hi),H.obs.apart⟩⟩
theorem Fr.old {B:Nat} {T:TypeId} {w w':World} (hB:B≤w.heap.size) (hb:Bl w w'):Fr B T w w' :=
 ⟨Below.mono hb hB,fun b _ _ _ e _=>(hb.block b (lt_some e)).trans e⟩
theorem row_base {w:World} {base base':Nat} {e:TypeId} {size n:Nat} {v:Value} {xs:List Value} (ho:w.ownsRow base e size v n xs) (hb:base'≤base):w.ownsRow base' e size v n xs:=by
 refine ⟨ho.1,?_⟩
 rcases ho.2 with h0|⟨gb,cap,cur,h1,h2,h3,h4⟩
 ·exact Or.inl h0
 ·exact Or.inr ⟨gb,cap,cur,h1,by omega,h3,h4⟩
theorem nth_append_lt {α:Type} {d:α} {l k:List α} {i:Nat} (h:i<l.length):nth d (l++k) i=nth d l i:=by
 simp [nth,List.getD,List.getElem?_append_left h]
theorem nth_append_at {α:Type} {d x:α} {l:List α}:nth d (l++[x]) l.length=x:=by simp [nth,List.getD]
theorem HpAt.objsAdd {w0 w w2:World} {g:Ad} {p:Nat} {h:Hp} {vo vx:Value} {hv:List Value} (H:HpAt w0 g w p h vo vx hv) (k:Tk g.T) (hg:w.grownBy w2 vo.ownBlock) {o:Ob} {u v':Value} {S:Nat}
  (ho:w2.ownsRow w0.heap.size 152 2 v' (h.objs.length+1) (obCells h.objs hv++[.int .i64 o.cls,u]))
  (hu:w.ownsRow S 285 4 u o.held.length (heCells o.held)) (hS:w0.heap.size≤S) (hlt:∀i,i<h.objs.length→∀b,(nth hv0 hv i).ownBlock=some b→b<S) :
  HpAt w0 g (w2.setCell ⟨p,2,none⟩ v') p { h with objs:=h.objs++[o] } v' vx (hv++[u])∧Fr w0.heap.size g.T w (w2.setCell ⟨p,2,none⟩ v'):=by
 have hp:w2.heap[p]?=some (.cells (hpRow g h vo vx) g.T (0,0)):=grown_keep hg H.obs.row H.blk k.o
 have hbl:=grown_base hg H.obs.row H.base
 refine ⟨⟨H.own,by rw [block_set hp];rfl,Below.setCell (Below.trans H.bl hbl) H.own _,row_far (grown_row hg H.obs.row H.out (by decide)) hp k.i _,?_,?_,?_,?_⟩,?_⟩
 ·simp [H.obs.len]
 ·have:=row_far (i:=2) ho hp k.o v'
  rw [obCells_append _ _ _ _ H.obs.len]
  simpa using this
 ·intro i hi
  simp only [List.length_append,List.length_singleton] at hi
  by_cases hl:i<h.objs.length
  ·rw [nth_append_lt hl,nth_append_lt (by rw [H.obs.len];exact hl)]
   exact row_far (grown_row hg H.obs.row (H.obs.held i hl) (by decide)) hp k.h _
  ·obtain rfl:i=h.objs.length:=by omega
   rw [nth_append_at]
   have e:nth hv0 (hv++[u]) h.objs.length=u:=by rw [←H.obs.len];exact nth_append_at
   rw [e]
   exact row_far (grown_row hg H.obs.row (row_base hu hS) (by decide)) hp k.h _
 ·have key:∀i,i<h.objs.length→(nth hv0 (hv++[u]) i)=nth hv0 hv i:=fun i hi=>nth_append_lt (by rw [H.obs.len];exact hi)
  have e:nth hv0 (hv++[u]) h.objs.length=u:=by rw [←H.obs.len];exact nth_append_at
  intro i j hi hj hij
  simp only [List.length_append,List.length_singleton] at hi hj
  by_cases hl:i<h.objs.length
  ·rw [key i hl]
   by_cases hl':j<h.objs.length
   ·rw [key j hl'];exact H.obs.apart i j hl hl' hij
   ·obtain rfl:j=h.objs.length:=by omega
    rw [e]
    cases hbk:(nth hv0 hv i).ownBlock with
    | none=>exact Or.inl rfl
    | some b =>
     right
     intro hc
     have h1:=hlt i hl b hbk
     have h2:=(hu.lt b hc.symm).1
     omega
  ·obtain rfl:i=h.objs.length:=by omega
   rw [e,key j (by omega)]
   cases hbk:u.ownBlock with
   | none=>exact Or.inl rfl
   | some b =>
    right
    intro hc
    have h1:=hlt j (by omega) b hc.symm
    have h2:=(hu.lt b hbk).1
    omega
 ·refine Fr.set ⟨hbl,fun b cs t f e n=>grown_keep hg H.obs.row e fun ht=>n (ht▸.inr (.inl rfl))⟩ hp (.inl rfl) H.own _
end Go.Proofs.YtgiiapenmjollabGreat
