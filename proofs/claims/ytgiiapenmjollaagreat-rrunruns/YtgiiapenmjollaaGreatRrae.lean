import Derived.Test.YtgiiapenmjollaaGreatRrab
import Derived.WalkKit
import Derived.RowKit3
import Derived.Below
import Derived.OwnWalk
import Derived.Laws.OwnMore
import Derived.Deep.Draws
import Derived.Test.YtgiiapenmjollaaGreatChecked
import Derived.Handy
import Derived.Deep.RegionHeld3
import Derived.BigQuiet
import Derived.Deep.AppendLies
import Derived.Deep.RegionLaw
import Derived.BigRegion
import Derived.Deep.RegionWith
namespace Go.Proofs.YtgiiapenmjollaaGreat
set_option linter.all false
set_option maxHeartbeats 40000000
set_option maxRecDepth 100000
open Go.RowKit
open Tryz
def Kd (h:Hp):Prop:=∀o∈h.objs,∀x∈o.held,x.v.kind=(bI h.file.classes x.cls x.fld).kind
theorem Kd.same {h h':Hp} (k:Kd h) (e1:h'.objs=h.objs) (e2:h'.file=h.file):Kd h':=by
 unfold Kd
 rw [e1,e2]
 exact k
theorem Fu (h:Hp) (e:Int):(h.fin e).objs=h.objs/\(h.fin e).file=h.file:=by unfold Hp.fin;split<;>exact ⟨rfl,rfl⟩
theorem Kd.fin {h:Hp} (k:Kd h) (e:Int):Kd (h.fin e):=k.same (Fu h e).1 (Fu h e).2
theorem Kd.must {h:Hp} (k:Kd h) (b:Bool):Kd (h.must b):=by unfold Hp.must;split;exact k;exact k.fin 6
theorem zc (cs:List Cl) (c:Nat):∀x∈cZ cs c,x.v.kind=(bI cs x.cls x.fld).kind:=by
 intro x hx
 unfold cZ at hx
 rw [List.mem_flatMap] at hx
 obtain ⟨d,-,hd⟩:=hx
 unfold gL at hd
 split at hd
 ·rw [List.mem_map] at hd
  obtain ⟨k,-,rfl⟩:=hd
  rfl
 ·simp at hd
theorem Kd.new {h:Hp} (k:Kd h) (c:Int):Kd (h.new c):=by
 unfold Hp.new;split
 ·exact k.fin 4
 ·intro o ho x hx
  dsimp only at ho ⊢
  rw [List.mem_append] at ho
  rcases ho with ho|ho
  ·exact k o ho x hx
  ·simp at ho;subst ho;exact zc _ _ x hx
theorem Kd.raise {h:Hp} (k:Kd h) (c:Int):Kd (h.raise c):=by
 unfold Hp.raise;split
 ·exact k.new c
 ·exact (k.new c).same rfl rfl
theorem Kd.throw {h:Hp} (k:Kd h) (v:Va):Kd (h.throw v):=by
 unfold Hp.throw;split
 ·split
  ·exact k.raise 1
  ·exact k.same rfl rfl
 ·exact k.must _
theorem Kd.findH {h:Hp} (k:Kd h) (r:Va) (c:Int):Kd (h.findH r c):=by
 unfold Hp.findH;split
 ·split
  ·exact k.raise 1
  ·exact k
 ·exact k.must _
theorem Bo {l:List pO} {c k:Int} {q:Nat} (h:eB l c k=q):q<l.length/\(nth cE l q).cls=c/\(nth cE l q).fld=k:=by
 unfold eB at h
 split at h
 ·rename_i i hi
  rw [List.findIdx?_eq_some_iff_getElem] at hi
  obtain ⟨h1,h2,-⟩:=hi
  have e:i=q:=by exact_mod_cast h
  subst e
  rw [cg h1]
  have:=of_decide_eq_true h2
  exact ⟨h1,this.1,this.2⟩
 ·omega
section
variable {h:Hp}
theorem Bp {r:Va} {c k:Int} (hn:¬h.findN r c k<0):h.findH r c=h/\h.mustB (h.of r ⟨3,c⟩)=true/\¬r.n<0/\eB (h.obj r.n).held c k=(h.findN r c k).toNat:=by
 unfold Hp.findN at hn ⊢
 split
 ·rename_i hm
  rw [if_pos hm] at hn
  split
  ·rename_i h1;rw [if_pos h1] at hn;omega
  ·rename_i h1
   rw [if_neg h1] at hn
   refine ⟨?_,hm,h1,by omega⟩
   unfold Hp.findH
   rw [if_pos hm,if_neg h1]
 ·rename_i hm;rw [if_neg hm] at hn;omega
theorem Kd.put (g:Kd h) (r:Va) (c k:Int) (v:Va):Kd (h.put r c k v):=by
 unfold Hp.put;split
 ·rename_i hm
  split
  ·exact g.findH r c
  ·rename_i hn
   obtain ⟨e1,e2,e3,e4⟩:=Bp hn
   obtain ⟨p1,p2,p3⟩:=Bo e4
   rw [e1]
   generalize (h.findN r c k).toNat=j at p1 p2 p3
   intro o ho x hx
   unfold Hp.setV at ho ⊢
   dsimp only at ho ⊢
   by_cases hl:r.n.toNat<h.objs.length
   ·rcases eM ho with rfl|ho
    ·dsimp only at hx
     rcases eM hx with rfl|hx
     ·dsimp only
      have hk:v.kind=(bI h.file.classes c k).kind:=by
       have:=(dE hm).1
       unfold Hp.of at this
       rw [Bool.and_eq_true] at this
       exact of_decide_eq_true this.1
      unfold Hp.obj at p2 p3
      rw [p2,p3];exact hk
     ·exact g _ (bE hl) x hx
    ·exact g o ho x hx
   ·rw [List.set_eq_of_length_le (by omega)] at ho;exact g o ho x hx
 ·exact g.must _
theorem Kd.cast (k:Kd h) (v:Va) (c:Int):Kd (h.cast v c):=by
 unfold Hp.cast;split
 ·split
  ·exact k
  ·exact k.raise 3
 ·exact k.must _
theorem Kd.emit (k:Kd h) (v:Va) (n:Int):Kd (h.emit v n):=by
 unfold Hp.emit;split
 ·exact k.same rfl rfl
 ·exact k.must _
theorem Kd.input (k:Kd h):Kd h.input':=by
 unfold Hp.input';split
 ·exact k.fin 3
 ·exact k.same rfl rfl
theorem Kd.reckH (k:Kd h) (a b:Va) (n op:Int):Kd (h.reckH a b n op):=by
 unfold Hp.reckH;split
 ·split
  ·exact k
  ·exact k.raise 2
 ·exact k.must _
theorem Kd.step (k:Kd h):Kd h.step:=by
 unfold Hp.step;split
 ·exact k
 ·split
  ·exact k.fin 0
  ·exact k.same rfl rfl
theorem tx (g:Kd h) {r:Va} {c k:Int} (hr:jw h r) (hn:¬h.findN r c k<0):(h.getV r c k).kind=(bI h.file.classes c k).kind:=by
 obtain ⟨e1,e2,e3,e4⟩:=Bp hn
 obtain ⟨p1,p2,p3⟩:=Bo e4
 have h3:r.kind=3:=kD (dE e2).1
 have Bf:r.n.toNat<h.objs.length:=by have:=(hr.ref h3).2;omega
 unfold Hp.getV
 rw [if_neg hn]
 have:=g _ (bE (d:=cF) Bf) _ (bE (d:=cE) p1)
 refine Eq.trans this ?_
 show (bI h.file.classes (nth cE (h.obj r.n).held (h.findN r c k).toNat).cls (nth cE (h.obj r.n).held (h.findN r c k).toNat).fld).kind=_
 rw [p2,p3]
end
structure Ad where
 A:Option Addr
 a:Nat
 M:Option Addr
 m:Nat
 I:Option Addr
 i:Nat
 T:TypeId
abbrev jh (v:Va):Value:=.agg #[ι v.kind,ι v.n]
def xl (g:Ad) (h:Hp) (vo vx:Value):Array Value :=
 #[.slice g.A h.file.classes.length g.a,.slice g.M h.file.methods.length g.m,vo,.slice g.I h.input.length g.i,ι h.calls,ι h.fuel,
  ι h.sh.fin,ι h.sh.value,ι h.sh.cls,vx,ι h.sh.used,ι h.sh.steps,.bool h.over,ι h.thrown]
def dp:List Ob->List Value->List Value
 | o::l,v::k=>ι o.cls::v::dp l k
 | _,_=>[]
def cN:List pO->List Value
 | []=>[]
 | x::l=>ι x.cls::ι x.fld::ι x.v.kind::ι x.v.n::cN l
abbrev hv0:Value:=.bool false
structure xm (B:Nat) (w:World) (vo:Value) (l:List Ob) (hv:List Value):Prop where
 len:hv.length=l.length
 row:w.ownsRow B 125 2 vo l.length (dp l hv)
 held:∀i,i<l.length->w.ownsRow B 214 4 (nth hv0 hv i) (nth cF l i).held.length (cN (nth cF l i).held)
 apart:∀i j,i<l.length->j<l.length->i≠j->(nth hv0 hv i).ownBlock=none∨(nth hv0 hv i).ownBlock≠(nth hv0 hv j).ownBlock
structure cO (w0:World) (g:Ad) (w:World) (p:Nat) (h:Hp) (vo vx:Value) (hv:List Value):Prop where
 own:w0.heap.size<=p
 blk:w.heap[p]?=some (.cells (xl g h vo vx) g.T (0,0))
 bl:Bl w0 w
 o:w.ownsRow w0.heap.size 2 1 vx h.sh.o.length (h.sh.o.map (Value.int .i64))
 obs:xm w0.heap.size w vo h.objs hv
def Hs (w0:World) (g:Ad) (w:World) (p:Nat) (h:Hp):Prop:=∃vo vx hv,cO w0 g w p h vo vx hv
def gI (T t:TypeId):Prop:=t=T∨t=125∨t=214∨t=2
structure Tk (T:TypeId):Prop where
 o:T≠125
 h:T≠214
 i:T≠2
 v:T≠62
 c:T≠113
 t:T≠45
 m:T≠49
 n:T≠55
 d:T≠108
section
variable {T:TypeId}
theorem Tk.nv (k:Tk T):¬gI T 62:=by rintro (h|h|h|h)<;>first|exact k.v h.symm|exact absurd h (by decide)
theorem Tk.nc (k:Tk T):¬gI T 113:=by rintro (h|h|h|h)<;>first|exact k.c h.symm|exact absurd h (by decide)
theorem Tk.nm (k:Tk T):¬gI T 49:=by rintro (h|h|h|h)<;>first|exact k.m h.symm|exact absurd h (by decide)
theorem Tk.nn (k:Tk T):¬gI T 55:=by rintro (h|h|h|h)<;>first|exact k.n h.symm|exact absurd h (by decide)
end
structure Fr (B:Nat) (T:TypeId) (w w':World):Prop where
 bl:Below B w w'
 keep:∀(b:Nat) (cs:Array Value) (t:TypeId) (f:Nat×Nat),w.heap[b]?=some (.cells cs t f)->¬gI T t->w'.heap[b]?=some (.cells cs t f)
structure Cf (B:Nat) (T:TypeId) (w w':World):Prop where
 bl:Below B w w'
 keep:∀(b:Nat) (cs:Array Value) (t:TypeId) (f:Nat×Nat),w.heap[b]?=some (.cells cs t f)->gI T t->w'.heap[b]?=some (.cells cs t f)
theorem Fr.refl (B:Nat) (T:TypeId) (w:World):Fr B T w w:=⟨Below.refl _ _,fun _ _ _ _ h _=>h⟩
theorem Fr.trans {B:Nat} {T:TypeId} {a b c:World} (h:Fr B T a b) (k:Fr B T b c):Fr B T a c:=⟨h.bl.trans k.bl,fun x cs t f e n=>k.keep x cs t f (h.keep x cs t f e n) n⟩
theorem Cf.refl (B:Nat) (T:TypeId) (w:World):Cf B T w w:=⟨Below.refl _ _,fun _ _ _ _ h _=>h⟩
section
variable {B:Nat} {T:TypeId} {a:World}
theorem Cf.trans {b c:World} (h:Cf B T a b) (k:Cf B T b c):Cf B T a c:=⟨h.bl.trans k.bl,fun x cs t f e n=>k.keep x cs t f (h.keep x cs t f e n) n⟩
theorem Fr.alloc {w:World} (h:Fr B T a w) (hB:B<=w.heap.size) (o:Obj):Fr B T a (w.alloc o) :=
 h.trans ⟨(Below.refl B w).alloc hB o,fun b _ _ _ e _=>(Below.heap_alloc w o b (af e)).trans e⟩
theorem Cf.alloc {w:World} (h:Cf B T a w) (hB:B<=w.heap.size) (o:Obj):Cf B T a (w.alloc o) :=
 h.trans ⟨(Below.refl B w).alloc hB o,fun b _ _ _ e _=>(Below.heap_alloc w o b (af e)).trans e⟩
theorem Fr.drew {w:World} (h:Fr B T a w):Fr B T a w.drew:=⟨h.bl.drew,h.keep⟩
theorem Cf.drew {w:World} (h:Cf B T a w):Cf B T a w.drew:=⟨h.bl.drew,h.keep⟩
theorem Fr.set {w:World} (h:Fr B T a w) {b i:Nat} {cs:Array Value} {t:TypeId} {f:Nat×Nat} (hb:w.heap[b]?=some (.cells cs t f)) (ht:gI T t) (hB:B<=b) (v:Value):Fr B T a (w.setCell ⟨b,i,none⟩ v):=by
 refine h.trans ⟨(Below.refl B w).setCell hB v,fun x cs' t' f' e n=>?_⟩
 by_cases hx:x=b
 ·subst hx;rw [hb] at e;simp at e;exact absurd (e.2.1▸ht) n
 ·rw [ak hx];exact e
theorem Cf.set {w:World} (h:Cf B T a w) {b i:Nat} {cs:Array Value} {t:TypeId} {f:Nat×Nat} (hb:w.heap[b]?=some (.cells cs t f)) (ht:¬gI T t) (hB:B<=b) (v:Value):Cf B T a (w.setCell ⟨b,i,none⟩ v):=by
 refine h.trans ⟨(Below.refl B w).setCell hB v,fun x cs' t' f' e n=>?_⟩
 by_cases hx:x=b
 ·subst hx;rw [hb] at e;simp at e;exact absurd (e.2.1▸n) ht
 ·rw [ak hx];exact e
end
section
variable {B:Nat} {T:TypeId} {w w':World}
theorem Cf.row (h:Cf B T w w') {e:TypeId} (he:gI T e) {base size n:Nat} {v:Value} {xs:List Value} (ho:w.ownsRow base e size v n xs):w'.ownsRow base e size v n xs:=by
 refine ⟨ho.1,?_⟩
 rcases ho.2 with h0|⟨g,cap,cur,h1,h2,h3,h4⟩
 ·exact Or.inl h0
 ·exact Or.inr ⟨g,cap,cur,h1,h2,h.keep _ _ _ _ h3 he,h4⟩
theorem xm.cf (h:Cf B T w w') {vo:Value} {l:List Ob} {hv:List Value} (ho:xm B w vo l hv):xm B w' vo l hv :=
 ⟨ho.len,h.row (.inr (.inl rfl)) ho.row,fun i hi=>h.row (.inr (.inr (.inl rfl))) (ho.held i hi),ho.apart⟩
end
theorem cO.cf {w0 w w':World} {g:Ad} {p:Nat} {h:Hp} {vo vx:Value} {hv:List Value} (H:cO w0 g w p h vo vx hv) (k:Cf w0.heap.size g.T w w'):cO w0 g w' p h vo vx hv :=
 ⟨H.own,k.keep _ _ _ _ H.blk (.inl rfl),Below.trans H.bl k.bl,k.row (.inr (.inr (.inr rfl))) H.o,H.obs.cf k⟩
theorem cO.base {w0 w:World} {g:Ad} {p:Nat} {h:Hp} {vo vx:Value} {hv:List Value} (H:cO w0 g w p h vo vx hv):w0.heap.size<=w.heap.size:=H.bl.size
structure Ky (g:Ad) (w:World) (p:Nat) (h:Hp) (vo vx:Value):Prop where
 c0:w.cell? ⟨p,0,none⟩=some (.slice g.A h.file.classes.length g.a)
 c1:w.cell? ⟨p,1,none⟩=some (.slice g.M h.file.methods.length g.m)
 c2:w.cell? ⟨p,2,none⟩=some vo
 c3:w.cell? ⟨p,3,none⟩=some (.slice g.I h.input.length g.i)
 c4:w.cell? ⟨p,4,none⟩=some (ι h.calls)
 c5:w.cell? ⟨p,5,none⟩=some (ι h.fuel)
 c6:w.cell? ⟨p,6,none⟩=some (ι h.sh.fin)
 c7:w.cell? ⟨p,7,none⟩=some (ι h.sh.value)
 c8:w.cell? ⟨p,8,none⟩=some (ι h.sh.cls)
 c9:w.cell? ⟨p,9,none⟩=some vx
 c10:w.cell? ⟨p,10,none⟩=some (ι h.sh.used)
 c11:w.cell? ⟨p,11,none⟩=some (ι h.sh.steps)
 c12:w.cell? ⟨p,12,none⟩=some (.bool h.over)
 c13:w.cell? ⟨p,13,none⟩=some (ι h.thrown)
section
variable {w0 w:World} {g:Ad} {p:Nat} {h:Hp} {vo vx:Value} {hv:List Value}
theorem cO.cells (H:cO w0 g w p h vo vx hv):Ky g w p h vo vx:=by
 constructor<;>(rw [ab H.blk];rfl)
theorem cO.free (H:cO w0 g w p h vo vx hv) (i:Nat):w.frozen? ⟨p,i,none⟩=false:=aA H.blk i
theorem cO.set (H:cO w0 g w p h vo vx hv) (k:Tk g.T) {i:Nat} {v:Value} (h':Hp) (hrow:(xl g h vo vx).setIfInBounds i v=xl g h' vo vx) (ho:h'.objs=h.objs) (hx:h'.sh.o=h.sh.o):cO w0 g (w.setCell ⟨p,i,none⟩ v) p h' vo vx hv:=by
 refine ⟨H.own,?_,Below.setCell H.bl H.own v,?_,?_⟩
 ·rw [ay H.blk,hrow]
 ·rw [hx];exact cW H.o H.blk k.i v
 ·rw [ho];exact ⟨H.obs.len,cW H.obs.row H.blk k.o v,fun i hi=>cW (H.obs.held i hi) H.blk k.h v,H.obs.apart⟩
theorem cO.frSet (H:cO w0 g w p h vo vx hv) (i:Nat) (v:Value):Fr w0.heap.size g.T w (w.setCell ⟨p,i,none⟩ v) :=
 (Fr.refl _ _ w).set H.blk (.inl rfl) H.own v
end
section
variable {B:Nat} {T:TypeId} {a w:World}
theorem Fr.drewN (h:Fr B T a w) (n:Nat):Fr B T a (w.drewN n):=⟨⟨h.bl.os,h.bl.tape,h.bl.output,h.bl.size,h.bl.block⟩,h.keep⟩
theorem Cf.drewN (h:Cf B T a w) (n:Nat):Cf B T a (w.drewN n):=⟨⟨h.bl.os,h.bl.tape,h.bl.output,h.bl.size,h.bl.block⟩,h.keep⟩
end
section
variable {w0 w:World}
theorem cO.drewN {g:Ad} {p:Nat} {h:Hp} {vo vx:Value} {hv:List Value} (H:cO w0 g w p h vo vx hv) (n:Nat):cO w0 g (w.drewN n) p h vo vx hv:=H.cf ((Cf.refl _ _ w).drewN n)
theorem Hs.cf {w':World} {g:Ad} {p:Nat} {h:Hp} (H:Hs w0 g w p h) (k:Cf w0.heap.size g.T w w'):Hs w0 g w' p h:=by
 obtain ⟨vo,vx,hv,H⟩:=H
 exact ⟨vo,vx,hv,H.cf k⟩
theorem Hs.drewN {g:Ad} {p:Nat} {h:Hp} (H:Hs w0 g w p h) (n:Nat):Hs w0 g (w.drewN n) p h:=H.cf ((Cf.refl _ _ w).drewN n)
theorem Hs.base {g:Ad} {p:Nat} {h:Hp} (H:Hs w0 g w p h):w0.heap.size<=w.heap.size:=by
 obtain ⟨vo,vx,hv,H⟩:=H
 exact H.base
end
theorem Fr.new {B:Nat} {T:TypeId} {a w:World} (h:Fr B T a w) {b i:Nat} (hb:a.heap.size<=b) (hB:B<=b) (v:Value):Fr B T a (w.setCell ⟨b,i,none⟩ v):=by
 refine ⟨h.bl.setCell hB v,fun x cs t f e n=>?_⟩
 have:=af e
 rw [ak (by omega)]
 exact h.keep x cs t f e n
structure aC (w:World) (b:Nat) (v:Va):Prop where
 blk:w.heap[b]?=some (.cells #[ι v.kind,ι v.n] 62 (0,0))
section
variable {w:World} {b:Nat} {v:Va}
theorem aC.c0 (h:aC w b v):w.cell? ⟨b,0,none⟩=some (ι v.kind):=by rw [ab h.blk];rfl
theorem aC.c1 (h:aC w b v):w.cell? ⟨b,1,none⟩=some (ι v.n):=by rw [ab h.blk];rfl
theorem aC.fr (h:aC w b v) (i:Nat):w.frozen? ⟨b,i,none⟩=false:=aA h.blk i
end
theorem aC.keep {B:Nat} {T:TypeId} {w w':World} {b:Nat} {v:Va} (h:aC w b v) (k:Tk T) (f:Fr B T w w'):aC w' b v:=⟨f.keep _ _ _ _ h.blk k.nv⟩
theorem aC.new (w:World) (v:Va):aC (w.alloc (.cells #[ι v.kind,ι v.n] 62)) w.heap.size v:=⟨aB _ _ _⟩
section
variable {w:World} {b:Nat} {v:Va}
theorem aC.drewN (h:aC w b v) (n:Nat):aC (w.drewN n) b v:=⟨h.blk⟩
theorem aC.set (h:aC w b v) (u:Va):aC ((w.setCell ⟨b,0,none⟩ (ι u.kind)).setCell ⟨b,1,none⟩ (ι u.n)) b u :=
 ⟨by rw [ay (ay h.blk _)];rfl⟩
end
theorem aC.cf {B:Nat} {T:TypeId} {w:World} {b:Nat} {v:Va} (h:aC w b v) (k:Tk T) (hB:B<=b) (x y:Value):Cf B T w ((w.setCell ⟨b,0,none⟩ x).setCell ⟨b,1,none⟩ y) :=
 ((Cf.refl B T w).set h.blk k.nv hB x).set (ay h.blk x) k.nv hB y
section
variable (w0:World) (g:Ad)
theorem nN (k:Tk g.T) (p:Nat) (h:Hp) (how:Int) (w:World) (hH:Hs w0 g w p h) :
  χ 108 #[π p 0,ι how] w fun e w'=>e=.returned (.tuple #[])/\Hs w0 g w' p (h.fin how)/\Fr w0.heap.size g.T w w':=by
 obtain ⟨vo,vx,hv,H⟩:=hH
 have HH:Θ (cO w0 g w p h vo vx hv):=H
 have c12:=H.cells.c12
 have c6:=H.cells.c6
 have f12:=H.free 12
 have f6:=H.free 6
 clear H
 cases ho:h.over
 ·rw [ho] at c12
  have hf:h.fin how={ { h with over:=true } with sh:={ h.sh with fin:=how } }:=by unfold Hp.fin;rw [if_neg (by rw [ho];decide)]
  rw [hf]
  have H1:Θ (cO w0 g (w.setCell ⟨p,12,none⟩ (.bool true)) p { h with over:=true } vo vx hv):=HH.o.set k _ rfl rfl rfl
  have H2:Θ (cO w0 g ((w.setCell ⟨p,12,none⟩ (.bool true)).setCell ⟨p,6,none⟩ (ι how)) p { { h with over:=true } with sh:={ h.sh with fin:=how } } vo vx hv):=H1.o.set k _ rfl rfl rfl
  clear hf
  go_enter func108,ntmps108
  go_wp2
  go_end0
  exact ⟨rfl,⟨vo,vx,hv,H2.o⟩,(HH.o.frSet 12 _).trans (H1.o.frSet 6 _)⟩
 ·rw [ho] at c12
  have hf:h.fin how=h:=by unfold Hp.fin;rw [if_pos ho]
  rw [hf]
  clear hf
  go_enter func108,ntmps108
  go_wp2
  go_end0
  exact ⟨rfl,⟨vo,vx,hv,HH.o⟩,Fr.refl _ _ _⟩
theorem tz (p:Nat) (h:Hp) (w:World) (hH:Hs w0 g w p h) :
  χ 112 #[π p 0] w fun e w'=>e=.returned (.bool h.stops)/\w'=w:=by
 obtain ⟨vo,vx,hv,H⟩:=hH
 have c12:=H.cells.c12
 have c13:=H.cells.c13
 clear H
 cases ho:h.over
 ·rw [ho] at c12
  have hs:h.stops=decide (0<=h.thrown):=by unfold Hp.stops;rw [ho];rfl
  rw [hs]
  go_enter func112,ntmps112
  go_wp2
  all_goals
   go_ret
   exact ⟨ag (by simp [*]),rfl⟩
 ·rw [ho] at c12
  have hs:h.stops=true:=by unfold Hp.stops;rw [ho];rfl
  rw [hs]
  go_enter func112,ntmps112
  go_wp2
  go_ret
  exact ⟨rfl,rfl⟩
theorem bZ (k:Tk g.T) (p:Nat) (h:Hp) (b:Bool) (w:World) (hH:Hs w0 g w p h) :
  χ 55 #[π p 0,.bool b] w fun e w'=>e=.returned (.bool (h.mustB b))/\Hs w0 g w' p (h.must b)/\Fr w0.heap.size g.T w w':=by
 have HH:Θ (Hs w0 g w p h):=hH
 obtain ⟨vo,vx,hv,H⟩:=hH
 have c12:=H.cells.c12
 clear H
 cases b
 ·go_enter func55,ntmps55
  go_wp2_with (go_at_call 108;refine (nN w0 g k p h 6 _ HH.o).mono ?_;rintro e w1 ⟨rfl,h1,f1⟩)
  go_ret
  exact ⟨rfl,h1,f1⟩
 ·go_enter func55,ntmps55
  go_wp2
  go_ret
  exact ⟨rfl,HH.o,Fr.refl _ _ _⟩
theorem xp (k:Tk g.T) (p:Nat) (h:Hp) (w:World) (hH:Hs w0 g w p h) (hs:0<=h.sh.steps/\h.sh.steps<=60000) :
  χ 54 #[π p 0] w fun e w'=>e=.returned (.bool h.stepB)/\Hs w0 g w' p h.step/\Fr w0.heap.size g.T w w':=by
 have HH:Θ (Hs w0 g w p h):=hH
 obtain ⟨vo,vx,hv,H⟩:=hH
 have HA:Θ (cO w0 g w p h vo vx hv):=H
 have c12:=H.cells.c12
 have c11:=H.cells.c11
 have c5:=H.cells.c5
 have f11:=H.free 11
 clear H
 cases ho:h.over
 ·rw [ho] at c12
  by_cases hf:h.fuel<=h.sh.steps
  ·have e1:h.stepB=false:=by unfold Hp.stepB;rw [decide_eq_false (by omega),Bool.and_false]
   have e2:h.step=h.fin 0:=by unfold Hp.step;rw [if_neg (by rw [ho];decide),if_pos hf]
   rw [e1,e2]
   clear e1 e2
   have d1:decide (h.fuel<=h.sh.steps)=true:=decide_eq_true hf
   go_enter func54,ntmps54
   go_wp2
   go_quiet (fail)
   go_wp2_with (go_at_call 108;refine (nN w0 g k p h 0 _ (HH.o.drewN _)).mono ?_;rintro e w1 ⟨rfl,h1,f1⟩)
   go_ret
   exact ⟨rfl,h1,((Fr.refl _ _ w).drewN _).trans f1⟩
  ·have e1:h.stepB=true:=by unfold Hp.stepB;rw [decide_eq_true (by omega),ho];rfl
   have e2:h.step={ h with sh:={ h.sh with steps:=h.sh.steps+1 } }:=by unfold Hp.step;rw [if_neg (by rw [ho];decide),if_neg hf]
   rw [e1,e2]
   clear e1 e2
   have d1:decide (h.fuel<=h.sh.steps)=false:=decide_eq_false hf
   go_enter func54,ntmps54
   go_wp2
   go_quiet (fail)
   go_wp2
   go_ret
   exact ⟨rfl,⟨vo,vx,hv,(HA.o.drewN _).set k _ rfl rfl rfl⟩,((Fr.refl _ _ w).drewN _).trans ((HA.o.drewN _).frSet 11 _)⟩
 ·rw [ho] at c12
  have e1:h.stepB=false:=by unfold Hp.stepB;rw [ho];rfl
  have e2:h.step=h:=by unfold Hp.step;rw [if_pos ho]
  rw [e1,e2]
  clear e1 e2
  go_enter func54,ntmps54
  go_wp2
  go_ret
  exact ⟨rfl,HH.o,Fr.refl _ _ _⟩
end
theorem bC:(Tryz.prog.info? 62).map (·.size)=some 2:=by kernel_rfl
theorem NR (w0:World) (g:Ad) (k:Tk g.T) (p:Nat) (h:Hp) (w:World) (hH:Hs w0 g w p h) (hI:aU w0 g.I h.input) (hu:0<=h.sh.used) :
  χ 164 #[π p 0] w fun e w'=>e=.returned (jh h.inV)/\Hs w0 g w' p h.input'/\Fr w0.heap.size g.T w w':=by
 have hal:Cf w0.heap.size g.T w (w.alloc (.cells #[ι 0,ι 0] 62)):=(Cf.refl _ _ w).alloc hH.base _
 have HF:Θ (Fr w0.heap.size g.T w (w.alloc (.cells #[ι 0,ι 0] 62))):=(Fr.refl _ _ w).alloc hH.base _
 have hm:=hI.1
 have dX:=hH.base
 unfold maxLen at hm
 obtain ⟨vo,vx,hv,H⟩:=hH
 have HA:Θ (cO w0 g (w.alloc (.cells #[ι 0,ι 0] 62)) p h vo vx hv):=H.cf hal
 have c3:=HA.o.cells.c3
 have c10:=HA.o.cells.c10
 have f10:=HA.o.free 10
 have hlt:p<w.heap.size:=af H.blk
 have HI:Θ (aU (w.alloc (.cells #[ι 0,ι 0] 62)) g.I h.input):=hI.bl HA.o.bl
 have HR:Θ (aC (w.alloc (.cells #[ι 0,ι 0] 62)) w.heap.size aE):=aC.new w aE
 clear H hal hI
 by_cases hd:(h.input.length:Int)<=h.sh.used
 ·have e0:h.dry=true:=decide_eq_true hd
  have e1:h.inV=aE:=by unfold Hp.inV;rw [if_pos e0]
  have e2:h.input'=h.fin 3:=by unfold Hp.input';rw [if_pos e0]
  rw [e1,e2]
  clear e0 e1 e2
  have d1:decide ((h.input.length:Int)<=h.sh.used)=true:=decide_eq_true hd
  go_enter func164,ntmps164
  go_wp2
  go_quiet (fail)
  go_wp2_with (go_at_call 108;refine (nN w0 g k p h 3 _ ⟨vo,vx,hv,HA.o.drewN _⟩).mono ?_;rintro e w1 ⟨rfl,h1,f1⟩;have b1:=(HR.o.drewN _).keep k f1;have r0:=b1.c0;have r1:=b1.c1;have r2:=b1.fr 0;have r3:=b1.fr 1;have kA:Θ (aC w1 w.heap.size aE):=b1;clear b1)
  (try simp only [Exit.inBlock,Exit.then])
  refine bodyPost_ret (results_cell_row rfl _ _ w.heap.size _ _ _ _ rfl (kA.o.set aE).blk underlying62 rfl bC) rfl ?_
  exact ⟨rfl,h1.cf (kA.o.cf k dX _ _),(((HF.o.drewN _).trans f1).new (Nat.le_refl _) dX _).new (Nat.le_refl _) dX _⟩
 ·have e0:h.dry=false:=decide_eq_false hd
  obtain ⟨q,hq⟩:∃q:Nat,h.sh.used=q:=⟨h.sh.used.toNat,by omega⟩
  have dI:q<h.input.length:=by omega
  rcases HI.o.2 with h0|⟨b,off,hA,hc⟩
  ·omega
  have hcell:=(hc q dI).1
  have e1:h.inV=⟨2,nth (0:Int) h.input q⟩:=by unfold Hp.inV;rw [if_neg (by rw [e0];decide),hq];rfl
  have e2:h.input'={ h with sh:={ h.sh with used:=(q:Int)+1 } }:=by unfold Hp.input';rw [if_neg (by rw [e0];decide),hq]
  rw [e1,e2]
  clear e0 e1 e2 hc
  rw [hA] at c3
  rw [hq] at c10
  have d1:decide ((h.input.length:Int)<=(q:Int))=false:=decide_eq_false (by omega)
  have iY:(0:Int)<=(q:Int):=by omega
  have mH:(q:Int)<(h.input.length:Int):=by omega
  clear hq hd hu hA
  have H2:Θ (∀n,cO w0 g (((w.alloc (.cells #[ι 0,ι 0] 62)).drewN n).setCell ⟨p,10,none⟩ (ι ((q:Int)+1))) p { h with sh:={ h.sh with used:=(q:Int)+1 } } vo vx hv):=fun n=>(HA.o.drewN n).set k _ rfl rfl rfl
  have R2:Θ (∀n,aC (((w.alloc (.cells #[ι 0,ι 0] 62)).drewN n).setCell ⟨p,10,none⟩ (ι ((q:Int)+1))) w.heap.size aE):=fun n=>(HR.o.drewN n).keep k ((HA.o.drewN n).frSet 10 _)
  have F2:Θ (∀n,Fr w0.heap.size g.T w (((w.alloc (.cells #[ι 0,ι 0] 62)).drewN n).setCell ⟨p,10,none⟩ (ι ((q:Int)+1)))):=fun n=>(HF.o.drewN n).trans ((HA.o.drewN n).frSet 10 _)
  go_enter func164,ntmps164
  go_wp2
  go_quiet (fail)
  go_wp2
  go_quiet (fail)
  go_wp2
  (try simp only [Exit.inBlock,Exit.then])
  refine bodyPost_ret (results_cell_row rfl _ _ w.heap.size _ _ _ _ rfl ((R2.o _).set ⟨2,nth (0:Int) h.input q⟩).blk underlying62 rfl bC) rfl ?_
  exact ⟨rfl,⟨vo,vx,hv,(H2.o _).cf ((R2.o _).cf k dX _ _)⟩,((F2.o _).new (Nat.le_refl _) dX _).new (Nat.le_refl _) dX _⟩
theorem xr:∀(l:List Ob) (hv:List Value) (i:Nat),hv.length=l.length->i<l.length->(dp l hv)[i*2]?=some (ι (nth cF l i).cls)/\(dp l hv)[i*2+1]?=some (nth hv0 hv i)
 | [],_,i,_,h=>by simp at h
 | o::l,[],i,h,_=>by simp at h
 | o::l,v::hv,0,_,_=>by simp [dp,nth]
 | o::l,v::hv,i+1,h,hi=>by
  have:=xr l hv i (by simpa using h) (by simpa using hi)
  have e:(i+1)*2=i*2+1+1:=by omega
  rw [e]
  simpa [dp,nth] using this
theorem Ga {w:World} {base:Nat} {e:TypeId} {size n:Nat} {v:Value} {xs:List Value} (ho:w.ownsRow base e size v n xs) (hn:0<n) :
  ∃gb cap,v=.slice (some ⟨gb,0,none⟩) n cap/\base<=gb/\n<=maxLen/\∀j,j<n*size->w.cell? ⟨gb,j,none⟩=xs[j]?:=by
 rcases ho.2 with ⟨-,h0⟩|⟨gb,cap,cur,rfl,h2,h3,h4,h5,h6,h7⟩
 ·omega
 ·refine ⟨gb,cap,rfl,h2,by omega,fun j hj=>?_⟩
  rw [ab h3,<-h7,List.getElem?_take,if_pos hj]
  simp
theorem kb {B:Nat} {w:World} {vo:Value} {l:List Ob} {hv:List Value} (h:xm B w vo l hv) (hn:0<l.length) :
  ∃gb cap,vo=.slice (some ⟨gb,0,none⟩) l.length cap/\B<=gb/\l.length<=maxLen/\∀i,i<l.length->w.cell? ⟨gb,i*2,none⟩=some (ι (nth cF l i).cls)/\w.cell? ⟨gb,i*2+1,none⟩=some (nth hv0 hv i):=by
 obtain ⟨gb,cap,e,hb,hm,hc⟩:=Ga h.row hn
 refine ⟨gb,cap,e,hb,hm,fun i hi=>?_⟩
 have:=xr l hv i h.len hi
 exact ⟨(hc _ (by omega)).trans this.1,(hc _ (by omega)).trans this.2⟩
abbrev bD (v:Va):Obj:=.cells #[ι v.kind,ι v.n] 62
abbrev Qp (t:Ty):Obj:=.cells #[ι t.kind,ι t.cls] 45
abbrev Yl (t:Ty):Value:=.agg #[ι t.kind,ι t.cls]
theorem ji (w0:World) (g:Ad) (p:Nat) (h:Hp) (v:Va) (t:Ty) (w:World) (hH:Hs w0 g w p h) (hA:bK w0 g.A h.file.classes) (ht:Tree h.file.classes) (oz:v.kind=3->v.n<h.objs.length) :
  χ 57 #[π p 0,jh v,Yl t] w fun e w'=>e=.returned (.bool (h.of v t))/\Hs w0 g w' p h/\Fr w0.heap.size g.T w w'/\Bl w w':=by
 have dX:=hH.base
 have hal:Cf w0.heap.size g.T w ((w.alloc (bD v)).alloc (Qp t)):=((Cf.refl _ _ w).alloc dX _).alloc (by simp;omega) _
 have HF:Θ (Fr w0.heap.size g.T w ((w.alloc (bD v)).alloc (Qp t))):=((Fr.refl _ _ w).alloc dX _).alloc (by simp;omega) _
 have MQ:Θ (Bl w ((w.alloc (bD v)).alloc (Qp t))):=((Bl.refl _).alloc _).alloc _
 obtain ⟨vo,vx,hv,H⟩:=hH
 have HA:Θ (cO w0 g ((w.alloc (bD v)).alloc (Qp t)) p h vo vx hv):=H.cf hal
 have HT:Θ (Tree h.file.classes):=ht
 have HC:Θ (bK ((w.alloc (bD v)).alloc (Qp t)) g.A h.file.classes):=hA.bl HA.o.bl
 have c0:=HA.o.cells.c0
 have c2:=HA.o.cells.c2
 clear H hal hA ht
 by_cases e1:v.kind=t.kind
 ·by_cases e3:t.kind=3
  ·by_cases en:v.n<0
   ·have hr:h.of v t=true:=by unfold Hp.of;rw [decide_eq_true e1,decide_eq_true en];simp
    rw [hr]
    obtain ⟨vk,vn⟩:=v
    obtain ⟨tk,tc⟩:=t
    dsimp only at e1 e3 en
    subst e3
    subst e1
    have d1:decide (vn<0)=true:=decide_eq_true en
    go_enter func57,ntmps57
    go_wp2
    go_quiet (fail)
    go_wp2
    go_ret
    exact ⟨rfl,⟨vo,vx,hv,HA.o.drewN _⟩,HF.o.drewN _,aR MQ.o _⟩
   ·obtain ⟨vk,vn⟩:=v
    obtain ⟨tk,tc⟩:=t
    dsimp only at e1 e3 en oz
    subst e3
    subst e1
    obtain ⟨q,rfl⟩:∃q:Nat,vn=q:=⟨vn.toNat,by omega⟩
    have hq:=oz rfl
    have dI:q<h.objs.length:=by omega
    obtain ⟨gb,cap,nt,-,zd,hc⟩:=kb HA.o.obs (by omega)
    have ho:=(hc q dI).1
    rw [nt] at c2
    unfold maxLen at zd
    have hr:h.of ⟨3,q⟩ ⟨3,tc⟩=(lg h.file.classes (nth cF h.objs q).cls tc&&fJ h.file.classes (nth cF h.objs q).cls.toNat tc.toNat):=by
     unfold Hp.of Hp.obj fu;rw [decide_eq_false en];simp
    rw [hr]
    obtain ⟨R,hR⟩:∃R,(lg h.file.classes (nth cF h.objs q).cls tc&&fJ h.file.classes (nth cF h.objs q).cls.toNat tc.toNat)=R:=⟨_,rfl⟩
    rw [hR]
    have d1:decide ((q:Int)<0)=false:=decide_eq_false en
    have iY:(0:Int)<=(q:Int):=by omega
    have mH:(q:Int)<(h.objs.length:Int):=by omega
    clear hr hc oz nt en
    generalize hX:(nth cF h.objs q).cls=X at *
    clear hX
    go_enter func57,ntmps57
    go_wp2
    go_quiet ((go_at_call 110;exact Calls.quiet_of_same ((fM _ _ _ _ _ _ (HC.o.bl (aR (Bl.refl _) _)) HT.o).mono fun e w' hh=>⟨hh.1.trans (ag hR),hh.2⟩)))
    go_wp2
    go_ret
    exact ⟨rfl,⟨vo,vx,hv,HA.o.drewN _⟩,HF.o.drewN _,aR MQ.o _⟩
  ·have hr:h.of v t=true:=by unfold Hp.of;rw [decide_eq_true e1,decide_eq_true e3];simp
   rw [hr]
   obtain ⟨vk,vn⟩:=v
   obtain ⟨tk,tc⟩:=t
   dsimp only at e1 e3
   subst e1
   have d1:(vk !=3)=true:=by simpa using e3
   clear e3
   go_enter func57,ntmps57
   go_wp2
   go_quiet (fail)
   go_wp2
   go_ret
   exact ⟨rfl,⟨vo,vx,hv,HA.o.drewN _⟩,HF.o.drewN _,aR MQ.o _⟩
 ·have hr:h.of v t=false:=by unfold Hp.of;rw [decide_eq_false e1];rfl
  rw [hr]
  have d1:(v.kind !=t.kind)=true:=by simpa using e1
  clear e1
  go_enter func57,ntmps57
  go_wp2
  go_ret
  exact ⟨rfl,⟨vo,vx,hv,HA.o⟩,HF.o,MQ.o⟩
theorem Gb:(Tryz.prog.info? 2).map (fun i=>(i.zero,i.size,i.bytes))=some (some (ι 0),1,8):=by kernel_rfl
theorem cO.outs {w0 w w2:World} {g:Ad} {p:Nat} {h:Hp} {vo vx:Value} {hv:List Value} (H:cO w0 g w p h vo vx hv) (k:Tk g.T) (hg:w.grownBy w2 vx.ownBlock) {n:Int} {v':Value}
  (ho:w2.ownsRow w0.heap.size 2 1 v' (h.sh.o.length+1) (h.sh.o.map (Value.int .i64)++[ι n])) :
  cO w0 g (w2.setCell ⟨p,9,none⟩ v') p { h with sh:={ h.sh with o:=h.sh.o++[n] } } vo v' hv/\Fr w0.heap.size g.T w (w2.setCell ⟨p,9,none⟩ v'):=by
 have hp:w2.heap[p]?=some (.cells (xl g h vo vx) g.T (0,0)):=cS hg H.o H.blk k.i
 have hbl:=gM hg H.o H.base
 refine ⟨⟨H.own,by rw [ay hp];rfl,Below.setCell (Below.trans H.bl hbl) H.own _,?_,?_⟩,?_⟩
 ·have:=cW (i:=9) ho hp k.i v'
  simpa using this
 ·exact ⟨H.obs.len,cW (jW hg H.o H.obs.row (by decide)) hp k.o _,fun i hi=>cW (jW hg H.o (H.obs.held i hi) (by decide)) hp k.h _,H.obs.apart⟩
 ·refine Fr.set ⟨hbl,fun b cs t f e n=>cS hg H.o e fun ht=>n (ht▸.inr (.inr (.inr rfl)))⟩ hp (.inl rfl) H.own _
theorem Gd (w0:World) (g:Ad) (k:Tk g.T) (p:Nat) (h:Hp) (v:Va) (kd:Int) (w:World) (hH:Hs w0 g w p h) (ho:h.sh.o.length<=60000) :
  χ 114 #[π p 0,jh v,ι kd] w fun e w'=>e=.returned (.tuple #[])/\Hs w0 g w' p (h.emit v kd)/\Fr w0.heap.size g.T w w':=by
 obtain ⟨i0,wC,vl,wD,wE⟩:=info_parts Gb
 have dX:=hH.base
 have HF:Θ (Fr w0.heap.size g.T w (w.alloc (bD v))):=(Fr.refl _ _ w).alloc dX _
 have HH:Θ (Hs w0 g (w.alloc (bD v)) p h):=hH.cf ((Cf.refl _ _ w).alloc dX _)
 have HV:Θ (aC (w.alloc (bD v)) w.heap.size v):=aC.new w v
 clear hH
 cases hm:h.mustB (decide (v.kind=kd))
 ·have hr:h.emit v kd=h.must (decide (v.kind=kd)):=by unfold Hp.emit;rw [if_neg (by rw [hm];decide)]
  rw [hr]
  clear hr
  have hq:(v.kind==kd)=decide (v.kind=kd):=by rw [Bool.eq_iff_iff];simp
  go_enter func114,ntmps114
  go_wp2_with (go_at_call 55;refine (bZ w0 g k p h _ _ HH.o).mono ?_;rintro e w1 ⟨he,h1,f1⟩;rw [hm] at he;subst he)
  go_end0
  exact ⟨rfl,h1,HF.o.trans f1⟩
 ·have hd:decide (v.kind=kd)=true:=by unfold Hp.mustB at hm;simp at hm;simpa using hm.1
  have hk:v.kind=kd:=of_decide_eq_true hd
  have cY:h.over=false:=by unfold Hp.mustB at hm;simp at hm;exact hm.2
  have hr:h.emit v kd={ h with sh:={ h.sh with o:=h.sh.o++[v.n] } }:=by unfold Hp.emit;rw [if_pos hm]
  rw [hr]
  have yD:h.must true=h:=rfl
  have MR:h.mustB true=true:=by unfold Hp.mustB;rw [cY];rfl
  subst hk
  clear hr hd hm cY
  go_enter func114,ntmps114
  go_wp2_with (go_at_call 55;refine (bZ w0 g k p h true _ HH.o).mono ?_;rintro e w1 ⟨he,h1,f1⟩;rw [MR] at he;subst he;have b1:=HV.o.keep k f1;have HB:Θ (aC w1 w.heap.size v):=b1;have r1:=b1.c1;have vm:=af b1.blk;clear b1;obtain ⟨vo,vx,hv,H⟩:=h1;have HA:Θ (cO w0 g w1 p h vo vx hv):=H;have c9:=H.cells.c9;have f9:=H.free 9;have pP:=af H.blk;have hb1:=H.base;clear H)
  have HO:Θ (w1.ownsRow w0.heap.size 2 1 vx h.sh.o.length (h.sh.o.map (Value.int .i64))):=HA.o.o
  go_region_law ((refine step_append_lies _ (by rfl) _ _ _ (by rfl) w0.heap.size 2 i0 _ 1 8 underlying26 wC vl wD wE rfl (by omega) vx h.sh.o.length (h.sh.o.map (Value.int .i64)) (by rfl) ((HO.o.alloc _).drew) ⟨w1.heap.size,0,none⟩ 1 1 [ι v.n] (by rfl) (by rfl) (World.news_of_block (cs:=#[ι v.n]) (t:=2) (fr:=(0,0)) (heap_alloc_new w1 _)) (by simp [Value.oneCell']) (by omega) (by unfold maxLen;omega) (by omega) (by simp;omega) (w1.heap.size+1) (by simp) ?_;intro gg cap w2 jk bO hat hlt;have pF:=cS bO ((HO.o.alloc _).drew) (HA.o.cf (((Cf.refl _ _ w1).alloc hb1 _).drew)).blk k.i;have q9:w2.cell? ⟨p,9,none⟩=some vx:=(ab pF).trans rfl;have z9:=aA pF 9;have dQ:=cS bO ((HO.o.alloc _).drew) (HB.o.keep k (((Fr.refl w0.heap.size _ w1).alloc hb1 _).drew)).blk (by decide);have q1:w2.cell? ⟨w.heap.size,1,none⟩=some (ι v.n):=(ab dQ).trans rfl;clear pF dQ))
  all_goals go_wp2
  all_goals
   go_end0
   have hh:=cO.outs (HA.o.cf (((Cf.refl _ _ w1).alloc hb1 _).drew)) k bO jk
   exact ⟨rfl,⟨vo,_,hv,hh.1⟩,((HF.o.trans f1).trans (((Fr.refl _ _ w1).alloc hb1 _).drew)).trans hh.2⟩
theorem re (l k:List pO):cN (l++k)=cN l++cN k:=by
 induction l with
 | nil=>rfl
 | cons x l ih=>simp [cN,ih]
theorem lJ:∀(l:List Ob) (hv:List Value) (o:Ob) (v:Value),hv.length=l.length->dp (l++[o]) (hv++[v])=dp l hv++[ι o.cls,v]
 | [],[],o,v,_=>rfl
 | [],_::_,_,_,h=>by simp at h
 | _::_,[],_,_,h=>by simp at h
 | a::l,b::hv,o,v,h=>by simp [dp,lJ l hv o v (by simpa using h)]
def dN (cs:List Cl) (c q:Nat):List pO:=(List.range q).flatMap (gL cs c)
def dF (cs:List Cl) (d k:Nat):List pO:=(List.range k).map (fun j=>⟨(d:Nat),(j:Nat),jb (nth bS (nth bL cs d).fields j)⟩)
theorem rj {cs:List Cl} {c q:Nat} (h:fJ cs c q=false):dN cs c (q+1)=dN cs c q:=by
 unfold dN;rw [List.range_succ,List.flatMap_append];simp [gL,h]
theorem tA {cs:List Cl} {c q:Nat} (h:fJ cs c q=true):dN cs c (q+1)=dN cs c q++dF cs q (nth bL cs q).fields.length:=by
 unfold dN dF;rw [List.range_succ,List.flatMap_append];simp [gL,h]
section
variable (cs:List Cl) (d:Nat)
theorem sV:dF cs d 0=[]:=rfl
theorem sW (k:Nat):dF cs d (k+1)=dF cs d k++[⟨(d:Nat),(k:Nat),jb (nth bS (nth bL cs d).fields k)⟩]:=by
 unfold dF;rw [List.range_succ,List.map_append];rfl
theorem kT (k:Nat):(dF cs d k).length=k:=by simp [dF]
end
theorem tB {cs:List Cl} (hf:∀d,d<cs.length->(nth bL cs d).fields.length<=6) (c:Nat):∀q,q<=cs.length->(dN cs c q).length<=6*q
 | 0,_=>by simp [dN]
 | q+1,h=>by
  have h1:=tB hf c q (by omega)
  have h2:=hf q (by omega)
  cases hb:fJ cs c q
  ·rw [rj hb];omega
  ·rw [tA hb,List.length_append,kT];omega
theorem ze (cs:List Cl) (c:Nat):cZ cs c=dN cs c cs.length:=rfl
theorem vA {w w':World} (hb:Bl w w') {base:Nat} {e:TypeId} {size n:Nat} {v:Value} {xs:List Value} (ho:w.ownsRow base e size v n xs):w'.ownsRow base e size v n xs:=by
 refine ⟨ho.1,?_⟩
 rcases ho.2 with h0|⟨gb,cap,cur,h1,h2,h3,h4⟩
 ·exact Or.inl h0
 ·exact Or.inr ⟨gb,cap,cur,h1,h2,(hb.block gb (af h3)).trans h3,h4⟩
theorem cO.old {w0 w w':World} {g:Ad} {p:Nat} {h:Hp} {vo vx:Value} {hv:List Value} (H:cO w0 g w p h vo vx hv) (hb:Bl w w'):cO w0 g w' p h vo vx hv :=
 ⟨H.own,(hb.block p (af H.blk)).trans H.blk,Bl.trans H.bl hb,vA hb H.o,⟨H.obs.len,vA hb H.obs.row,fun i hi=>vA hb (H.obs.held i hi),H.obs.apart⟩⟩
theorem Fr.old {B:Nat} {T:TypeId} {w w':World} (hB:B<=w.heap.size) (hb:Bl w w'):Fr B T w w' :=
 ⟨Below.mono hb hB,fun b _ _ _ e _=>(hb.block b (af e)).trans e⟩
theorem Ge {w:World} {base mC:Nat} {e:TypeId} {size n:Nat} {v:Value} {xs:List Value} (ho:w.ownsRow base e size v n xs) (hb:mC<=base):w.ownsRow mC e size v n xs:=by
 refine ⟨ho.1,?_⟩
 rcases ho.2 with h0|⟨gb,cap,cur,h1,h2,h3,h4⟩
 ·exact Or.inl h0
 ·exact Or.inr ⟨gb,cap,cur,h1,by omega,h3,h4⟩
theorem jR {α:Type} {d:α} {l k:List α} {i:Nat} (h:i<l.length):nth d (l++k) i=nth d l i:=by
 simp [nth,List.getD,List.getElem?_append_left h]
theorem jS {α:Type} {d x:α} {l:List α}:nth d (l++[x]) l.length=x:=by simp [nth,List.getD]
theorem cO.objsAdd {w0 w w2:World} {g:Ad} {p:Nat} {h:Hp} {vo vx:Value} {hv:List Value} (H:cO w0 g w p h vo vx hv) (k:Tk g.T) (hg:w.grownBy w2 vo.ownBlock) {o:Ob} {u v':Value} {S:Nat}
  (ho:w2.ownsRow w0.heap.size 125 2 v' (h.objs.length+1) (dp h.objs hv++[ι o.cls,u]))
  (hu:w.ownsRow S 214 4 u o.held.length (cN o.held)) (hS:w0.heap.size<=S) (hlt:∀i,i<h.objs.length->∀b,(nth hv0 hv i).ownBlock=some b->b<S) :
  cO w0 g (w2.setCell ⟨p,2,none⟩ v') p { h with objs:=h.objs++[o] } v' vx (hv++[u])/\Fr w0.heap.size g.T w (w2.setCell ⟨p,2,none⟩ v'):=by
 have hp:w2.heap[p]?=some (.cells (xl g h vo vx) g.T (0,0)):=cS hg H.obs.row H.blk k.o
 have hbl:=gM hg H.obs.row H.base
 refine ⟨⟨H.own,by rw [ay hp];rfl,Below.setCell (Below.trans H.bl hbl) H.own _,cW (jW hg H.obs.row H.o (by decide)) hp k.i _,?_,?_,?_,?_⟩,?_⟩
 ·simp [H.obs.len]
 ·have:=cW (i:=2) ho hp k.o v'
  rw [lJ _ _ _ _ H.obs.len]
  simpa using this
 ·intro i hi
  simp only [List.length_append,List.length_singleton] at hi
  by_cases hl:i<h.objs.length
  ·rw [jR hl,jR (by rw [H.obs.len];exact hl)]
   exact cW (jW hg H.obs.row (H.obs.held i hl) (by decide)) hp k.h _
  ·obtain rfl:i=h.objs.length:=by omega
   rw [jS]
   have e:nth hv0 (hv++[u]) h.objs.length=u:=by rw [<-H.obs.len];exact jS
   rw [e]
   exact cW (jW hg H.obs.row (Ge hu hS) (by decide)) hp k.h _
 ·have key:∀i,i<h.objs.length->(nth hv0 (hv++[u]) i)=nth hv0 hv i:=fun i hi=>jR (by rw [H.obs.len];exact hi)
  have e:nth hv0 (hv++[u]) h.objs.length=u:=by rw [<-H.obs.len];exact jS
  intro i j hi hj Ym
  simp only [List.length_append,List.length_singleton] at hi hj
  by_cases hl:i<h.objs.length
  ·rw [key i hl]
   by_cases E0:j<h.objs.length
   ·rw [key j E0];exact H.obs.apart i j hl E0 Ym
   ·obtain rfl:j=h.objs.length:=by omega
    rw [e]
    cases PI:(nth hv0 hv i).ownBlock with
    | none=>exact Or.inl rfl
    | some b =>
     right
     intro hc
     have h1:=hlt i hl b PI
     have h2:=(hu.lt b hc.symm).1
     omega
  ·obtain rfl:i=h.objs.length:=by omega
   rw [e,key j (by omega)]
   cases PI:u.ownBlock with
   | none=>exact Or.inl rfl
   | some b =>
    right
    intro hc
    have h1:=hlt j (by omega) b hc.symm
    have h2:=(hu.lt b PI).1
    omega
 ·refine Fr.set ⟨hbl,fun b cs t f e n=>cS hg H.obs.row e fun ht=>n (ht▸.inr (.inl rfl))⟩ hp (.inl rfl) H.own _
theorem Kz:(Tryz.prog.info? 214).map (fun i=>(i.zero,i.size,i.bytes))=some (some (.agg #[ι 0,ι 0,ι 0,ι 0]),4,32):=by kernel_rfl
theorem KB:(Tryz.prog.info? 125).map (fun i=>(i.zero,i.size,i.bytes))=some (some (.agg #[ι 0,.slice none 0 0]),2,32):=by kernel_rfl
abbrev eI:Obj:=.cells #[ι 0,ι 0] 62
structure Mk (w wr:World) (c:Int) (u:Value) (l:List pO):Prop where
 bl:Bl w wr
 res:aC wr w.heap.size aE
 box:wr.heap[w.heap.size+1]?=some (.cells #[ι c,u] 125 (0,0))
 row:wr.ownsRow (w.heap.size+2) 214 4 u l.length (cN l)
section
variable {w wr:World} {c:Int} {u:Value} {l:List pO}
theorem Mk.lt (h:Mk w wr c u l):w.heap.size+1<wr.heap.size:=af h.box
theorem Mk.alloc (h:Mk w wr c u l) (o:Obj):Mk w (wr.alloc o) c u l :=
 ⟨h.bl.alloc o,⟨(Below.heap_alloc _ _ _ (af h.res.blk)).trans h.res.blk⟩,(Below.heap_alloc _ _ _ h.lt).trans h.box,h.row.alloc o⟩
theorem Mk.far (h:Mk w wr c u l) {b i:Nat} {cs:Array Value} {t:TypeId} {f:Nat×Nat} (hb:wr.heap[b]?=some (.cells cs t f)) (ht:t≠214) (h2:w.heap.size+1<b) (v:Value):Mk w (wr.setCell ⟨b,i,none⟩ v) c u l :=
 ⟨h.bl.setCell (by show w.heap.size<=b;omega) v,⟨by rw [ak (by omega)];exact h.res.blk⟩,by rw [ak (by omega)];exact h.box,cW h.row hb ht v⟩
end
theorem Mk.more {w wr w2:World} {c:Int} {u u':Value} {l:List pO} {x:pO} (h:Mk w wr c u l) (hg:wr.grownBy w2 u.ownBlock)
  (ho:w2.ownsRow (w.heap.size+2) 214 4 u' (l.length+1) (cN l++cN [x])):Mk w (w2.setCell ⟨w.heap.size+1,1,none⟩ u') c u' (l++[x]):=by
 have hx:=cS hg h.row h.box (by decide)
 refine ⟨?_,⟨by rw [ak (by omega)];exact cS hg h.row h.res.blk (by decide)⟩,by rw [ay hx];rfl,?_⟩
 ·have hb:Bl w w2:=Below.trans h.bl (Below.mono (gM hg h.row h.lt) (by omega))
  exact hb.setCell (by show w.heap.size<=w.heap.size+1;omega) _
 ·have:=cW (i:=1) ho hx (by decide) u'
  rw [re]
  simpa using this
theorem tC (w6:World) (o o':Obj) (a b c d:Value) (t:TypeId):∀(j:Nat) (u:Value),[a,b,c,d][j]?=some u->(((w6.alloc o).alloc o').alloc (.cells #[a,b,c,d] t)).cell? ((⟨w6.heap.size+1+1,0,none⟩:Addr).add j)=some u:=by
 have h2:((w6.alloc o).alloc o').heap.size=w6.heap.size+1+1:=by rw [World.size_alloc,World.size_alloc]
 intro j u hj
 have hb:=aB ((w6.alloc o).alloc o') #[a,b,c,d] t
 rw [h2] at hb
 rw [show ((⟨w6.heap.size+1+1,0,none⟩:Addr).add j)=⟨w6.heap.size+1+1,j,none⟩ from by simp [Addr.add];intro h;exact h.symm,ab hb]
 simpa using hj
theorem Mk.start (w:World) (c:Int):Mk w ((w.alloc eI).alloc (.cells #[ι c,.slice none 0 0] 125)) c (.slice none 0 0) []:=by
 have h1:(w.alloc eI).heap.size=w.heap.size+1:=World.size_alloc ..
 refine ⟨((Bl.refl w).alloc _).alloc _,⟨?_⟩,?_,World.ownsRow_nil _ _ _ _⟩
 ·rw [Below.heap_alloc _ _ _ (by omega)];exact aB _ _ _
 ·rw [<-h1];exact aB _ _ _
theorem vB (w0:World) (g:Ad) (k:Tk g.T) (p:Nat) (h:Hp) (c:Int) (w:World) (hH:Hs w0 g w p h) (hA:bK w0 g.A h.file.classes) (ht:Tree h.file.classes) (hc:0<=c/\c<h.file.classes.length)
  (hcl:h.file.classes.length<=12) (hf:∀d,d<h.file.classes.length->(nth bL h.file.classes d).fields.length<=6) :
  χ 161 #[π p 0,ι c] w fun e w'=>e=.returned (jh h.newV)/\Hs w0 g w' p (h.new c)/\Fr w0.heap.size g.T w w':=by
 obtain ⟨i0,wC,vl,wD,wE⟩:=info_parts Kz
 obtain ⟨i1,PJ,Yn,Yo,Yp⟩:=info_parts KB
 have dX:=hH.base
 obtain ⟨vo,vx,hv,H⟩:=hH
 have HA:Θ (cO w0 g w p h vo vx hv):=H
 have J6:=af H.blk
 have TG:Θ (Bl w (w.alloc eI)):=(Bl.refl w).alloc _
 have jG:Θ (aC (w.alloc eI) w.heap.size aE):=aC.new w aE
 have c2:=(H.old TG.o).cells.c2
 have HT:Θ (Tree h.file.classes):=ht
 have HC:Θ (bK w g.A h.file.classes):=hA.bl H.bl
 have vC:Θ (∀q,q<=h.file.classes.length->(dN h.file.classes c.toNat q).length<=6*q):=tB hf c.toNat
 have Yq:Θ (∀d,d<h.file.classes.length->(nth bL h.file.classes d).fields.length<=6):=hf
 clear H hA ht hf
 by_cases MS:100<=h.objs.length
 ·have e0:h.full=true:=decide_eq_true MS
  have e1:h.newV=aE:=by unfold Hp.newV;rw [if_pos e0]
  have e2:h.new c=h.fin 4:=by unfold Hp.new;rw [if_pos e0]
  rw [e1,e2]
  clear e0 e1 e2
  obtain ⟨gb,cap,nt,-,zd,-⟩:=kb HA.o.obs (by omega)
  rw [nt] at c2
  unfold maxLen at zd
  go_enter func161,ntmps161
  go_wp2_with (go_at_call 108;refine (nN w0 g k p h 4 _ ⟨vo,vx,hv,HA.o.old TG.o⟩).mono ?_;rintro e w1 ⟨rfl,h1,f1⟩;have b1:=jG.o.keep k f1;have r0:=b1.c0;have r1:=b1.c1;have r2:=b1.fr 0;have r3:=b1.fr 1;have kA:Θ (aC w1 w.heap.size aE):=b1;clear b1)
  (try simp only [Exit.inBlock,Exit.then])
  refine bodyPost_ret (results_cell_row rfl _ _ w.heap.size _ _ _ _ rfl (kA.o.set aE).blk underlying62 rfl bC) rfl ?_
  exact ⟨rfl,h1.cf (kA.o.cf k dX _ _),((((Fr.old dX TG.o).trans f1).new (Nat.le_refl _) dX _).new (Nat.le_refl _) dX _)⟩
 ·have e0:h.full=false:=decide_eq_false MS
  have e1:h.newV=⟨3,(h.objs.length:Nat)⟩:=by unfold Hp.newV;rw [if_neg (by rw [e0];decide)]
  have e2:h.new c={ h with objs:=h.objs++[⟨c,cZ h.file.classes c.toNat⟩] }:=by unfold Hp.new;rw [if_neg (by rw [e0];decide)]
  rw [e1,e2,ze]
  clear e0 e1 e2
  obtain ⟨A0,zg,rfl⟩:∃A0 zg,vo=.slice A0 h.objs.length zg:=by
   rcases HA.o.obs.row.2 with ⟨e,e'⟩|⟨gb,cap,cur,e,-⟩
   ·exact ⟨none,0,by rw [e,e']⟩
   ·exact ⟨_,cap,e⟩
  have dl:decide ((100:Int)<=(h.objs.length:Int))=false:=decide_eq_false (by omega)
  go_enter func161,ntmps161
  go_wp2
  go_loopw [6] (fun i wr=>∃(q:Nat) (u:Value),q<=h.file.classes.length/\i=ι q/\Θ (Mk w wr c u (dN h.file.classes c.toNat q))) (fun i _=>h.file.classes.length-(intOf i).toNat)
  case atStart=>exact ⟨0,.slice none 0 0,Nat.zero_le _,rfl,Mk.start w c⟩
  case round =>
   obtain ⟨q,u,hq,rfl,hM⟩:=hrel
   obtain ⟨w5,kI⟩:∃w5,w5=wr:=⟨wr,rfl⟩
   subst kI
   clear c2
   have c0:=(HA.o.old hM.o.bl).cells.c0
   by_cases dI:q<h.file.classes.length
   ·have vD:=HC.o.bl hM.o.bl
    have Sp:lg h.file.classes c (q:Int)=true:=decide_eq_true (by omega)
    cases hb:fJ h.file.classes c.toNat q
    ·have KC:Θ (Mk w w5 c u (dN h.file.classes c.toNat (q+1))):=by rw [rj hb];exact hM
     have NS:(lg h.file.classes c (q:Int)&&fJ h.file.classes c.toNat (q:Int).toNat)=false:=by rw [Sp,Int.toNat_natCast,hb];rfl
     clear Sp hb hM
     have rp:Θ (bK w5 g.A h.file.classes):=vD
     clear vD
     go_wp2_with (go_at_call 110;refine (fM _ _ _ _ _ _ rp.o HT.o).mono ?_;rintro e w6 ⟨he,Gf⟩;rw [NS] at he;subst he;rw [Gf];clear Gf w6)
     go_roundw
     case rel=>exact ⟨q+1,u,by omega,by go_num,KC⟩
     case measure=>simp [intOf];omega
    ·have V7:Θ (dN h.file.classes c.toNat (q+1)=dN h.file.classes c.toNat q++dF h.file.classes q (nth bL h.file.classes q).fields.length):=tA hb
     have NS:(lg h.file.classes c (q:Int)&&fJ h.file.classes c.toNat (q:Int).toNat)=true:=by rw [Sp,Int.toNat_natCast,hb];rfl
     have rp:Θ (bK w5 g.A h.file.classes):=vD
     clear Sp hb vD
     go_wp2_with (go_at_call 110;refine (fM _ _ _ _ _ _ rp.o HT.o).mono ?_;rintro e w6 ⟨he,Gf⟩;rw [NS] at he;subst he;rw [Gf];clear Gf w6)
     go_loopw [7] (fun i wr=>∃(j:Nat) (u:Value),j<=(nth bL h.file.classes q).fields.length/\i=ι j/\Θ (Mk w wr c u (dN h.file.classes c.toNat q++dF h.file.classes q j))) (fun i _=>(nth bL h.file.classes q).fields.length-(intOf i).toNat)
     case atStart=>exact ⟨0,u,Nat.zero_le _,rfl,by rw [sV,List.append_nil];exact hM⟩
     case round =>
      clear hM c0 rp
      obtain ⟨j,u,hj,rfl,hM⟩:=hrel
      rename World=>w6
      have c0:=(HA.o.old hM.o.bl).cells.c0
      have vD:=HC.o.bl hM.o.bl
      rcases vD.2 with h0|⟨b,off,MT,hcell⟩
      ·omega
      obtain ⟨-,-,A',c',hfl,hty⟩:=hcell q dI
      rw [MT] at c0
      have JE:=hty.1
      have JJ:=vD.1
      unfold maxLen at JE JJ
      by_cases ij:j<(nth bL h.file.classes q).fields.length
      ·rcases hty.2 with h0|⟨b',iO,V8,htc⟩
       ·omega
       obtain ⟨t1,t2,-,-⟩:=htc j ij
       rw [V8] at hfl
       have hlen:=vC.o q (by omega)
       have Yr:=Yq.o q dI
       have MU:=hM.o.lt
       have hln:(dN h.file.classes c.toNat q++dF h.file.classes q j).length<=78:=by rw [List.length_append,kT];omega
       have V9:Θ (dF h.file.classes q (j+1)=dF h.file.classes q j++[⟨(q:Nat),(j:Nat),jb (nth bS (nth bL h.file.classes q).fields j)⟩]):=sW _ _ _
       have hj0:(0:Int)<=(j:Int):=by omega
       have hj1:(j:Int)<((nth bL h.file.classes q).fields.length:Int):=by omega
       have mH:(q:Int)<(h.file.classes.length:Int):=by omega
       generalize hT:nth bS (nth bL h.file.classes q).fields j=t at *
       generalize hL:dN h.file.classes c.toNat q++dF h.file.classes q j=L at *
       have Wa:Θ (dN h.file.classes c.toNat q++dF h.file.classes q j=L):=hL
       have hne:w.heap.size≠w6.heap.size:=by omega
       have Ys:∀o o',((w6.alloc o).alloc o').cell? ⟨w.heap.size+1,1,none⟩=some u:=fun o o'=>by rw [ab ((hM.o.alloc o).alloc o').box];rfl
       clear hcell hty vD htc hT hL V8 MT
       by_cases pZ:t.kind=3
       ·have TH:Θ (jb t=⟨3,-1⟩):=by unfold jb;rw [if_pos pZ,pZ];rfl
        rw [pZ] at t1
        clear pZ
        have M4:Θ (Mk w (((w6.alloc (.cells #[ι 3,ι t.cls] 45)).alloc (.cells #[ι 3,ι (-1)] 62)).alloc (.cells #[ι (q:Int),ι (j:Int),ι 3,ι (-1)] 214)) c u L):=((hM.o.alloc _).alloc _).alloc _
        have TI:Θ (∀(i:Nat) (x:Value),[Value.int .i64 (q:Int),ι (j:Int),ι 3,ι (-1)][i]?=some x->(((w6.alloc (.cells #[ι 3,ι t.cls] 45)).alloc (.cells #[ι 3,ι (-1)] 62)).alloc (.cells #[ι (q:Int),ι (j:Int),ι 3,ι (-1)] 214)).cell? ((⟨w6.heap.size+1+1,0,none⟩:Addr).add i)=some x):=tC w6 _ _ _ _ _ _ _
        clear hM
        go_wp2_with (at_builtin;refine wpList_append_lies _ rfl (.tmp 74) (.tmp 79) 123 rfl (w.heap.size+2) 214 i0 _ 4 32 underlying123 wC vl wD wE rfl (by omega) u L.length (cN L) (by rfl) (by exact M4.o.row) ⟨w6.heap.size+1+1,0,none⟩ 1 1 [ι (q:Int),ι (j:Int),ι 3,ι (-1)] (by rfl) (by rfl) (by exact TI.o) (by simp [Value.oneCell']) (by omega) (by unfold maxLen;omega) (by omega) (by simp;omega) (w6.heap.size+1+1+1) (by simp) ?_;intro gg cap w7 jk bO hat hlt;have NT:=cS bO M4.o.row M4.o.box (by decide);have q7:w7.cell? ⟨w.heap.size+1,1,none⟩=some u:=(ab NT).trans rfl;have z7:=aA NT 1;clear NT)
        go_roundw
        case rel=>exact ⟨j+1,_,by omega,by go_num,by
         rw [V9.o,<-List.append_assoc,Wa.o]
         have:=M4.o.more (x:=⟨(q:Int),(j:Int),⟨3,(-1)⟩⟩) bO jk
         rw [TH.o]
         exact this⟩
        case measure=>simp [intOf];omega
       ·have TH:Θ (jb t=⟨t.kind,0⟩):=by unfold jb;rw [if_neg pZ];rfl
        have k3:(t.kind==3)=false:=by simpa using pZ
        clear pZ
        have M4:Θ (Mk w (((w6.alloc (.cells #[ι t.kind,ι t.cls] 45)).alloc (.cells #[ι t.kind,ι 0] 62)).alloc (.cells #[ι (q:Int),ι (j:Int),ι t.kind,ι 0] 214)) c u L):=((hM.o.alloc _).alloc _).alloc _
        have TI:Θ (∀(i:Nat) (x:Value),[Value.int .i64 (q:Int),ι (j:Int),ι t.kind,ι 0][i]?=some x->(((w6.alloc (.cells #[ι t.kind,ι t.cls] 45)).alloc (.cells #[ι t.kind,ι 0] 62)).alloc (.cells #[ι (q:Int),ι (j:Int),ι t.kind,ι 0] 214)).cell? ((⟨w6.heap.size+1+1,0,none⟩:Addr).add i)=some x):=tC w6 _ _ _ _ _ _ _
        clear hM
        go_wp2_with (at_builtin;refine wpList_append_lies _ rfl (.tmp 74) (.tmp 79) 123 rfl (w.heap.size+2) 214 i0 _ 4 32 underlying123 wC vl wD wE rfl (by omega) u L.length (cN L) (by rfl) (by exact M4.o.row) ⟨w6.heap.size+1+1,0,none⟩ 1 1 [ι (q:Int),ι (j:Int),ι t.kind,ι 0] (by rfl) (by rfl) (by exact TI.o) (by simp [Value.oneCell']) (by omega) (by unfold maxLen;omega) (by omega) (by simp;omega) (w6.heap.size+1+1+1) (by simp) ?_;intro gg cap w7 jk bO hat hlt;have NT:=cS bO M4.o.row M4.o.box (by decide);have q7:w7.cell? ⟨w.heap.size+1,1,none⟩=some u:=(ab NT).trans rfl;have z7:=aA NT 1;clear NT)
        go_roundw
        case rel=>exact ⟨j+1,_,by omega,by go_num,by
         rw [V9.o,<-List.append_assoc,Wa.o]
         have:=M4.o.more (x:=⟨(q:Int),(j:Int),⟨t.kind,0⟩⟩) bO jk
         rw [TH.o]
         exact this⟩
        case measure=>simp [intOf];omega
      ·obtain rfl:j=(nth bL h.file.classes q).fields.length:=by omega
       have KC:Θ (Mk w w6 c u (dN h.file.classes c.toNat (q+1))):=by rw [V7.o];exact hM
       clear hM hcell hty vD V7
       go_wp2
       go_roundw
       case rel=>exact ⟨q+1,u,by omega,by go_num,KC⟩
       case measure=>simp [intOf];omega
   ·obtain rfl:q=h.file.classes.length:=by omega
    have c2:=(HA.o.old hM.o.bl).cells.c2
    have f2:=(HA.o.old hM.o.bl).free 2
    have Qq:Θ (w5.ownsRow w0.heap.size 125 2 (.slice A0 h.objs.length zg) h.objs.length (dp h.objs hv)):=(HA.o.old hM.o.bl).obs.row
    have x0:w5.cell? ⟨w.heap.size+1,0,none⟩=some (ι c):=by rw [ab hM.o.box];rfl
    have x1:w5.cell? ⟨w.heap.size+1,1,none⟩=some u:=by rw [ab hM.o.box];rfl
    have hl5:=hM.o.lt
    have TJ:u.oneCell'=true:=by
     rcases hM.o.row.2 with ⟨rfl,-⟩|⟨gb,cap,cur,rfl,-⟩<;>rfl
    have PK:w0.heap.size<=w5.heap.size:=by omega
    have Yt:p<w5.heap.size:=by omega
    have qc2:∀o,(w5.alloc o).cell? ⟨p,2,none⟩=some (.slice A0 h.objs.length zg):=fun o=>((Bl.refl w5).alloc o).cell c2
    have Qr:w.heap.size≠p:=by omega
    have NM:p≠w.heap.size:=by omega
    have NU:Θ (Bl w (w5.alloc (.cells #[ι c,u] 125)).drew):=(hM.o.bl.alloc _).drew
    have TL:Θ ((w5.alloc (.cells #[ι c,u] 125)).drew.ownsRow w0.heap.size 125 2 (.slice A0 h.objs.length zg) h.objs.length (dp h.objs hv)):=(Qq.o.alloc _).drew
    have Yv:Θ (aC (w5.alloc (.cells #[ι c,u] 125)).drew w.heap.size aE):=⟨(hM.o.alloc _).res.blk⟩
    have Yw:Θ ((w5.alloc (.cells #[ι c,u] 125)).drew.ownsRow (w.heap.size+2) 214 4 u (dN h.file.classes c.toNat h.file.classes.length).length (cN (dN h.file.classes c.toNat h.file.classes.length))):=(hM.o.row.alloc _).drew
    have Yx:Θ (∀i,i<h.objs.length->∀b,(nth hv0 hv i).ownBlock=some b->b<w.heap.size+2):=fun i hi b hb=>by have:=((HA.o.obs.held i hi).lt b hb).2;omega
    clear hM Qq
    go_wp2
    go_region_law ((refine step_append_lies _ (by rfl) _ _ _ (by rfl) w0.heap.size 125 i1 _ 2 32 underlying72 PJ Yn Yo Yp rfl (by omega) (.slice A0 h.objs.length zg) h.objs.length (dp h.objs hv) (by rfl) (by exact TL.o) ⟨w5.heap.size,0,none⟩ 1 1 [ι c,u] (by rfl) (by rfl) (World.news_of_block (cs:=#[ι c,u]) (t:=125) (fr:=(0,0)) (heap_alloc_new w5 _)) (by simp [TJ];rfl) (by omega) (by unfold maxLen;omega) (by omega) (by simp;omega) (w5.heap.size+1) (by simp) ?_;intro gg cap w7 jk bO hat hlt;have pF:=cS bO TL.o (HA.o.old NU.o).blk k.o;have q2:w7.cell? ⟨p,2,none⟩=some (.slice A0 h.objs.length zg):=(ab pF).trans rfl;have z2:=aA pF 2;have nM:=cS bO TL.o Yv.o.blk (by decide);have s0:w7.cell? ⟨w.heap.size,0,none⟩=some (ι 0):=(ab nM).trans rfl;have s1:w7.cell? ⟨w.heap.size,1,none⟩=some (ι 0):=(ab nM).trans rfl;have s2:=aA nM 0;have s3:=aA nM 1;have Yy:Θ (aC w7 w.heap.size aE):=⟨nM⟩;clear pF nM))
    all_goals go_wp2
    all_goals
     (try simp only [Exit.inBlock,Exit.then])
     have hh:=cO.objsAdd (HA.o.old NU.o) k bO (o:=⟨c,dN h.file.classes c.toNat h.file.classes.length⟩) jk Yw.o (by omega) Yx.o
     have Wb:aC (w7.setCell ⟨p,2,none⟩ (.slice (some ⟨gg,0,none⟩) (h.objs.length+1) cap)) w.heap.size aE:=⟨by rw [ak Qr];exact Yy.o.blk⟩
     refine bodyPost_ret (results_cell_row rfl _ _ w.heap.size _ _ _ _ rfl (Wb.set ⟨3,(h.objs.length:Nat)⟩).blk underlying62 rfl bC) rfl ?_
     exact ⟨rfl,⟨_,vx,_,hh.1.cf (Wb.cf k dX _ _)⟩,((((Fr.old dX NU.o).trans hh.2).new (Nat.le_refl _) dX _).new (Nat.le_refl _) dX _)⟩
structure Cw (w0:World) (g:Ad) (h:Hp):Prop where
 k:Tk g.T
 cls:bK w0 g.A h.file.classes
 tree:Tree h.file.classes
 ge:4<=h.file.classes.length
 le:h.file.classes.length<=12
 fl:∀d,d<h.file.classes.length->(nth bL h.file.classes d).fields.length<=6
section
variable (w0:World) (g:Ad) (p:Nat) (h:Hp)
theorem kg (c:Int) (w:World) (hH:Hs w0 g w p h) (C:Cw w0 g h) (hc:0<=c/\c<4) :
  χ 157 #[π p 0,ι c] w fun e w'=>e=.returned (.tuple #[])/\Hs w0 g w' p (h.raise c)/\Fr w0.heap.size g.T w w':=by
 have HH:Θ (Hs w0 g w p h):=hH
 have HC:Θ (Cw w0 g h):=C
 have hlen:=C.ge
 clear hH C
 generalize hV:h.newV=v
 have hr:h.raise c=if (h.new c).over=true then h.new c else { h.new c with thrown:=v.n }:=by unfold Hp.raise;rw [hV]
 rw [hr]
 cases ho:(h.new c).over
 ·rw [if_neg (by decide)]
  clear hr
  go_enter func157,ntmps157
  go_wp2_with (go_at_call 161;refine (vB w0 g HC.o.k p h c _ HH.o HC.o.cls HC.o.tree (by omega) HC.o.le HC.o.fl).mono ?_;rintro e w1 ⟨he,h1,f1⟩;rw [hV] at he;subst he;have hb1:=h1.base;obtain ⟨vo,vx,hv,H⟩:=h1.cf ((Cf.refl _ _ w1).alloc hb1 (bD v));have c12:=H.cells.c12;have f13:=H.free 13;rw [ho] at c12;have c13:=H.cells.c13;have HA:Θ (cO w0 g (w1.alloc (bD v)) p (h.new c) vo vx hv):=H;have pP:=af H.blk;clear H h1)
  go_end0
  exact ⟨rfl,⟨vo,vx,hv,HA.o.set HC.o.k { h.new c with thrown:=v.n } rfl rfl rfl⟩,(f1.alloc hb1 _).trans (HA.o.frSet 13 _)⟩
 ·rw [if_pos rfl]
  clear hr
  go_enter func157,ntmps157
  go_wp2_with (go_at_call 161;refine (vB w0 g HC.o.k p h c _ HH.o HC.o.cls HC.o.tree (by omega) HC.o.le HC.o.fl).mono ?_;rintro e w1 ⟨he,h1,f1⟩;rw [hV] at he;subst he;have hb1:=h1.base;obtain ⟨vo,vx,hv,H⟩:=h1.cf ((Cf.refl _ _ w1).alloc hb1 (bD v));have c12:=H.cells.c12;rw [ho] at c12;have HA:Θ (cO w0 g (w1.alloc (bD v)) p (h.new c) vo vx hv):=H;clear H h1)
  go_end0
  exact ⟨rfl,⟨vo,vx,hv,HA.o⟩,f1.alloc hb1 _⟩
theorem Da (v:Va) (w:World) (hH:Hs w0 g w p h) (C:Cw w0 g h) :
  χ 113 #[π p 0,jh v] w fun e w'=>e=.returned (.tuple #[])/\Hs w0 g w' p (h.throw v)/\Fr w0.heap.size g.T w w':=by
 have dX:=hH.base
 have HF:Θ (Fr w0.heap.size g.T w (w.alloc (bD v))):=(Fr.refl _ _ w).alloc dX _
 have HH:Θ (Hs w0 g (w.alloc (bD v)) p h):=hH.cf ((Cf.refl _ _ w).alloc dX _)
 have HV:Θ (aC (w.alloc (bD v)) w.heap.size v):=aC.new w v
 have HC:Θ (Cw w0 g h):=C
 have hk:(v.kind==3)=isRef v:=by unfold isRef;rw [Bool.eq_iff_iff];simp
 clear hH C
 cases hm:h.mustB (isRef v)
 ·have hr:h.throw v=h.must (isRef v):=by unfold Hp.throw;rw [if_neg (by rw [hm];decide)]
  rw [hr]
  clear hr
  go_enter func113,ntmps113
  go_wp2_with (go_at_call 55;refine (bZ w0 g HC.o.k p h _ _ HH.o).mono ?_;rintro e w1 ⟨he,h1,f1⟩;rw [hm] at he;subst he)
  (try simp only [Exit.inBlock,Exit.then])
  first|exact bodyPost_ret (results_none rfl _ _ _) rfl ⟨rfl,h1,HF.o.trans f1⟩|(go_end0;exact ⟨rfl,h1,HF.o.trans f1⟩)
 ·obtain ⟨hb,cY,yD⟩:=dE hm
  by_cases hn:v.n<0
  ·have hr:h.throw v=h.raise 1:=by unfold Hp.throw;rw [if_pos hm,if_pos hn]
   rw [hr]
   clear hr cY hb
   have vE:Θ (h.must (isRef v)=h):=yD
   clear yD
   go_enter func113,ntmps113
   go_wp2_with (first
    | (go_at_call 55;refine (bZ w0 g HC.o.k p h _ _ HH.o).mono ?_;rintro e w1 ⟨he,h1,f1⟩;rw [hm] at he;subst he;rw [vE.o] at h1;have r1:=(HV.o.keep HC.o.k f1).c1)
    | (go_at_call 157;refine (kg w0 g p h 1 _ h1 HC.o (by omega)).mono ?_;rintro e w2 ⟨rfl,h2,f2⟩))
   (try simp only [Exit.inBlock,Exit.then])
   first|exact bodyPost_ret (results_none rfl _ _ _) rfl ⟨rfl,h2,(HF.o.trans f1).trans f2⟩|(go_end0;exact ⟨rfl,h2,(HF.o.trans f1).trans f2⟩)
  ·have hr:h.throw v={ h with thrown:=v.n }:=by unfold Hp.throw;rw [if_pos hm,if_neg hn]
   rw [hr]
   clear hr cY hb
   have vE:Θ (h.must (isRef v)=h):=yD
   clear yD
   go_enter func113,ntmps113
   go_wp2_with (go_at_call 55;refine (bZ w0 g HC.o.k p h _ _ HH.o).mono ?_;rintro e w1 ⟨he,h1,f1⟩;rw [hm] at he;subst he;rw [vE.o] at h1;have r1:=(HV.o.keep HC.o.k f1).c1;obtain ⟨vo,vx,hv,H⟩:=h1;have f13:=H.free 13;have c13:=H.cells.c13;have HA:Θ (cO w0 g w1 p h vo vx hv):=H;clear H)
   (try simp only [Exit.inBlock,Exit.then])
   first|exact bodyPost_ret (results_none rfl _ _ _) rfl ⟨rfl,⟨vo,vx,hv,HA.o.set HC.o.k { h with thrown:=v.n } rfl rfl rfl⟩,(HF.o.trans f1).trans (HA.o.frSet 13 _)⟩|(go_end0;exact ⟨rfl,⟨vo,vx,hv,HA.o.set HC.o.k { h with thrown:=v.n } rfl rfl rfl⟩,(HF.o.trans f1).trans (HA.o.frSet 13 _)⟩)
end
theorem Gg {P:Nat->Prop} {q:Nat} (h:∀j,j<q->P j) (hq:P q):∀j,j<q+1->P j:=fun j hj=>by
 by_cases hj':j<q
 ·exact h j hj'
 ·have:j=q:=by omega
  subst this;exact hq
def oK (c k:Int) (x:pO):Bool:=decide (x.cls=c/\x.fld=k)
theorem vF {l:List pO} {c k:Int} {q:Nat} (hq:q<l.length) (h:∀j,j<q->oK c k (nth cE l j)=false) (hx:oK c k (nth cE l q)=true):eB l c k=(q:Nat):=by
 have:l.findIdx? (fun x=>decide (x.cls=c/\x.fld=k))=some q:=by
  rw [List.findIdx?_eq_some_iff_getElem]
  refine ⟨hq,by rw [cg hq] at hx;exact hx,fun j hj=>?_⟩
  have:=h j hj
  rw [cg (by omega)] at this
  unfold oK at this
  rw [this];decide
 unfold eB;rw [this]
theorem xv {l:List pO} {c k:Int} (h:∀j,j<l.length->oK c k (nth cE l j)=false):eB l c k=-1:=by
 have:l.findIdx? (fun x=>decide (x.cls=c/\x.fld=k))=none:=by
  rw [List.findIdx?_eq_none_iff]
  intro x hx
  obtain ⟨j,hj,rfl⟩:=List.getElem_of_mem hx
  have:=h j hj
  rw [cg hj] at this
  exact this
 unfold eB;rw [this]
theorem xw:∀(l:List pO) (j:Nat),j<l.length->(cN l)[j*4]?=some (ι (nth cE l j).cls)/\(cN l)[j*4+1]?=some (ι (nth cE l j).fld)/\(cN l)[j*4+2]?=some (ι (nth cE l j).v.kind)/\(cN l)[j*4+3]?=some (ι (nth cE l j).v.n)
 | [],j,h=>by simp at h
 | x::l,0,_=>by simp [cN,nth]
 | x::l,j+1,h=>by
  have:=xw l j (by simpa using h)
  have e:(j+1)*4=j*4+1+1+1+1:=by omega
  rw [e]
  simpa [cN,nth] using this
theorem mR {w0 w:World} {g:Ad} {p:Nat} {h:Hp} {vo vx:Value} {hv:List Value} (H:cO w0 g w p h vo vx hv) {n:Nat} (hn:n<h.objs.length) :
  ∃gb cap U uc,vo=.slice (some ⟨gb,0,none⟩) h.objs.length cap/\h.objs.length<=maxLen/\w.cell? ⟨gb,n*2,none⟩=some (ι (nth cF h.objs n).cls)/\w.cell? ⟨gb,n*2+1,none⟩=some (.slice U (nth cF h.objs n).held.length uc)
   /\ (nth hv0 hv n)=.slice U (nth cF h.objs n).held.length uc/\(nth cF h.objs n).held.length<=maxLen/\((nth cF h.objs n).held.length=0∨∃hb,U=some ⟨hb,0,none⟩/\(∀i,w.frozen? ⟨hb,i,none⟩=false)/\∀j,j<(nth cF h.objs n).held.length ->
    w.cell? ⟨hb,j*4,none⟩=some (ι (nth cE (nth cF h.objs n).held j).cls)/\w.cell? ⟨hb,j*4+1,none⟩=some (ι (nth cE (nth cF h.objs n).held j).fld)
    /\ w.cell? ⟨hb,j*4+2,none⟩=some (ι (nth cE (nth cF h.objs n).held j).v.kind)/\w.cell? ⟨hb,j*4+3,none⟩=some (ι (nth cE (nth cF h.objs n).held j).v.n)):=by
 obtain ⟨gb,cap,nt,-,hm,hc⟩:=kb H.obs (by omega)
 have hh:=H.obs.held n hn
 obtain ⟨c1,c2⟩:=hc n hn
 rcases hh.2 with ⟨e,e0⟩|⟨hb,uc,cur,e,h2,h3,h4,h5,h6,h7⟩
 ·rw [e] at c2
  exact ⟨gb,cap,none,0,nt,hm,c1,by rw [c2,e0],by rw [e,e0],by rw [e0];exact Nat.zero_le _,Or.inl e0⟩
 ·rw [e] at c2
  refine ⟨gb,cap,_,uc,nt,hm,c1,c2,e,by omega,Or.inr ⟨hb,rfl,fun i=>aA h3 i,fun j hj=>?_⟩⟩
  have hx:=xw _ j hj
  have key:∀i,i<(nth cF h.objs n).held.length*4->w.cell? ⟨hb,i,none⟩=(cN (nth cF h.objs n).held)[i]?:=fun i hi=>by
   rw [ab h3,<-h7,List.getElem?_take,if_pos hi];simp
  exact ⟨(key _ (by omega)).trans hx.1,(key _ (by omega)).trans hx.2.1,(key _ (by omega)).trans hx.2.2.1,(key _ (by omega)).trans hx.2.2.2⟩
theorem nO (w0:World) (g:Ad) (p:Nat) (h:Hp) (r:Va) (c f:Int) (w:World) (hH:Hs w0 g w p h) (C:Cw w0 g h) (zh:r.kind=3->r.n<h.objs.length) :
  χ 158 #[π p 0,jh r,ι c,ι f] w fun e w'=>e=.returned (ι (h.findN r c f))/\Hs w0 g w' p (h.findH r c)/\Fr w0.heap.size g.T w w':=by
 have dX:=hH.base
 have HF:Θ (Fr w0.heap.size g.T w (w.alloc (bD r))):=(Fr.refl _ _ w).alloc dX _
 have HH:Θ (Hs w0 g (w.alloc (bD r)) p h):=hH.cf ((Cf.refl _ _ w).alloc dX _)
 have HV:Θ (aC (w.alloc (bD r)) w.heap.size r):=aC.new w r
 have HC:Θ (Cw w0 g h):=C
 have yE:Θ (r.kind=3->r.n<h.objs.length):=zh
 clear hH C zh
 obtain ⟨O,hO⟩:∃O,h.of r ⟨3,c⟩=O:=⟨_,rfl⟩
 cases hm:h.mustB O
 ·have e1:h.findN r c f=-1:=by unfold Hp.findN;rw [hO,if_neg (by rw [hm];decide)]
  have e2:h.findH r c=h.must O:=by unfold Hp.findH;rw [hO,if_neg (by rw [hm];decide)]
  rw [e1,e2]
  clear e1 e2
  go_enter func158,ntmps158
  go_wp2_with (first
   | (go_at_call 57;refine (ji w0 g p h r ⟨3,c⟩ _ HH.o HC.o.cls HC.o.tree yE.o).mono ?_;rintro e w1 ⟨he,h1,f1,-⟩;rw [hO] at he;subst he)
   | (go_at_call 55;refine (bZ w0 g HC.o.k p h O _ h1).mono ?_;rintro e w2 ⟨he,h2,f2⟩;rw [hm] at he;subst he))
  go_ret
  exact ⟨rfl,h2,(HF.o.trans f1).trans f2⟩
 ·obtain ⟨rfl,cY,yD⟩:=dE hm
  have Db:=kD hO
  have PM:=yE.o Db
  have vE:Θ (h.must true=h):=yD
  clear yD cY
  by_cases hn:r.n<0
  ·have e1:h.findN r c f=-1:=by unfold Hp.findN;rw [hO,if_pos hm,if_pos hn]
   have e2:h.findH r c=h.raise 1:=by unfold Hp.findH;rw [hO,if_pos hm,if_pos hn]
   rw [e1,e2]
   clear e1 e2 Db
   go_enter func158,ntmps158
   go_wp2_with (first
    | (go_at_call 57;refine (ji w0 g p h r ⟨3,c⟩ _ HH.o HC.o.cls HC.o.tree yE.o).mono ?_;rintro e w1 ⟨he,h1,f1,-⟩;rw [hO] at he;subst he)
    | (go_at_call 55;refine (bZ w0 g HC.o.k p h true _ h1).mono ?_;rintro e w2 ⟨he,h2,f2⟩;rw [hm] at he;subst he;rw [vE.o] at h2;have r1:=((HV.o.keep HC.o.k f1).keep HC.o.k f2).c1)
    | (go_at_call 157;refine (kg w0 g p h 1 _ h2 HC.o (by omega)).mono ?_;rintro e w3 ⟨rfl,h3,f3⟩))
   go_ret
   exact ⟨rfl,h3,((HF.o.trans f1).trans f2).trans f3⟩
  ·have e1:h.findN r c f=eB (nth cF h.objs r.n.toNat).held c f:=by unfold Hp.findN;rw [hO,if_pos hm,if_neg hn];rfl
   have e2:h.findH r c=h:=by unfold Hp.findH;rw [hO,if_pos hm,if_neg hn]
   rw [e1,e2]
   clear e1 e2 Db
   obtain ⟨rk,rn⟩:=r
   dsimp only at *
   obtain ⟨n,rfl⟩:∃n:Nat,rn=n:=⟨rn.toNat,by omega⟩
   rw [Int.toNat_natCast]
   have pE:n<h.objs.length:=by omega
   have iw:(0:Int)<=(n:Int):=by omega
   have fT:(n:Int)<(h.objs.length:Int):=by omega
   have Wc:Θ (∀q,q<(nth cF h.objs n).held.length->(∀j,j<q->oK c f (nth cE (nth cF h.objs n).held j)=false)->oK c f (nth cE (nth cF h.objs n).held q)=true->eB (nth cF h.objs n).held c f=(q:Nat)):=fun q=>vF
   have Wd:Θ ((∀j,j<(nth cF h.objs n).held.length->oK c f (nth cE (nth cF h.objs n).held j)=false)->eB (nth cF h.objs n).held c f=-1):=xv
   obtain ⟨R,hR⟩:∃R,eB (nth cF h.objs n).held c f=R:=⟨_,rfl⟩
   rw [hR] at Wc Wd ⊢
   clear hR hn
   go_enter func158,ntmps158
   go_wp2_with (first
    | (go_at_call 57;refine (ji w0 g p h ⟨rk,n⟩ ⟨3,c⟩ _ HH.o HC.o.cls HC.o.tree yE.o).mono ?_;rintro e w1 ⟨he,h1,f1,-⟩;rw [hO] at he;subst he)
    | (go_at_call 55;refine (bZ w0 g HC.o.k p h true _ h1).mono ?_;rintro e w2 ⟨he,h2,f2⟩;rw [hm] at he;subst he;rw [vE.o] at h2;have r1:=((HV.o.keep HC.o.k f1).keep HC.o.k f2).c1;obtain ⟨vo,vx,hv,H⟩:=h2;have HA:Θ (cO w0 g w2 p h vo vx hv):=H;obtain ⟨gb,cap,U,uc,nt,zd,o1,o2,hu,Qs,xy⟩:=mR H pE;have c2:=H.cells.c2;rw [nt] at c2;clear H nt hu;unfold maxLen at zd Qs))
   go_quiet (fail)
   go_wp2
   go_loop [10] (fun i=>∃q:Nat,q<=(nth cF h.objs n).held.length/\i=ι q/\Θ (∀j,j<q->oK c f (nth cE (nth cF h.objs n).held j)=false)) (fun i=>(nth cF h.objs n).held.length-(intOf i).toNat)
   case atStart=>exact ⟨0,Nat.zero_le _,rfl,fun j hj=>absurd hj (Nat.not_lt_zero _)⟩
   case round =>
    obtain ⟨q,hq,rfl,lq⟩:=hrel
    by_cases dI:q<(nth cF h.objs n).held.length
    ·rcases xy with h0|⟨hb,rfl,-,hcell⟩
     ·omega
     obtain ⟨x0,x1,-,-⟩:=hcell q dI
     have HX:=Wc.o q dI lq.o
     have Yz:Θ (oK c f (nth cE (nth cF h.objs n).held q)=true->R=(q:Nat)):=HX
     clear hcell HX
     have Gi:oK c f (nth cE (nth cF h.objs n).held q)=decide ((nth cE (nth cF h.objs n).held q).cls=c/\(nth cE (nth cF h.objs n).held q).fld=f):=rfl
     have vG:Θ (oK c f (nth cE (nth cF h.objs n).held q)=decide ((nth cE (nth cF h.objs n).held q).cls=c/\(nth cE (nth cF h.objs n).held q).fld=f)):=Gi
     clear Gi
     by_cases a1:(nth cE (nth cF h.objs n).held q).cls=c
     ·have d1:((nth cE (nth cF h.objs n).held q).cls==c)=true:=by simpa using a1
      by_cases a2:(nth cE (nth cF h.objs n).held q).fld=f
      ·have d2:((nth cE (nth cF h.objs n).held q).fld==f)=true:=by simpa using a2
       have TM:Θ (R=(q:Nat)):=Yz.o (by rw [vG.o,decide_eq_true ⟨a1,a2⟩])
       clear a1 a2
       go_wp2
       go_ret
       exact ⟨lZ TM.o.symm,⟨vo,vx,hv,HA.o.drewN _⟩,(((HF.o.trans f1).trans f2)).drewN _⟩
      ·have d2:((nth cE (nth cF h.objs n).held q).fld==f)=false:=by simpa using a2
       have HN:Θ (oK c f (nth cE (nth cF h.objs n).held q)=false):=by rw [vG.o,decide_eq_false (fun z=>a2 z.2)];rfl
       clear a1 a2
       go_wp2
       go_round
       case rel=>exact ⟨q+1,by omega,by go_num,Gg lq.o HN.o⟩
       case measure=>simp [intOf];omega
     ·have d1:((nth cE (nth cF h.objs n).held q).cls==c)=false:=by simpa using a1
      have HN:Θ (oK c f (nth cE (nth cF h.objs n).held q)=false):=by rw [vG.o,decide_eq_false (fun z=>a1 z.1)];rfl
      clear a1
      go_wp2
      go_round
      case rel=>exact ⟨q+1,by omega,by go_num,Gg lq.o HN.o⟩
      case measure=>simp [intOf];omega
    ·obtain rfl:q=(nth cF h.objs n).held.length:=by omega
     have TM:Θ (R=-1):=Wd.o lq.o
     go_wp2
     go_ret
     exact ⟨lZ TM.o.symm,⟨vo,vx,hv,HA.o.drewN _⟩,(((HF.o.trans f1).trans f2)).drewN _⟩
theorem xz {h:Hp} {r:Va} {c f:Int} (zh:r.kind=3->r.n<h.objs.length) (hp:¬h.findN r c f<0) :
  h.findH r c=h/\r.kind=3/\∃n q:Nat,r.n=n/\n<h.objs.length/\h.findN r c f=q/\q<(nth cF h.objs n).held.length:=by
 unfold Hp.findN at hp
 by_cases hm:h.mustB (h.of r ⟨3,c⟩)=true
 ·rw [if_pos hm] at hp
  by_cases hn:r.n<0
  ·rw [if_pos hn] at hp;omega
  ·rw [if_neg hn] at hp
   have hk:=kD (dE hm).1
   have hl:=zh hk
   rcases th (h.obj r.n).held c f with h1|⟨q,hq,h1⟩
   ·rw [h1] at hp;omega
   ·refine ⟨by unfold Hp.findH;rw [if_pos hm,if_neg hn],hk,r.n.toNat,q,by omega,by omega,by unfold Hp.findN;rw [if_pos hm,if_neg hn];exact h1,hq⟩
 ·rw [if_neg hm] at hp;omega
theorem iQ (w:World) (v u:Va):aC ((w.alloc (bD v)).alloc (bD u)) w.heap.size v/\aC ((w.alloc (bD v)).alloc (bD u)) (w.heap.size+1) u:=by
 have h1:(w.alloc (bD v)).heap.size=w.heap.size+1:=World.size_alloc ..
 refine ⟨⟨?_⟩,⟨?_⟩⟩
 ·rw [Below.heap_alloc _ _ _ (by omega)];exact aB _ _ _
 ·rw [<-h1];exact aB _ _ _
theorem KE (w0:World) (g:Ad) (p:Nat) (h:Hp) (r:Va) (c f:Int) (w:World) (hH:Hs w0 g w p h) (C:Cw w0 g h) (zh:r.kind=3->r.n<h.objs.length) :
  χ 162 #[π p 0,jh r,ι c,ι f] w fun e w'=>e=.returned (jh (h.getV r c f))/\Hs w0 g w' p (h.findH r c)/\Fr w0.heap.size g.T w w':=by
 have dX:=hH.base
 have HF:Θ (Fr w0.heap.size g.T w ((w.alloc (bD r)).alloc eI)):=((Fr.refl _ _ w).alloc dX _).alloc (by simp;omega) _
 have HH:Θ (Hs w0 g ((w.alloc (bD r)).alloc eI) p h):=hH.cf (((Cf.refl _ _ w).alloc dX _).alloc (by simp;omega) _)
 have HV:Θ (aC ((w.alloc (bD r)).alloc eI) w.heap.size r):=(iQ w r aE).1
 have HR:Θ (aC ((w.alloc (bD r)).alloc eI) (w.heap.size+1) aE):=(iQ w r aE).2
 have HC:Θ (Cw w0 g h):=C
 have yE:Θ (r.kind=3->r.n<h.objs.length):=zh
 clear hH C
 have et:w0.heap.size<=w.heap.size+1:=by omega
 have gz:w.heap.size<=w.heap.size+1:=by omega
 by_cases oG:h.findN r c f<0
 ·have e1:h.getV r c f=aE:=by unfold Hp.getV;rw [if_pos oG]
  rw [e1]
  clear e1 zh
  obtain ⟨N,hN⟩:∃N,h.findN r c f=N:=⟨_,rfl⟩
  rw [hN] at oG
  go_enter func162,ntmps162
  go_wp2_with (go_at_call 158;refine (nO w0 g p h r c f _ HH.o HC.o yE.o).mono ?_;rintro e w1 ⟨he,h1,f1⟩;rw [hN] at he;subst he;have b1:=HR.o.keep HC.o.k f1;have r0:=b1.c0;have r1:=b1.c1;have r2:=b1.fr 0;have r3:=b1.fr 1;have kA:Θ (aC w1 (w.heap.size+1) aE):=b1;clear b1)
  (try simp only [Exit.inBlock,Exit.then])
  refine bodyPost_ret (results_cell_row rfl _ _ (w.heap.size+1) _ _ _ _ rfl (kA.o.set aE).blk underlying62 rfl bC) rfl ?_
  exact ⟨rfl,h1.cf (kA.o.cf HC.o.k et _ _),(((HF.o.trans f1).new gz et _).new gz et _)⟩
 ·obtain ⟨e2,hk,n,q,PM,pE,sN,dI⟩:=xz zh oG
  have e1:h.getV r c f=(nth cE (nth cF h.objs n).held q).v:=by unfold Hp.getV Hp.obj;rw [if_neg oG,sN,PM];rfl
  rw [e1,e2]
  have TN:Θ (h.findH r c=h):=e2
  have NV:Θ (h.findN r c f=q):=sN
  obtain ⟨rk,rn⟩:=r
  dsimp only at *
  subst PM
  clear e1 e2 sN oG zh hk
  have iw:(0:Int)<=(n:Int):=by omega
  have fT:(n:Int)<(h.objs.length:Int):=by omega
  have iY:(0:Int)<=(q:Int):=by omega
  have mH:(q:Int)<((nth cF h.objs n).held.length:Int):=by omega
  go_enter func162,ntmps162
  go_wp2_with (go_at_call 158;refine (nO w0 g p h ⟨rk,n⟩ c f _ HH.o HC.o yE.o).mono ?_;rintro e w1 ⟨he,h1,f1⟩;rw [NV.o] at he;subst he;rw [TN.o] at h1;have b1:=HR.o.keep HC.o.k f1;have r0:=b1.c0;have r1:=b1.c1;have r2:=b1.fr 0;have r3:=b1.fr 1;have kA:Θ (aC w1 (w.heap.size+1) aE):=b1;clear b1;have x1:=(HV.o.keep HC.o.k f1).c1;obtain ⟨vo,vx,hv,H⟩:=h1;have HA:Θ (cO w0 g w1 p h vo vx hv):=H;obtain ⟨gb,cap,U,uc,nt,zd,o1,o2,hu,Qs,xy⟩:=mR H pE;have c2:=H.cells.c2;rw [nt] at c2;clear H nt hu;unfold maxLen at zd Qs)
  rcases xy with h0|⟨hb,rfl,-,hcell⟩
  ·omega
  obtain ⟨-,-,y2,y3⟩:=hcell q dI
  clear hcell o1
  go_region
  all_goals go_wp2
  all_goals
   (try simp only [Exit.inBlock,Exit.then])
   refine bodyPost_ret (results_cell_row rfl _ _ (w.heap.size+1) _ _ _ _ rfl (kA.o.set (nth cE (nth cF h.objs n).held q).v).blk underlying62 rfl bC) rfl ?_
   exact ⟨rfl,⟨vo,vx,hv,HA.o.cf ((kA.o.cf HC.o.k et _ _).drew)⟩,(((HF.o.trans f1).new gz et _).new gz et _).drew⟩
theorem pH:∀(l:List pO) (q:Nat) (v:Va),q<l.length->cN (l.set q { nth cE l q with v:=v })=((cN l).set (q*4+2) (ι v.kind)).set (q*4+3) (ι v.n)
 | [],q,v,h=>by simp at h
 | x::l,0,v,_=>by simp [cN,nth]
 | x::l,q+1,v,h=>by
  have:=pH l q v (by simpa using h)
  have e2:(q+1)*4+2=q*4+2+1+1+1+1:=by omega
  have e3:(q+1)*4+3=q*4+3+1+1+1+1:=by omega
  have en:nth cE (x::l) (q+1)=nth cE l q:=by simp [nth]
  rw [e2,e3,en]
  simp [cN,this]
theorem pI:∀(l:List Ob) (hv:List Value) (n:Nat) (o:Ob),o.cls=(nth cF l n).cls->dp (l.set n o) hv=dp l hv
 | [],hv,n,o,_=>by simp
 | x::l,[],n,o,_=>by cases n<;>simp [dp]
 | x::l,v::hv,0,o,h=>by simp [nth] at h;simp [dp,h]
 | x::l,v::hv,n+1,o,h=>by
  have en:nth cF (x::l) (n+1)=nth cF l n:=by simp [nth]
  rw [en] at h
  simp [dp,pI l hv n o h]
theorem tD {w:World} {base:Nat} {e:TypeId} {size n:Nat} {v:Value} {xs:List Value} (ho:w.ownsRow base e size v n xs) {b i:Nat} (hb:v.ownBlock≠some b) (u:Value):(w.setCell ⟨b,i,none⟩ u).ownsRow base e size v n xs:=by
 refine ⟨ho.1,?_⟩
 rcases ho.2 with h0|⟨gb,cap,cur,h1,h2,h3,h4⟩
 ·exact Or.inl h0
 ·refine Or.inr ⟨gb,cap,cur,h1,h2,?_,h4⟩
  rw [ak]
  ·exact h3
  ·rintro rfl;apply hb;rw [h1];rfl
theorem cO.heldSet {w0 w:World} {g:Ad} {p:Nat} {h:Hp} {vo vx:Value} {hv:List Value} (H:cO w0 g w p h vo vx hv) (k:Tk g.T) {n q hb uc:Nat} (hn:n<h.objs.length) (hq:q<(nth cF h.objs n).held.length)
  (hu:nth hv0 hv n=.slice (some ⟨hb,0,none⟩) (nth cF h.objs n).held.length uc) (v:Va) :
  cO w0 g ((w.setCell ⟨hb,q*4+2,none⟩ (ι v.kind)).setCell ⟨hb,q*4+3,none⟩ (ι v.n)) p (h.setV n q v) vo vx hv
  /\ Fr w0.heap.size g.T w ((w.setCell ⟨hb,q*4+2,none⟩ (ι v.kind)).setCell ⟨hb,q*4+3,none⟩ (ι v.n)):=by
 have hh:=H.obs.held n hn
 rw [hu] at hh
 have hblk:∃cur,w.heap[hb]?=some (.cells cur 214 (0,0))/\w0.heap.size<=hb:=by
  rcases hh.2 with ⟨e,-⟩|⟨gb,cap,cur,e,h2,h3,h4⟩
  ·simp at e
  ·simp at e;obtain ⟨rfl,-⟩:=e;exact ⟨cur,h3,h2⟩
 obtain ⟨cur,Gj,hB⟩:=hblk
 have Gk:=ay (i:=q*4+2) Gj (ι v.kind)
 have hT:gI g.T 214:=.inr (.inr (.inl rfl))
 refine ⟨⟨H.own,?_,Below.setCell (Below.setCell H.bl hB _) hB _,?_,?_,?_,?_,?_⟩,((Fr.refl _ _ w).set Gj hT hB _).set Gk hT hB _⟩
 ·have hne:p≠hb:=by rintro rfl;have:=H.blk;rw [Gj] at this;simp at this;exact k.h this.2.symm
  rw [ak hne,ak hne];exact H.blk
 ·exact cW (cW H.o Gj (by decide) _) Gk (by decide) _
 ·simp [Hp.setV,H.obs.len]
 ·have e:dp (h.setV n q v).objs hv=dp h.objs hv:=pI _ _ _ _ rfl
  rw [e]
  have hl:(h.setV n q v).objs.length=h.objs.length:=by simp [Hp.setV]
  rw [hl]
  exact cW (cW H.obs.row Gj (by decide) _) Gk (by decide) _
 ·intro i hi
  have hl:(h.setV n q v).objs.length=h.objs.length:=by simp [Hp.setV]
  rw [hl] at hi
  by_cases sJ:n=i
  ·subst sJ
   have e:(nth cF (h.setV n q v).objs n).held=(nth cF h.objs n).held.set q { nth cE (nth cF h.objs n).held q with v:=v }:=by unfold Hp.setV;rw [eZ hn]
   rw [e,hu,pH _ _ _ hq]
   have s1:=hh.stored (q*4+2) (ι v.kind)
   have s2:=s1.1.stored (q*4+3) (ι v.n)
   simpa using s2.1
  ·have e:nth cF (h.setV n q v).objs i=nth cF h.objs i:=by unfold Hp.setV;exact dY sJ
   rw [e]
   have ha:(nth hv0 hv i).ownBlock≠some hb:=by
    have:=H.obs.apart i n hi hn (Ne.symm sJ)
    rw [hu] at this
    rcases this with h1|h1
    ·rw [h1];simp
    ·exact h1
   exact tD (tD (H.obs.held i hi) ha _) ha _
 ·have hl:(h.setV n q v).objs.length=h.objs.length:=by simp [Hp.setV]
  rw [hl]
  exact H.obs.apart
theorem pJ {w:World} {A:Option Addr} {cs:List Cl} (h:bK w A cs) {c f:Nat} (hc:c<cs.length) (hf:f<(nth bL cs c).fields.length) :
  ∃b off F fo uc,A=some ⟨b,off,none⟩/\w.cell? ⟨b,off+c*2+1,none⟩=some (.slice (some ⟨F,fo,none⟩) (nth bL cs c).fields.length uc)/\cs.length<=maxLen/\(nth bL cs c).fields.length<=maxLen
   /\ w.cell? ⟨F,fo+f*2,none⟩=some (ι (nth bS (nth bL cs c).fields f).kind)/\w.cell? ⟨F,fo+f*2+1,none⟩=some (ι (nth bS (nth bL cs c).fields f).cls):=by
 rcases h.2 with h0|⟨b,off,rfl,hcell⟩
 ·omega
 obtain ⟨-,-,A',uc,hfl,hty⟩:=hcell c hc
 rcases hty.2 with h0|⟨F,fo,rfl,htc⟩
 ·omega
 exact ⟨b,off,F,fo,uc,rfl,hfl,h.1,hty.1,(htc f hf).1,(htc f hf).2.1⟩
theorem Gl (h:Hp) (e:Int):(h.fin e).file=h.file/\(h.fin e).input=h.input:=by unfold Hp.fin;split<;>exact ⟨rfl,rfl⟩
theorem oL (h:Hp) (b:Bool):(h.must b).file=h.file/\(h.must b).input=h.input:=by
 unfold Hp.must;split
 ·exact ⟨rfl,rfl⟩
 ·exact Gl h 6
section
variable {w0 w:World} {g:Ad} {p:Nat} {h:Hp}
theorem Hs.bl (H:Hs w0 g w p h):Bl w0 w:=by
 obtain ⟨vo,vx,hv,H⟩:=H
 exact H.bl
theorem Hs.c0 {h':Hp} (H:Hs w0 g w p h') (he:h'.file=h.file):w.cell? ⟨p,0,none⟩=some (.slice g.A h.file.classes.length g.a):=by
 obtain ⟨vo,vx,hv,H⟩:=H
 rw [<-he];exact H.cells.c0
end
theorem Bq (w0:World) (g:Ad) (p:Nat) (h:Hp) (r:Va) (c f:Nat) (v:Va) (w:World) (hH:Hs w0 g w p h) (C:Cw w0 g h) (zh:r.kind=3->r.n<h.objs.length) (oz:v.kind=3->v.n<h.objs.length)
  (hc:c<h.file.classes.length) (hf:f<(nth bL h.file.classes c).fields.length) :
  χ 115 #[π p 0,jh r,ι (c:Int),ι (f:Int),jh v] w fun e w'=>e=.returned (.tuple #[])/\Hs w0 g w' p (h.put r c f v)/\Fr w0.heap.size g.T w w':=by
 have dX:=hH.base
 have HF:Θ (Fr w0.heap.size g.T w ((w.alloc (bD r)).alloc (bD v))):=((Fr.refl _ _ w).alloc dX _).alloc (by simp;omega) _
 have HH:Θ (Hs w0 g ((w.alloc (bD r)).alloc (bD v)) p h):=hH.cf (((Cf.refl _ _ w).alloc dX _).alloc (by simp;omega) _)
 have HV:Θ (aC ((w.alloc (bD r)).alloc (bD v)) w.heap.size r):=(iQ w r v).1
 have HU:Θ (aC ((w.alloc (bD r)).alloc (bD v)) (w.heap.size+1) v):=(iQ w r v).2
 have HC:Θ (Cw w0 g h):=C
 have yE:Θ (r.kind=3->r.n<h.objs.length):=zh
 have MV:Θ (v.kind=3->v.n<h.objs.length):=oz
 have NW:Bl w0 ((w.alloc (bD r)).alloc (bD v)):=HH.o.bl
 obtain ⟨b,off,F,fo,uc,MT,y0,JJ,JE,y1,y2⟩:=pJ C.cls hc hf
 have jy:Θ (w0.cell? ⟨b,off+c*2+1,none⟩=some (.slice (some ⟨F,fo,none⟩) (nth bL h.file.classes c).fields.length uc)):=y0
 have KF:Θ (w0.cell? ⟨F,fo+f*2,none⟩=some (ι (nth bS (nth bL h.file.classes c).fields f).kind)):=y1
 have TP:Θ (w0.cell? ⟨F,fo+f*2+1,none⟩=some (ι (nth bS (nth bL h.file.classes c).fields f).cls)):=y2
 replace y0:=NW.cell y0
 replace y1:=NW.cell y1
 replace y2:=NW.cell y2
 unfold maxLen at JJ JE
 have c0:((w.alloc (bD r)).alloc (bD v)).cell? ⟨p,0,none⟩=some (.slice (some ⟨b,off,none⟩) h.file.classes.length g.a):=by rw [HH.o.c0 rfl,MT]
 have u0:=HU.o.c0
 have u1:=HU.o.c1
 have J9:(0:Int)<=(c:Int):=by omega
 have E1:(c:Int)<(h.file.classes.length:Int):=by omega
 have MJ:(0:Int)<=(f:Int):=by omega
 have E2:(f:Int)<((nth bL h.file.classes c).fields.length:Int):=by omega
 clear hH C zh oz
 have Qt:bI h.file.classes (c:Int) (f:Int)=nth bS (nth bL h.file.classes c).fields f:=by unfold bI;rw [Int.toNat_natCast,Int.toNat_natCast]
 generalize hT:nth bS (nth bL h.file.classes c).fields f=t at *
 obtain ⟨O,hO⟩:∃O,h.of v t=O:=⟨_,rfl⟩
 have HO:Θ (h.of v t=O):=hO
 have TQ:Θ (g.A=some ⟨b,off,none⟩):=MT
 clear hT MT
 have Qv:h.put r c f v=if h.mustB O=true then (if h.findN r c f<0 then h.findH r c else (h.findH r c).setV r.n.toNat (h.findN r c f).toNat v) else h.must O:=by
  unfold Hp.put;rw [Qt,hO]
 rw [Qv]
 clear Qv Qt hO
 cases hm:h.mustB O
 ·rw [if_neg (by decide)]
  go_enter func115,ntmps115
  go_wp2
  go_region_held3 (fun w'=>w'.cell? ⟨p,0,none⟩=some (.slice (some ⟨b,off,none⟩) h.file.classes.length g.a)/\w'.cell? ⟨w.heap.size+1,0,none⟩=some (ι v.kind)/\w'.cell? ⟨w.heap.size+1,1,none⟩=some (ι v.n)/\w'.cell? ⟨b,off+c*2+1,none⟩=some (.slice (some ⟨F,fo,none⟩) (nth bL h.file.classes c).fields.length uc)/\w'.cell? ⟨F,fo+f*2,none⟩=some (ι t.kind)/\w'.cell? ⟨F,fo+f*2+1,none⟩=some (ι t.cls))
   (go_keep)
   (first
    | (go_at_call 57;refine (ji w0 g p h v t _ (by first|exact HH.o.cf (Cf.drew (Cf.refl _ _ _))|exact HH.o) HC.o.cls HC.o.tree MV.o).mono ?_;rintro e w1 ⟨he,h1,f1,b1⟩;rw [HO.o] at he;subst he;have e0:=b1.cell c0;have e1:=b1.cell u0;have e2:=b1.cell u1;have e3:=b1.cell y0;have e4:=b1.cell y1;have e5:=b1.cell y2)
    | (go_at_call 55;refine (bZ w0 g HC.o.k p h O _ h1).mono ?_;rintro e w2 ⟨he,h2,f2⟩;rw [hm] at he;subst he;have a0:=h2.c0 (oL h O).1;rw [TQ.o] at a0;have bu:=(HU.o.keep HC.o.k (Fr.trans (Fr.drew (Fr.refl _ _ _)) f1)).keep HC.o.k f2;have a1:=bu.c0;have a2:=bu.c1;clear bu;have a3:=h2.bl.cell jy.o;have a4:=h2.bl.cell KF.o;have a5:=h2.bl.cell TP.o))
  go_wp2
  (try simp only [Exit.inBlock,Exit.then])
  first|exact bodyPost_ret (results_none rfl _ _ _) rfl ⟨rfl,h2,(HF.o.drew.trans f1).trans f2⟩|(go_end0;exact ⟨rfl,h2,(HF.o.drew.trans f1).trans f2⟩)
 ·obtain ⟨rfl,cY,yD⟩:=dE hm
  have vE:Θ (h.must true=h):=yD
  clear yD cY
  rw [if_pos rfl]
  by_cases oG:h.findN r c f<0
  ·rw [if_pos oG]
   obtain ⟨N,hN⟩:∃N,h.findN r c f=N:=⟨_,rfl⟩
   have HN:Θ (h.findN r c f=N):=hN
   rw [hN] at oG
   clear hN
   go_enter func115,ntmps115
   go_wp2
   go_region_held3 (fun w'=>w'.cell? ⟨p,0,none⟩=some (.slice (some ⟨b,off,none⟩) h.file.classes.length g.a)/\w'.cell? ⟨w.heap.size+1,0,none⟩=some (ι v.kind)/\w'.cell? ⟨w.heap.size+1,1,none⟩=some (ι v.n)/\w'.cell? ⟨b,off+c*2+1,none⟩=some (.slice (some ⟨F,fo,none⟩) (nth bL h.file.classes c).fields.length uc)/\w'.cell? ⟨F,fo+f*2,none⟩=some (ι t.kind)/\w'.cell? ⟨F,fo+f*2+1,none⟩=some (ι t.cls))
    (go_keep)
    (first
     | (go_at_call 57;refine (ji w0 g p h v t _ (by first|exact HH.o.cf (Cf.drew (Cf.refl _ _ _))|exact HH.o) HC.o.cls HC.o.tree MV.o).mono ?_;rintro e w1 ⟨he,h1,f1,b1⟩;rw [HO.o] at he;subst he;have e0:=b1.cell c0;have e1:=b1.cell u0;have e2:=b1.cell u1;have e3:=b1.cell y0;have e4:=b1.cell y1;have e5:=b1.cell y2)
     | (go_at_call 55;refine (bZ w0 g HC.o.k p h true _ h1).mono ?_;rintro e w2 ⟨he,h2,f2⟩;rw [hm] at he;subst he;have a0:=h2.c0 (oL h true).1;rw [TQ.o] at a0;have bu:=(HU.o.keep HC.o.k (Fr.trans (Fr.drew (Fr.refl _ _ _)) f1)).keep HC.o.k f2;have a1:=bu.c0;have a2:=bu.c1;clear bu;have a3:=h2.bl.cell jy.o;have a4:=h2.bl.cell KF.o;have a5:=h2.bl.cell TP.o))
   rw [vE.o] at h2
   have x0:=((HV.o.keep HC.o.k (Fr.trans (Fr.drew (Fr.refl _ _ _)) f1)).keep HC.o.k f2).c0
   have x1:=((HV.o.keep HC.o.k (Fr.trans (Fr.drew (Fr.refl _ _ _)) f1)).keep HC.o.k f2).c1
   go_wp2_with (go_at_call 158;refine (nO w0 g p h r c f _ h2 HC.o yE.o).mono ?_;rintro e w3 ⟨he,h3,f3⟩;rw [HN.o] at he;subst he)
   go_end0
   exact ⟨rfl,h3,((HF.o.drew.trans f1).trans f2).trans f3⟩
  ·rw [if_neg oG]
   obtain ⟨e2,hk,n,q,PM,pE,sN,dI⟩:=xz yE.o oG
   rw [e2,PM,sN,Int.toNat_natCast,Int.toNat_natCast]
   have TN:Θ (h.findH r c=h):=e2
   have NV:Θ (h.findN r c f=q):=sN
   obtain ⟨rk,rn⟩:=r
   dsimp only at *
   subst PM
   clear e2 sN oG hk
   have iw:(0:Int)<=(n:Int):=by omega
   have fT:(n:Int)<(h.objs.length:Int):=by omega
   have iY:(0:Int)<=(q:Int):=by omega
   have mH:(q:Int)<((nth cF h.objs n).held.length:Int):=by omega
   go_enter func115,ntmps115
   go_wp2
   go_region_held3 (fun w'=>w'.cell? ⟨p,0,none⟩=some (.slice (some ⟨b,off,none⟩) h.file.classes.length g.a)/\w'.cell? ⟨w.heap.size+1,0,none⟩=some (ι v.kind)/\w'.cell? ⟨w.heap.size+1,1,none⟩=some (ι v.n)/\w'.cell? ⟨b,off+c*2+1,none⟩=some (.slice (some ⟨F,fo,none⟩) (nth bL h.file.classes c).fields.length uc)/\w'.cell? ⟨F,fo+f*2,none⟩=some (ι t.kind)/\w'.cell? ⟨F,fo+f*2+1,none⟩=some (ι t.cls))
    (go_keep)
    (first
     | (go_at_call 57;refine (ji w0 g p h v t _ (by first|exact HH.o.cf (Cf.drew (Cf.refl _ _ _))|exact HH.o) HC.o.cls HC.o.tree MV.o).mono ?_;rintro e w1 ⟨he,h1,f1,b1⟩;rw [HO.o] at he;subst he;have e0:=b1.cell c0;have e1:=b1.cell u0;have e2:=b1.cell u1;have e3:=b1.cell y0;have e4:=b1.cell y1;have e5:=b1.cell y2)
     | (go_at_call 55;refine (bZ w0 g HC.o.k p h true _ h1).mono ?_;rintro e w2 ⟨he,h2,f2⟩;rw [hm] at he;subst he;have a0:=h2.c0 (oL h true).1;rw [TQ.o] at a0;have bu:=(HU.o.keep HC.o.k (Fr.trans (Fr.drew (Fr.refl _ _ _)) f1)).keep HC.o.k f2;have a1:=bu.c0;have a2:=bu.c1;clear bu;have a3:=h2.bl.cell jy.o;have a4:=h2.bl.cell KF.o;have a5:=h2.bl.cell TP.o))
   rw [vE.o] at h2
   have x0:=((HV.o.keep HC.o.k (Fr.trans (Fr.drew (Fr.refl _ _ _)) f1)).keep HC.o.k f2).c0
   have x1:=((HV.o.keep HC.o.k (Fr.trans (Fr.drew (Fr.refl _ _ _)) f1)).keep HC.o.k f2).c1
   have TR:Θ (aC w2 w.heap.size ⟨rk,n⟩):=(HV.o.keep HC.o.k (Fr.trans (Fr.drew (Fr.refl _ _ _)) f1)).keep HC.o.k f2
   have We:Θ (aC w2 (w.heap.size+1) v):=(HU.o.keep HC.o.k (Fr.trans (Fr.drew (Fr.refl _ _ _)) f1)).keep HC.o.k f2
   go_wp2_with (go_at_call 158;refine (nO w0 g p h ⟨rk,n⟩ c f _ h2 HC.o yE.o).mono ?_;rintro e w3 ⟨he,h3,f3⟩;rw [NV.o] at he;subst he;rw [TN.o] at h3;have k1:=(TR.o.keep HC.o.k f3).c1;have k2:=(We.o.keep HC.o.k f3).c0;have k3:=(We.o.keep HC.o.k f3).c1;obtain ⟨vo,vx,hv,H⟩:=h3;have HA:Θ (cO w0 g w3 p h vo vx hv):=H;obtain ⟨gb,cap,U,uc',nt,zd,o1,o2,hu,Qs,xy⟩:=mR H pE;have c2:=H.cells.c2;rw [nt] at c2;clear H nt;have YA:Θ (nth hv0 hv n=.slice U (nth cF h.objs n).held.length uc'):=hu;clear hu;unfold maxLen at zd Qs)
   rcases xy with h0|⟨hb,rfl,Sq,hcell⟩
   ·omega
   obtain ⟨-,-,y2',y3'⟩:=hcell q dI
   have z2:=Sq (q*4+2)
   have z3:=Sq (q*4+3)
   clear hcell o1 Sq
   go_region
   all_goals go_wp2
   all_goals
    go_end0
    have hh:=HA.o.heldSet HC.o.k pE dI YA.o v
    exact ⟨rfl,⟨vo,vx,hv,hh.1.cf (Cf.drew (Cf.refl _ _ _))⟩,((((HF.o.drew.trans f1).trans f2).trans f3).trans hh.2).drew⟩
section
variable (w0:World) (g:Ad) (p:Nat) (h:Hp)
theorem fU (w:World) (hH:Hs w0 g w p h) :
  χ 55 #[π p 0,.bool true] w fun e w'=>e=.returned (.bool (!h.over))/\w'=w:=by
 obtain ⟨vo,vx,hv,H⟩:=hH
 have c12:=H.cells.c12
 clear H
 go_enter func55,ntmps55
 go_wp2
 go_ret
 exact ⟨rfl,rfl⟩
theorem Gm (v:Va) (c:Int) (w:World) (hH:Hs w0 g w p h) (C:Cw w0 g h) (oz:v.kind=3->v.n<h.objs.length) :
  χ 135 #[π p 0,jh v,ι c] w fun e w'=>e=.returned (.tuple #[])/\Hs w0 g w' p (h.cast v c)/\Fr w0.heap.size g.T w w':=by
 have dX:=hH.base
 have HF:Θ (Fr w0.heap.size g.T w (w.alloc (bD v))):=(Fr.refl _ _ w).alloc dX _
 have HH:Θ (Hs w0 g (w.alloc (bD v)) p h):=hH.cf ((Cf.refl _ _ w).alloc dX _)
 have HV:Θ (aC (w.alloc (bD v)) w.heap.size v):=aC.new w v
 have HC:Θ (Cw w0 g h):=C
 have MV:Θ (v.kind=3->v.n<h.objs.length):=oz
 have hk:(v.kind==3)=isRef v:=by unfold isRef;rw [Bool.eq_iff_iff];simp
 clear hH C oz
 cases hm:h.mustB (isRef v)
 ·have hr:h.cast v c=h.must (isRef v):=by unfold Hp.cast;rw [if_neg (by rw [hm];decide)]
  rw [hr]
  clear hr
  go_enter func135,ntmps135
  go_wp2_with (go_at_call 55;refine (bZ w0 g HC.o.k p h _ _ HH.o).mono ?_;rintro e w1 ⟨he,h1,f1⟩;rw [hm] at he;subst he)
  go_end0
  exact ⟨rfl,h1,HF.o.trans f1⟩
 ·obtain ⟨hb,cY,yD⟩:=dE hm
  have vE:Θ (h.must (isRef v)=h):=yD
  clear yD hb cY
  cases hO:h.of v ⟨3,c⟩
  ·have hr:h.cast v c=h.raise 3:=by unfold Hp.cast;rw [if_pos hm,if_neg (by rw [hO];decide)]
   rw [hr]
   clear hr
   go_enter func135,ntmps135
   go_wp2_with (first
    | (go_at_call 55;refine (bZ w0 g HC.o.k p h _ _ HH.o).mono ?_;rintro e w1 ⟨he,h1,f1⟩;rw [hm] at he;subst he;rw [vE.o] at h1;have r0:=(HV.o.keep HC.o.k f1).c0;have r1:=(HV.o.keep HC.o.k f1).c1)
    | (go_at_call 57;refine (ji w0 g p h v ⟨3,c⟩ _ h1 HC.o.cls HC.o.tree MV.o).mono ?_;rintro e w2 ⟨he,h2,f2,-⟩;rw [hO] at he;subst he)
    | (go_at_call 157;refine (kg w0 g p h 3 _ h2 HC.o (by omega)).mono ?_;rintro e w3 ⟨rfl,h3,f3⟩))
   go_end0
   exact ⟨rfl,h3,((HF.o.trans f1).trans f2).trans f3⟩
  ·have hr:h.cast v c=h:=by unfold Hp.cast;rw [if_pos hm,if_pos hO]
   rw [hr]
   clear hr
   go_enter func135,ntmps135
   go_wp2_with (first
    | (go_at_call 55;refine (bZ w0 g HC.o.k p h _ _ HH.o).mono ?_;rintro e w1 ⟨he,h1,f1⟩;rw [hm] at he;subst he;rw [vE.o] at h1;have r0:=(HV.o.keep HC.o.k f1).c0;have r1:=(HV.o.keep HC.o.k f1).c1)
    | (go_at_call 57;refine (ji w0 g p h v ⟨3,c⟩ _ h1 HC.o.cls HC.o.tree MV.o).mono ?_;rintro e w2 ⟨he,h2,f2,-⟩;rw [hO] at he;subst he))
   go_end0
   exact ⟨rfl,h2,(HF.o.trans f1).trans f2⟩
end
def Gn (w:World) (A:Option Addr) (l:List Va):Prop :=
 l.length<=maxLen/\(l.length=0∨∃b off,A=some ⟨b,off,none⟩/\∀i,i<l.length ->
  w.cell? ⟨b,off+i*2,none⟩=some (ι (nth aE l i).kind)/\w.cell? ⟨b,off+i*2+1,none⟩=some (ι (nth aE l i).n))
theorem Br (l:List Va):bN l<=2*l.length:=by
 induction l with
 | nil=>simp [bN]
 | cons t l ih=>simp only [bN,List.length_cons];split<;>omega
theorem Dc (l:List Va) (k:Nat) (h:k<l.length):bN (l.take (k+1))=bN (l.take k)+(if (nth aE l k).kind=2 then 2 else 1):=by
 induction l generalizing k with
 | nil=>simp at h
 | cons t l ih =>
  cases k with
  | zero=>simp [bN,nth]
  | succ k =>
   have:=ih k (by simpa using h)
   have e:nth aE (t::l) (k+1)=nth aE l k:=by simp [nth]
   rw [e,List.take_succ_cons,List.take_succ_cons,bN,bN,this];omega
theorem Gp (A:Option Addr) (c:Nat) (l:List Va) (w:World) (hl:Gn w A l) (hb:l.length<=1000000) :
  χ 53 #[.slice A l.length c] w fun e w'=>e=.returned (ι (bN l:Nat))/\w'=w:=by
 obtain ⟨hm,hl⟩:=hl
 clear hm
 have HS:Θ (∀k,k<l.length->bN (l.take (k+1))=bN (l.take k)+(if (nth aE l k).kind=2 then 2 else 1)):=Dc l
 have HB:Θ (∀k,bN (l.take k)<=2*k):=fun k=>by have:=Br (l.take k);have:=List.length_take_le k l;omega
 go_enter func53,ntmps53
 go_wp2
 go_loop [3,4] (fun n i=>∃k:Nat,k<=l.length/\i=ι k/\n=ι ((l.length:Int)+((bN (l.take k):Nat):Int)-k)) (fun _ i=>l.length-(intOf i).toNat)
 case atStart=>exact ⟨0,Nat.zero_le _,rfl,by simp [bN]⟩
 case round =>
  obtain ⟨k,hk,rfl,rfl⟩:=hrel
  have h2:=HB.o k
  by_cases hlt:k<l.length
  ·rcases hl with h0|⟨b,off,rfl,hcell⟩
   ·omega
   have ht:=(hcell k hlt).1
   have hs:=HS.o k hlt
   clear hcell
   by_cases nI:(nth aE l k).kind=2
   ·rw [if_pos nI] at hs
    rw [nI] at ht
    have Kk:Θ (bN (l.take (k+1))=bN (l.take k)+2):=hs
    clear hs nI
    go_wp2
    go_round
    case rel=>exact ⟨k+1,by omega,by go_num,by rw [Kk.o];go_num⟩
    case measure=>simp [intOf];omega
   ·rw [if_neg nI] at hs
    have Kk:Θ (bN (l.take (k+1))=bN (l.take k)+1):=hs
    have To:((nth aE l k).kind==2)=false:=by simpa using nI
    clear hs nI
    go_wp2
    go_round
    case rel=>exact ⟨k+1,by omega,by go_num,by rw [Kk.o];go_num⟩
    case measure=>simp [intOf];omega
  ·obtain rfl:k=l.length:=by omega
   rw [List.take_length] at *
   go_wp2
   go_ret
   exact ⟨lZ (by omega),rfl⟩
structure cL (w:World) (b:Nat) (l:List Va):Prop where
 blk:w.heap[b]?=some (.cells (bh l).toArray 62 (0,0))
 len:l.length<=maxLen
section
variable {w:World} {b:Nat} {l:List Va}
theorem cL.c0 (h:cL w b l) {i:Nat} (hi:i<l.length):w.cell? ⟨b,i*2,none⟩=some (ι (nth aE l i).kind):=by
 rw [ab h.blk];simpa using (jX l i hi).1
theorem cL.c1 (h:cL w b l) {i:Nat} (hi:i<l.length):w.cell? ⟨b,i*2+1,none⟩=some (ι (nth aE l i).n):=by
 rw [ab h.blk];simpa using (jX l i hi).2
theorem cL.fr (h:cL w b l) (i:Nat):w.frozen? ⟨b,i,none⟩=false:=aA h.blk i
theorem cL.set (h:cL w b l) {i:Nat} (hi:i<l.length) (v:Va):cL ((w.setCell ⟨b,i*2,none⟩ (ι v.kind)).setCell ⟨b,i*2+1,none⟩ (ι v.n)) b (l.set i v) :=
 ⟨by rw [ay (ay h.blk _),lA l i v hi];simp,by rw [List.length_set];exact h.len⟩
end
structure dU (b:Nat) (w w':World):Prop where
 os:w'.os=w.os
 tape:w'.tape=w.tape
 output:w'.output=w.output
 size:w.heap.size<=w'.heap.size
 block:∀k,k<w.heap.size->k≠b->w'.heap[k]?=w.heap[k]?
theorem dU.refl (b:Nat) (w:World):dU b w w:=⟨rfl,rfl,rfl,Nat.le_refl _,fun _ _ _=>rfl⟩
theorem dU.trans {b:Nat} {x y z:World} (h:dU b x y) (k:dU b y z):dU b x z :=
 ⟨k.os.trans h.os,k.tape.trans h.tape,k.output.trans h.output,Nat.le_trans h.size k.size,fun i hi hb=>(k.block i (Nat.lt_of_lt_of_le hi h.size) hb).trans (h.block i hi hb)⟩
section
variable {b:Nat} {a w:World}
theorem dU.alloc (h:dU b a w) (o:Obj):dU b a (w.alloc o) :=
 h.trans ⟨rfl,rfl,rfl,by simp,fun k hk _=>Below.heap_alloc _ _ _ hk⟩
theorem dU.set (h:dU b a w) (i:Nat) (v:Value):dU b a (w.setCell ⟨b,i,none⟩ v) :=
 h.trans ⟨rfl,rfl,rfl,by simp [World.setCell],fun k hk hb=>ak hb v⟩
theorem dU.drew (h:dU b a w):dU b a w.drew:=⟨h.os,h.tape,h.output,h.size,h.block⟩
end
theorem rq (b:Nat) (l:List Va) (a c:Nat) (w:World) (hL:cL w b l) (ha:a<l.length) (h9:(nth aE l a).kind=9->1<=a) (h2:(nth aE l a).kind=2->a+1<l.length) :
  χ 109 #[.slice (some ⟨b,0,none⟩) l.length c,ι (a:Int)] w fun e w'=>e=.returned (.tuple #[])/\cL w' b (cI l a)/\dU b w w':=by
 have HL:Θ (cL w b l):=hL
 have hm:=hL.len
 unfold maxLen at hm
 have c0:=hL.c0 ha
 have c1:=hL.c1 ha
 have fz:=hL.fr
 have ha0:(0:Int)<=(a:Int):=by omega
 have NA:(a:Int)<(l.length:Int):=by omega
 clear hL
 by_cases k9:(nth aE l a).kind=9
 ·have h1:=h9 k9
  have e:cI l a=(l.set (a-1) aE).set a aE:=by unfold cI;rw [if_pos k9]
  rw [e]
  obtain ⟨a',rfl⟩:∃a',a=a'+1:=⟨a-1,by omega⟩
  have E0:a'<l.length:=by omega
  have d0:=HL.o.c0 E0
  have d1:=HL.o.c1 E0
  rw [k9] at c0
  clear e h9 h2 k9
  go_enter func109,ntmps109
  go_wp2
  go_end0
  exact ⟨rfl,((HL.o.set E0 aE).set (by rw [List.length_set];exact ha) aE),((((dU.refl b w).set _ _).set _ _).set _ _).set _ _⟩
 ·have n9:((nth aE l a).kind==9)=false:=by simpa using k9
  by_cases k2:(nth aE l a).kind=2
  ·have h1:=h2 k2
   have e:cI l a=(l.set (a+1) aE).set a aE:=by unfold cI;rw [if_neg k9,if_pos k2]
   rw [e]
   have d0:=HL.o.c0 h1
   have d1:=HL.o.c1 h1
   have hb1:((a:Int)+1)<(l.length:Int):=by omega
   rw [k2] at c0
   clear e h9 h2 k9 k2 n9
   go_enter func109,ntmps109
   go_wp2
   go_end0
   exact ⟨rfl,((HL.o.set h1 aE).set (by rw [List.length_set];exact ha) aE),((((dU.refl b w).set _ _).set _ _).set _ _).set _ _⟩
  ·have n2:((nth aE l a).kind==2)=false:=by simpa using k2
   have e:cI l a=l.set a aE:=by unfold cI;rw [if_neg k9,if_neg k2]
   rw [e]
   clear e h9 h2 k9 k2
   go_enter func109,ntmps109
   go_wp2
   go_end0
   exact ⟨rfl,HL.o.set ha aE,((dU.refl b w).set _ _).set _ _⟩
theorem Dd (l:List Va) (a i:Nat) (hi:i<l.length):nth aE (cI l a) i=aE∨nth aE (cI l a) i=nth aE l i:=by
 have key:∀(m:List Va) (j:Nat),nth aE (m.set j aE) i=aE∨nth aE (m.set j aE) i=nth aE m i:=fun m j=>by
  by_cases hj:j=i
  ·subst hj
   by_cases hm:j<m.length
   ·exact Or.inl (eZ hm)
   ·right;rw [List.set_eq_of_length_le (by omega)]
  ·exact Or.inr (dY hj)
 unfold cI
 split
 ·rcases key (l.set (a-1) aE) a with h|h
  ·exact Or.inl h
  ·rw [h];exact key l (a-1)
 ·split
  ·rcases key (l.set (a+1) aE) a with h|h
   ·exact Or.inl h
   ·rw [h];exact key l (a+1)
  ·exact key l a
theorem dU.box {b:Nat} {w w':World} (h:dU b w w') {c:Nat} {v:Va} (hv:aC w c v) (hb:c≠b):aC w' c v:=⟨(h.block c (af hv.blk) hb).trans hv.blk⟩
theorem tE (b:Nat) (l:List Va) (a c:Nat) (v:Va) (w:World) (hL:cL w b l) (hok:iK l) (ha:a<l.length) (h2:v.kind=2->a+1<l.length) :
  χ 52 #[.slice (some ⟨b,0,none⟩) l.length c,ι (a:Int),jh v] w fun e w'=>e=.returned (.tuple #[])/\cL w' b (eL l a v)/\dU b w w':=by
 have hbl:=af hL.blk
 have HL:Θ (cL (w.alloc (bD v)) b l):=⟨(Below.heap_alloc _ _ _ hbl).trans hL.blk,hL.len⟩
 have HV:Θ (aC (w.alloc (bD v)) w.heap.size v):=aC.new w v
 have HO:Θ (dU b w (w.alloc (bD v))):=(dU.refl b w).alloc _
 have hm:=hL.len
 unfold maxLen at hm
 have hne:w.heap.size≠b:=by omega
 have YB:b≠w.heap.size:=by omega
 have ha0:(0:Int)<=(a:Int):=by omega
 have NA:(a:Int)<(l.length:Int):=by omega
 have H9:Θ ((nth aE l a).kind=9->1<=a):=hok.nine a ha
 have H2:Θ ((nth aE l a).kind=2->a+1<l.length):=hok.two a ha
 have hlen:=fQ l a
 have ll:Θ ((cI l a).length=l.length):=hlen
 clear hL
 by_cases k2:v.kind=2
 ·have sM:=h2 k2
  have e:eL l a v=(((cI (cI l a) (a+1)).set (a+1) ⟨9,0⟩).set a v):=by unfold eL;rw [if_pos k2]
  rw [e]
  have YC:Θ ((nth aE (cI l a) (a+1)).kind=2->a+1+1<(cI l a).length):=fun hk=>by
   rw [hlen]
   rcases Dd l a (a+1) sM with h|h
   ·rw [h] at hk;exact absurd hk (by decide)
   ·rw [h] at hk;exact hok.two _ sM hk
  have MX:(cI (cI l a) (a+1)).length=l.length:=by rw [fQ,hlen]
  have tF:Θ ((cI (cI l a) (a+1)).length=l.length):=MX
  have hb1:((a:Int)+1)<(l.length:Int):=by omega
  obtain ⟨vk,vn⟩:=v
  dsimp only at *
  subst k2
  clear e h2 hok hlen MX
  go_enter func52,ntmps52
  go_wp2_with (first
   | (go_at_call_of 109 (ι (a:Int));refine (rq b l a c _ HL.o ha H9.o H2.o).mono ?_;rintro e w1 ⟨rfl,l1,o1⟩;have r0:=(o1.box HV.o hne).c0;have r1:=(o1.box HV.o hne).c1;have Wf:Θ (aC w1 w.heap.size ⟨2,vn⟩):=o1.box HV.o hne)
   | (go_at_call 109;rw [<-ll.o];refine (rq b (cI l a) (a+1) c _ l1 (by rw [ll.o];exact sM) (fun _=>by omega) YC.o).mono ?_;rintro e w2 ⟨rfl,l2,o2⟩;have s0:=(o2.box Wf.o hne).c0;have s1:=(o2.box Wf.o hne).c1;have YD:Θ (cL w2 b (cI (cI l a) (a+1))):=l2;have t0:=l2.c0 (i:=a+1) (by rw [tF.o];exact sM);have t1:=l2.c1 (i:=a+1) (by rw [tF.o];exact sM);have t2:=l2.c0 (i:=a) (by rw [tF.o];exact ha);have t3:=l2.c1 (i:=a) (by rw [tF.o];exact ha);have fz:=l2.fr;clear l2;have mP:((a:Int)+1)<((cI l a).length:Int):=(by rw [ll.o];omega);have JK:(a:Int)<((cI l a).length:Int):=(by rw [ll.o];omega);have hxm:(cI l a).length<=2 ^ 63-1:=(by rw [ll.o];omega)))
  go_end0
  exact ⟨rfl,(YD.o.set (by rw [tF.o];exact sM) ⟨9,0⟩).set (by rw [List.length_set,tF.o];exact ha) ⟨2,vn⟩,((((((HO.o.trans o1).trans o2).set _ _).set _ _).set _ _).set _ _)⟩
 ·have n2:(v.kind==2)=false:=by simpa using k2
  have e:eL l a v=(cI l a).set a v:=by unfold eL;rw [if_neg k2]
  rw [e]
  clear e h2 hok k2 hlen
  go_enter func52,ntmps52
  go_wp2_with (go_at_call 109;refine (rq b l a c _ HL.o ha H9.o H2.o).mono ?_;rintro e w1 ⟨rfl,l1,o1⟩;have r0:=(o1.box HV.o hne).c0;have r1:=(o1.box HV.o hne).c1;have YE:Θ (cL w1 b (cI l a)):=l1;have t2:=l1.c0 (i:=a) (by rw [ll.o];exact ha);have t3:=l1.c1 (i:=a) (by rw [ll.o];exact ha);have fz:=l1.fr;clear l1)
  go_end0
  exact ⟨rfl,YE.o.set (by rw [ll.o];exact ha) v,((HO.o.trans o1).set _ _).set _ _⟩
end Go.Proofs.YtgiiapenmjollaaGreat
