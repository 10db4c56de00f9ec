import Derived.Test.YtgiiapenmjollaaGreatSraa
import Derived.WalkKit
import Derived.RowKit3
import Derived.Below
import Derived.OwnWalk
import Derived.Laws.OwnMore
import Derived.Deep.Draws
import Derived.Test.YtgiiapenmjollaaGreatChecked
import Derived.Handy
import Derived.Deep.RegionHeld3
import Derived.BigQuiet
import Derived.Deep.AppendLies
import Derived.Deep.RegionLaw
import Derived.BigRegion
namespace Go.Proofs.YtgiiapenmjollaaGreat
set_option linter.all false
set_option maxHeartbeats 40000000
set_option maxRecDepth 100000
open Go.RowKit
open Go.Value (int)
open Go.IntKind (i64)
structure Ad where
 A:Option Addr
 a:Nat
 M:Option Addr
 m:Nat
 I:Option Addr
 i:Nat
 T:TypeId
abbrev iE (v:Va):Value:=.agg #[int i64 v.kind,int i64 v.n]
def wJ (g:Ad) (h:Hp) (vo vx:Value):Array Value :=
 #[.slice g.A h.file.classes.length g.a,.slice g.M h.file.methods.length g.m,vo,.slice g.I h.input.length g.i,int i64 h.calls,int i64 h.fuel,
  int i64 h.sh.fin,int i64 h.sh.value,int i64 h.sh.cls,vx,int i64 h.sh.used,int i64 h.sh.steps,.bool h.over,int i64 h.thrown]
def dw:List Ob->List Value->List Value
 | o::l,v::k=>int i64 o.cls::v::dw l k
 | _,_=>[]
def cS:List pB->List Value
 | []=>[]
 | x::l=>int i64 x.cls::int i64 x.fld::int i64 x.v.kind::int i64 x.v.n::cS l
abbrev hv0:Value:=.bool false
structure wK (B:Nat) (w:World) (vo:Value) (l:List Ob) (hv:List Value):Prop where
 len:hv.length=l.length
 row:w.ownsRow B 125 2 vo l.length (dw l hv)
 held:∀i,i<l.length->w.ownsRow B 214 4 (nth hv0 hv i) (nth cB l i).held.length (cS (nth cB l i).held)
 apart:∀i j,i<l.length->j<l.length->i≠j->(nth hv0 hv i).ownBlock=none∨(nth hv0 hv i).ownBlock≠(nth hv0 hv j).ownBlock
structure cD (w0:World) (g:Ad) (w:World) (p:Nat) (h:Hp) (vo vx:Value) (hv:List Value):Prop where
 own:w0.heap.size<=p
 blk:w.heap[p]?=some (.cells (wJ g h vo vx) g.T (0,0))
 bl:Bl w0 w
 out:w.ownsRow w0.heap.size 2 1 vx h.sh.out.length (h.sh.out.map (Value.int .i64))
 obs:wK w0.heap.size w vo h.objs hv
def Hs (w0:World) (g:Ad) (w:World) (p:Nat) (h:Hp):Prop:=∃vo vx hv,cD w0 g w p h vo vx hv
def jP (T t:TypeId):Prop:=t=T∨t=125∨t=214∨t=2
structure Tk (T:TypeId):Prop where
 o:T≠125
 h:T≠214
 i:T≠2
 v:T≠62
 c:T≠113
 t:T≠45
 m:T≠49
 n:T≠55
 d:T≠108
section
variable {T:TypeId}
theorem Tk.nv (k:Tk T):¬jP T 62:=by rintro (h|h|h|h)<;>first|exact k.v h.symm|exact absurd h (by decide)
theorem Tk.nc (k:Tk T):¬jP T 113:=by rintro (h|h|h|h)<;>first|exact k.c h.symm|exact absurd h (by decide)
theorem Tk.nt (k:Tk T):¬jP T 45:=by rintro (h|h|h|h)<;>first|exact k.t h.symm|exact absurd h (by decide)
theorem Tk.nm (k:Tk T):¬jP T 49:=by rintro (h|h|h|h)<;>first|exact k.m h.symm|exact absurd h (by decide)
theorem Tk.nn (k:Tk T):¬jP T 55:=by rintro (h|h|h|h)<;>first|exact k.n h.symm|exact absurd h (by decide)
end
structure Fr (B:Nat) (T:TypeId) (w w':World):Prop where
 bl:Below B w w'
 keep:∀(b:Nat) (cs:Array Value) (t:TypeId) (f:Nat×Nat),w.heap[b]?=some (.cells cs t f)->¬jP T t->w'.heap[b]?=some (.cells cs t f)
structure Cf (B:Nat) (T:TypeId) (w w':World):Prop where
 bl:Below B w w'
 keep:∀(b:Nat) (cs:Array Value) (t:TypeId) (f:Nat×Nat),w.heap[b]?=some (.cells cs t f)->jP T t->w'.heap[b]?=some (.cells cs t f)
theorem Fr.refl (B:Nat) (T:TypeId) (w:World):Fr B T w w:=⟨Below.refl _ _,fun _ _ _ _ h _=>h⟩
theorem Fr.trans {B:Nat} {T:TypeId} {a b c:World} (h:Fr B T a b) (k:Fr B T b c):Fr B T a c:=⟨h.bl.trans k.bl,fun x cs t f e n=>k.keep x cs t f (h.keep x cs t f e n) n⟩
theorem Cf.refl (B:Nat) (T:TypeId) (w:World):Cf B T w w:=⟨Below.refl _ _,fun _ _ _ _ h _=>h⟩
section
variable {B:Nat} {T:TypeId} {a:World}
theorem Cf.trans {b c:World} (h:Cf B T a b) (k:Cf B T b c):Cf B T a c:=⟨h.bl.trans k.bl,fun x cs t f e n=>k.keep x cs t f (h.keep x cs t f e n) n⟩
theorem Fr.alloc {w:World} (h:Fr B T a w) (hB:B<=w.heap.size) (o:Obj):Fr B T a (w.alloc o) :=
 h.trans ⟨(Below.refl B w).alloc hB o,fun b _ _ _ e _=>(Below.heap_alloc w o b (af e)).trans e⟩
theorem Cf.alloc {w:World} (h:Cf B T a w) (hB:B<=w.heap.size) (o:Obj):Cf B T a (w.alloc o) :=
 h.trans ⟨(Below.refl B w).alloc hB o,fun b _ _ _ e _=>(Below.heap_alloc w o b (af e)).trans e⟩
theorem Fr.drew {w:World} (h:Fr B T a w):Fr B T a w.drew:=⟨h.bl.drew,h.keep⟩
theorem Cf.drew {w:World} (h:Cf B T a w):Cf B T a w.drew:=⟨h.bl.drew,h.keep⟩
theorem Fr.set {w:World} (h:Fr B T a w) {b i:Nat} {cs:Array Value} {t:TypeId} {f:Nat×Nat} (hb:w.heap[b]?=some (.cells cs t f)) (ht:jP T t) (hB:B<=b) (v:Value):Fr B T a (w.setCell ⟨b,i,none⟩ v):=by
 refine h.trans ⟨(Below.refl B w).setCell hB v,fun x cs' t' f' e n=>?_⟩
 by_cases hx:x=b
 ·subst hx;rw [hb] at e;simp at e;exact absurd (e.2.1▸ht) n
 ·rw [aA hx];exact e
theorem Cf.set {w:World} (h:Cf B T a w) {b i:Nat} {cs:Array Value} {t:TypeId} {f:Nat×Nat} (hb:w.heap[b]?=some (.cells cs t f)) (ht:¬jP T t) (hB:B<=b) (v:Value):Cf B T a (w.setCell ⟨b,i,none⟩ v):=by
 refine h.trans ⟨(Below.refl B w).setCell hB v,fun x cs' t' f' e n=>?_⟩
 by_cases hx:x=b
 ·subst hx;rw [hb] at e;simp at e;exact absurd (e.2.1▸n) ht
 ·rw [aA hx];exact e
end
section
variable {B:Nat} {T:TypeId} {w w':World}
theorem Cf.row (h:Cf B T w w') {e:TypeId} (he:jP T e) {base size n:Nat} {v:Value} {xs:List Value} (ho:w.ownsRow base e size v n xs):w'.ownsRow base e size v n xs:=by
 refine ⟨ho.1,?_⟩
 rcases ho.2 with h0|⟨g,cap,cur,h1,h2,h3,h4⟩
 ·exact Or.inl h0
 ·exact Or.inr ⟨g,cap,cur,h1,h2,h.keep _ _ _ _ h3 he,h4⟩
theorem wK.cf (h:Cf B T w w') {vo:Value} {l:List Ob} {hv:List Value} (ho:wK B w vo l hv):wK B w' vo l hv :=
 ⟨ho.len,h.row (.inr (.inl rfl)) ho.row,fun i hi=>h.row (.inr (.inr (.inl rfl))) (ho.held i hi),ho.apart⟩
end
theorem cD.cf {w0 w w':World} {g:Ad} {p:Nat} {h:Hp} {vo vx:Value} {hv:List Value} (H:cD w0 g w p h vo vx hv) (k:Cf w0.heap.size g.T w w'):cD w0 g w' p h vo vx hv :=
 ⟨H.own,k.keep _ _ _ _ H.blk (.inl rfl),Below.trans H.bl k.bl,k.row (.inr (.inr (.inr rfl))) H.out,H.obs.cf k⟩
theorem cD.base {w0 w:World} {g:Ad} {p:Nat} {h:Hp} {vo vx:Value} {hv:List Value} (H:cD w0 g w p h vo vx hv):w0.heap.size<=w.heap.size:=H.bl.size
structure I0 (g:Ad) (w:World) (p:Nat) (h:Hp) (vo vx:Value):Prop where
 c0:w.cell? ⟨p,0,none⟩=some (.slice g.A h.file.classes.length g.a)
 c1:w.cell? ⟨p,1,none⟩=some (.slice g.M h.file.methods.length g.m)
 c2:w.cell? ⟨p,2,none⟩=some vo
 c3:w.cell? ⟨p,3,none⟩=some (.slice g.I h.input.length g.i)
 c4:w.cell? ⟨p,4,none⟩=some (int i64 h.calls)
 c5:w.cell? ⟨p,5,none⟩=some (int i64 h.fuel)
 c6:w.cell? ⟨p,6,none⟩=some (int i64 h.sh.fin)
 c7:w.cell? ⟨p,7,none⟩=some (int i64 h.sh.value)
 c8:w.cell? ⟨p,8,none⟩=some (int i64 h.sh.cls)
 c9:w.cell? ⟨p,9,none⟩=some vx
 c10:w.cell? ⟨p,10,none⟩=some (int i64 h.sh.used)
 c11:w.cell? ⟨p,11,none⟩=some (int i64 h.sh.steps)
 c12:w.cell? ⟨p,12,none⟩=some (.bool h.over)
 c13:w.cell? ⟨p,13,none⟩=some (int i64 h.thrown)
section
variable {w0 w:World} {g:Ad} {p:Nat} {h:Hp} {vo vx:Value} {hv:List Value}
theorem cD.cells (H:cD w0 g w p h vo vx hv):I0 g w p h vo vx:=by
 constructor<;>(rw [aa H.blk];rfl)
theorem cD.free (H:cD w0 g w p h vo vx hv) (i:Nat):w.frozen? ⟨p,i,none⟩=false:=ay H.blk i
theorem cD.set (H:cD w0 g w p h vo vx hv) (k:Tk g.T) {i:Nat} {v:Value} (h':Hp) (hrow:(wJ g h vo vx).setIfInBounds i v=wJ g h' vo vx) (ho:h'.objs=h.objs) (hx:h'.sh.out=h.sh.out):cD w0 g (w.setCell ⟨p,i,none⟩ v) p h' vo vx hv:=by
 refine ⟨H.own,?_,Below.setCell H.bl H.own v,?_,?_⟩
 ·rw [ax H.blk,hrow]
 ·rw [hx];exact df H.out H.blk k.i v
 ·rw [ho];exact ⟨H.obs.len,df H.obs.row H.blk k.o v,fun i hi=>df (H.obs.held i hi) H.blk k.h v,H.obs.apart⟩
theorem cD.frSet (H:cD w0 g w p h vo vx hv) (i:Nat) (v:Value):Fr w0.heap.size g.T w (w.setCell ⟨p,i,none⟩ v) :=
 (Fr.refl _ _ w).set H.blk (.inl rfl) H.own v
end
section
variable {B:Nat} {T:TypeId} {a w:World}
theorem Fr.drewN (h:Fr B T a w) (n:Nat):Fr B T a (w.drewN n):=⟨⟨h.bl.os,h.bl.tape,h.bl.output,h.bl.size,h.bl.block⟩,h.keep⟩
theorem Cf.drewN (h:Cf B T a w) (n:Nat):Cf B T a (w.drewN n):=⟨⟨h.bl.os,h.bl.tape,h.bl.output,h.bl.size,h.bl.block⟩,h.keep⟩
end
section
variable {w0 w:World}
theorem cD.drewN {g:Ad} {p:Nat} {h:Hp} {vo vx:Value} {hv:List Value} (H:cD w0 g w p h vo vx hv) (n:Nat):cD w0 g (w.drewN n) p h vo vx hv:=H.cf ((Cf.refl _ _ w).drewN n)
theorem Hs.cf {w':World} {g:Ad} {p:Nat} {h:Hp} (H:Hs w0 g w p h) (k:Cf w0.heap.size g.T w w'):Hs w0 g w' p h:=by
 obtain ⟨vo,vx,hv,H⟩:=H
 exact ⟨vo,vx,hv,H.cf k⟩
theorem Hs.drewN {g:Ad} {p:Nat} {h:Hp} (H:Hs w0 g w p h) (n:Nat):Hs w0 g (w.drewN n) p h:=H.cf ((Cf.refl _ _ w).drewN n)
theorem Hs.base {g:Ad} {p:Nat} {h:Hp} (H:Hs w0 g w p h):w0.heap.size<=w.heap.size:=by
 obtain ⟨vo,vx,hv,H⟩:=H
 exact H.base
end
theorem Fr.new {B:Nat} {T:TypeId} {a w:World} (h:Fr B T a w) {b i:Nat} (hb:a.heap.size<=b) (hB:B<=b) (v:Value):Fr B T a (w.setCell ⟨b,i,none⟩ v):=by
 refine ⟨h.bl.setCell hB v,fun x cs t f e n=>?_⟩
 have:=af e
 rw [aA (by omega)]
 exact h.keep x cs t f e n
structure aP (w:World) (b:Nat) (v:Va):Prop where
 blk:w.heap[b]?=some (.cells #[int i64 v.kind,int i64 v.n] 62 (0,0))
section
variable {w:World} {b:Nat} {v:Va}
theorem aP.c0 (h:aP w b v):w.cell? ⟨b,0,none⟩=some (int i64 v.kind):=by rw [aa h.blk];rfl
theorem aP.c1 (h:aP w b v):w.cell? ⟨b,1,none⟩=some (int i64 v.n):=by rw [aa h.blk];rfl
theorem aP.fr (h:aP w b v) (i:Nat):w.frozen? ⟨b,i,none⟩=false:=ay h.blk i
end
theorem aP.keep {B:Nat} {T:TypeId} {w w':World} {b:Nat} {v:Va} (h:aP w b v) (k:Tk T) (f:Fr B T w w'):aP w' b v:=⟨f.keep _ _ _ _ h.blk k.nv⟩
theorem aP.new (w:World) (v:Va):aP (w.alloc (.cells #[int i64 v.kind,int i64 v.n] 62)) w.heap.size v:=⟨aD _ _ _⟩
section
variable {w:World} {b:Nat} {v:Va}
theorem aP.drewN (h:aP w b v) (n:Nat):aP (w.drewN n) b v:=⟨h.blk⟩
theorem aP.set (h:aP w b v) (u:Va):aP ((w.setCell ⟨b,0,none⟩ (int i64 u.kind)).setCell ⟨b,1,none⟩ (int i64 u.n)) b u :=
 ⟨by rw [ax (ax h.blk _)];rfl⟩
end
theorem aP.cf {B:Nat} {T:TypeId} {w:World} {b:Nat} {v:Va} (h:aP w b v) (k:Tk T) (hB:B<=b) (x y:Value):Cf B T w ((w.setCell ⟨b,0,none⟩ x).setCell ⟨b,1,none⟩ y) :=
 ((Cf.refl B T w).set h.blk k.nv hB x).set (ax h.blk x) k.nv hB y
section
variable (w0:World) (g:Ad)
theorem nN (k:Tk g.T) (p:Nat) (h:Hp) (how:Int) (w:World) (hH:Hs w0 g w p h) :
  Calls Tryz.prog 108 #[.pointer (some ⟨p,0,none⟩),int i64 how] w fun e w'=>e=.returned (.tuple #[])/\Hs w0 g w' p (h.fin how)/\Fr w0.heap.size g.T w w':=by
 obtain ⟨vo,vx,hv,H⟩:=hH
 have HH:Hid (cD w0 g w p h vo vx hv):=H
 have c12:=H.cells.c12
 have c6:=H.cells.c6
 have f12:=H.free 12
 have f6:=H.free 6
 clear H
 cases ho:h.over
 ·rw [ho] at c12
  have hf:h.fin how={ { h with over:=true } with sh:={ h.sh with fin:=how } }:=by unfold Hp.fin;rw [if_neg (by rw [ho];decide)]
  rw [hf]
  have H1:Hid (cD w0 g (w.setCell ⟨p,12,none⟩ (.bool true)) p { h with over:=true } vo vx hv):=HH.out.set k _ rfl rfl rfl
  have H2:Hid (cD w0 g ((w.setCell ⟨p,12,none⟩ (.bool true)).setCell ⟨p,6,none⟩ (int i64 how)) p { { h with over:=true } with sh:={ h.sh with fin:=how } } vo vx hv):=H1.out.set k _ rfl rfl rfl
  clear hf
  go_enter Tryz.func108,Tryz.ntmps108
  go_wp2
  go_end0
  exact ⟨rfl,⟨vo,vx,hv,H2.out⟩,(HH.out.frSet 12 _).trans (H1.out.frSet 6 _)⟩
 ·rw [ho] at c12
  have hf:h.fin how=h:=by unfold Hp.fin;rw [if_pos ho]
  rw [hf]
  clear hf
  go_enter Tryz.func108,Tryz.ntmps108
  go_wp2
  go_end0
  exact ⟨rfl,⟨vo,vx,hv,HH.out⟩,Fr.refl _ _ _⟩
theorem gQ (p:Nat) (h:Hp) (w:World) (hH:Hs w0 g w p h) :
  Calls Tryz.prog 112 #[.pointer (some ⟨p,0,none⟩)] w fun e w'=>e=.returned (.bool h.stops)/\w'=w:=by
 obtain ⟨vo,vx,hv,H⟩:=hH
 have c12:=H.cells.c12
 have c13:=H.cells.c13
 clear H
 cases ho:h.over
 ·rw [ho] at c12
  have hs:h.stops=decide (0<=h.thrown):=by unfold Hp.stops;rw [ho];rfl
  rw [hs]
  go_enter Tryz.func112,Tryz.ntmps112
  go_wp2
  all_goals
   go_ret
   exact ⟨aj (by simp [*]),rfl⟩
 ·rw [ho] at c12
  have hs:h.stops=true:=by unfold Hp.stops;rw [ho];rfl
  rw [hs]
  go_enter Tryz.func112,Tryz.ntmps112
  go_wp2
  go_ret
  exact ⟨rfl,rfl⟩
theorem bk (k:Tk g.T) (p:Nat) (h:Hp) (b:Bool) (w:World) (hH:Hs w0 g w p h) :
  Calls Tryz.prog 55 #[.pointer (some ⟨p,0,none⟩),.bool b] w fun e w'=>e=.returned (.bool (h.mustB b))/\Hs w0 g w' p (h.must b)/\Fr w0.heap.size g.T w w':=by
 have HH:Hid (Hs w0 g w p h):=hH
 obtain ⟨vo,vx,hv,H⟩:=hH
 have c12:=H.cells.c12
 clear H
 cases b
 ·go_enter Tryz.func55,Tryz.ntmps55
  go_wp2_with (go_at_call 108;refine (nN w0 g k p h 6 _ HH.out).mono ?_;rintro e w1 ⟨rfl,h1,f1⟩)
  go_ret
  exact ⟨rfl,h1,f1⟩
 ·go_enter Tryz.func55,Tryz.ntmps55
  go_wp2
  go_ret
  exact ⟨rfl,HH.out,Fr.refl _ _ _⟩
theorem wL (k:Tk g.T) (p:Nat) (h:Hp) (w:World) (hH:Hs w0 g w p h) (hs:0<=h.sh.steps/\h.sh.steps<=60000) :
  Calls Tryz.prog 54 #[.pointer (some ⟨p,0,none⟩)] w fun e w'=>e=.returned (.bool h.stepB)/\Hs w0 g w' p h.step/\Fr w0.heap.size g.T w w':=by
 have HH:Hid (Hs w0 g w p h):=hH
 obtain ⟨vo,vx,hv,H⟩:=hH
 have HA:Hid (cD w0 g w p h vo vx hv):=H
 have c12:=H.cells.c12
 have c11:=H.cells.c11
 have c5:=H.cells.c5
 have f11:=H.free 11
 clear H
 cases ho:h.over
 ·rw [ho] at c12
  by_cases hf:h.fuel<=h.sh.steps
  ·have e1:h.stepB=false:=by unfold Hp.stepB;rw [decide_eq_false (by omega),Bool.and_false]
   have e2:h.step=h.fin 0:=by unfold Hp.step;rw [if_neg (by rw [ho];decide),if_pos hf]
   rw [e1,e2]
   clear e1 e2
   have d1:decide (h.fuel<=h.sh.steps)=true:=decide_eq_true hf
   go_enter Tryz.func54,Tryz.ntmps54
   go_wp2
   go_quiet (fail)
   go_wp2_with (go_at_call 108;refine (nN w0 g k p h 0 _ (HH.out.drewN _)).mono ?_;rintro e w1 ⟨rfl,h1,f1⟩)
   go_ret
   exact ⟨rfl,h1,((Fr.refl _ _ w).drewN _).trans f1⟩
  ·have e1:h.stepB=true:=by unfold Hp.stepB;rw [decide_eq_true (by omega),ho];rfl
   have e2:h.step={ h with sh:={ h.sh with steps:=h.sh.steps+1 } }:=by unfold Hp.step;rw [if_neg (by rw [ho];decide),if_neg hf]
   rw [e1,e2]
   clear e1 e2
   have d1:decide (h.fuel<=h.sh.steps)=false:=decide_eq_false hf
   go_enter Tryz.func54,Tryz.ntmps54
   go_wp2
   go_quiet (fail)
   go_wp2
   go_ret
   exact ⟨rfl,⟨vo,vx,hv,(HA.out.drewN _).set k _ rfl rfl rfl⟩,((Fr.refl _ _ w).drewN _).trans ((HA.out.drewN _).frSet 11 _)⟩
 ·rw [ho] at c12
  have e1:h.stepB=false:=by unfold Hp.stepB;rw [ho];rfl
  have e2:h.step=h:=by unfold Hp.step;rw [if_pos ho]
  rw [e1,e2]
  clear e1 e2
  go_enter Tryz.func54,Tryz.ntmps54
  go_wp2
  go_ret
  exact ⟨rfl,HH.out,Fr.refl _ _ _⟩
end
theorem bp:(Tryz.prog.info? 62).map (·.size)=some 2:=by kernel_rfl
theorem Ml (w0:World) (g:Ad) (k:Tk g.T) (p:Nat) (h:Hp) (w:World) (hH:Hs w0 g w p h) (hI:cL w0 g.I h.input) (hu:0<=h.sh.used) :
  Calls Tryz.prog 164 #[.pointer (some ⟨p,0,none⟩)] w fun e w'=>e=.returned (iE h.inV)/\Hs w0 g w' p h.input'/\Fr w0.heap.size g.T w w':=by
 have hal:Cf w0.heap.size g.T w (w.alloc (.cells #[int i64 0,int i64 0] 62)):=(Cf.refl _ _ w).alloc hH.base _
 have HF:Hid (Fr w0.heap.size g.T w (w.alloc (.cells #[int i64 0,int i64 0] 62))):=(Fr.refl _ _ w).alloc hH.base _
 have hm:=hI.1
 have cI:=hH.base
 unfold maxLen at hm
 obtain ⟨vo,vx,hv,H⟩:=hH
 have HA:Hid (cD w0 g (w.alloc (.cells #[int i64 0,int i64 0] 62)) p h vo vx hv):=H.cf hal
 have c3:=HA.out.cells.c3
 have c10:=HA.out.cells.c10
 have f10:=HA.out.free 10
 have hlt:p<w.heap.size:=af H.blk
 have HI:Hid (cL (w.alloc (.cells #[int i64 0,int i64 0] 62)) g.I h.input):=hI.bl HA.out.bl
 have HR:Hid (aP (w.alloc (.cells #[int i64 0,int i64 0] 62)) w.heap.size ag):=aP.new w ag
 clear H hal hI
 by_cases hd:(h.input.length:Int)<=h.sh.used
 ·have e0:h.dry=true:=decide_eq_true hd
  have e1:h.inV=ag:=by unfold Hp.inV;rw [if_pos e0]
  have e2:h.input'=h.fin 3:=by unfold Hp.input';rw [if_pos e0]
  rw [e1,e2]
  clear e0 e1 e2
  have d1:decide ((h.input.length:Int)<=h.sh.used)=true:=decide_eq_true hd
  go_enter Tryz.func164,Tryz.ntmps164
  go_wp2
  go_quiet (fail)
  go_wp2_with (go_at_call 108;refine (nN w0 g k p h 3 _ ⟨vo,vx,hv,HA.out.drewN _⟩).mono ?_;rintro e w1 ⟨rfl,h1,f1⟩;have b1:=(HR.out.drewN _).keep k f1;have r0:=b1.c0;have r1:=b1.c1;have r2:=b1.fr 0;have r3:=b1.fr 1;have kW:Hid (aP w1 w.heap.size ag):=b1;clear b1)
  (try simp only [Exit.inBlock,Exit.then])
  refine bodyPost_ret (results_cell_row rfl _ _ w.heap.size _ _ _ _ rfl (kW.out.set ag).blk Tryz.underlying62 rfl bp) rfl ?_
  exact ⟨rfl,h1.cf (kW.out.cf k cI _ _),(((HF.out.drewN _).trans f1).new (Nat.le_refl _) cI _).new (Nat.le_refl _) cI _⟩
 ·have e0:h.dry=false:=decide_eq_false hd
  obtain ⟨q,hq⟩:∃q:Nat,h.sh.used=q:=⟨h.sh.used.toNat,by omega⟩
  have eR:q<h.input.length:=by omega
  rcases HI.out.2 with h0|⟨b,off,hA,hc⟩
  ·omega
  have hcell:=(hc q eR).1
  have e1:h.inV=⟨2,nth (0:Int) h.input q⟩:=by unfold Hp.inV;rw [if_neg (by rw [e0];decide),hq];rfl
  have e2:h.input'={ h with sh:={ h.sh with used:=(q:Int)+1 } }:=by unfold Hp.input';rw [if_neg (by rw [e0];decide),hq]
  rw [e1,e2]
  clear e0 e1 e2 hc
  rw [hA] at c3
  rw [hq] at c10
  have d1:decide ((h.input.length:Int)<=(q:Int))=false:=decide_eq_false (by omega)
  have cV:(0:Int)<=(q:Int):=by omega
  have mN:(q:Int)<(h.input.length:Int):=by omega
  clear hq hd hu hA
  have H2:Hid (∀n,cD w0 g (((w.alloc (.cells #[int i64 0,int i64 0] 62)).drewN n).setCell ⟨p,10,none⟩ (int i64 ((q:Int)+1))) p { h with sh:={ h.sh with used:=(q:Int)+1 } } vo vx hv):=fun n=>(HA.out.drewN n).set k _ rfl rfl rfl
  have R2:Hid (∀n,aP (((w.alloc (.cells #[int i64 0,int i64 0] 62)).drewN n).setCell ⟨p,10,none⟩ (int i64 ((q:Int)+1))) w.heap.size ag):=fun n=>(HR.out.drewN n).keep k ((HA.out.drewN n).frSet 10 _)
  have F2:Hid (∀n,Fr w0.heap.size g.T w (((w.alloc (.cells #[int i64 0,int i64 0] 62)).drewN n).setCell ⟨p,10,none⟩ (int i64 ((q:Int)+1)))):=fun n=>(HF.out.drewN n).trans ((HA.out.drewN n).frSet 10 _)
  go_enter Tryz.func164,Tryz.ntmps164
  go_wp2
  go_quiet (fail)
  go_wp2
  go_quiet (fail)
  go_wp2
  (try simp only [Exit.inBlock,Exit.then])
  refine bodyPost_ret (results_cell_row rfl _ _ w.heap.size _ _ _ _ rfl ((R2.out _).set ⟨2,nth (0:Int) h.input q⟩).blk Tryz.underlying62 rfl bp) rfl ?_
  exact ⟨rfl,⟨vo,vx,hv,(H2.out _).cf ((R2.out _).cf k cI _ _)⟩,((F2.out _).new (Nat.le_refl _) cI _).new (Nat.le_refl _) cI _⟩
theorem wM:∀(l:List Ob) (hv:List Value) (i:Nat),hv.length=l.length->i<l.length->(dw l hv)[i*2]?=some (int i64 (nth cB l i).cls)/\(dw l hv)[i*2+1]?=some (nth hv0 hv i)
 | [],_,i,_,h=>by simp at h
 | o::l,[],i,h,_=>by simp at h
 | o::l,v::hv,0,_,_=>by simp [dw,nth]
 | o::l,v::hv,i+1,h,hi=>by
  have:=wM l hv i (by simpa using h) (by simpa using hi)
  have e:(i+1)*2=i*2+1+1:=by omega
  rw [e]
  simpa [dw,nth] using this
theorem EA {w:World} {base:Nat} {e:TypeId} {size n:Nat} {v:Value} {xs:List Value} (ho:w.ownsRow base e size v n xs) (hn:0<n) :
  ∃gb cap,v=.slice (some ⟨gb,0,none⟩) n cap/\base<=gb/\n<=maxLen/\∀j,j<n*size->w.cell? ⟨gb,j,none⟩=xs[j]?:=by
 rcases ho.2 with ⟨-,h0⟩|⟨gb,cap,cur,rfl,h2,h3,h4,h5,h6,h7⟩
 ·omega
 ·refine ⟨gb,cap,rfl,h2,by omega,fun j hj=>?_⟩
  rw [aa h3,<-h7,List.getElem?_take,if_pos hj]
  simp
theorem kj {B:Nat} {w:World} {vo:Value} {l:List Ob} {hv:List Value} (h:wK B w vo l hv) (hn:0<l.length) :
  ∃gb cap,vo=.slice (some ⟨gb,0,none⟩) l.length cap/\B<=gb/\l.length<=maxLen/\∀i,i<l.length->w.cell? ⟨gb,i*2,none⟩=some (int i64 (nth cB l i).cls)/\w.cell? ⟨gb,i*2+1,none⟩=some (nth hv0 hv i):=by
 obtain ⟨gb,cap,e,hb,hm,hc⟩:=EA h.row hn
 refine ⟨gb,cap,e,hb,hm,fun i hi=>?_⟩
 have:=wM l hv i h.len hi
 exact ⟨(hc _ (by omega)).trans this.1,(hc _ (by omega)).trans this.2⟩
abbrev cT (v:Va):Obj:=.cells #[int i64 v.kind,int i64 v.n] 62
abbrev OB (t:Ty):Obj:=.cells #[int i64 t.kind,int i64 t.cls] 45
abbrev VA (t:Ty):Value:=.agg #[int i64 t.kind,int i64 t.cls]
theorem jn (w0:World) (g:Ad) (p:Nat) (h:Hp) (v:Va) (t:Ty) (w:World) (hH:Hs w0 g w p h) (hA:ct w0 g.A h.file.classes) (ht:Tree h.file.classes) (kX:v.kind=3->v.n<h.objs.length) :
  Calls Tryz.prog 57 #[.pointer (some ⟨p,0,none⟩),iE v,VA t] w fun e w'=>e=.returned (.bool (h.of v t))/\Hs w0 g w' p h/\Fr w0.heap.size g.T w w'/\Bl w w':=by
 have cI:=hH.base
 have hal:Cf w0.heap.size g.T w ((w.alloc (cT v)).alloc (OB t)):=((Cf.refl _ _ w).alloc cI _).alloc (by simp;omega) _
 have HF:Hid (Fr w0.heap.size g.T w ((w.alloc (cT v)).alloc (OB t))):=((Fr.refl _ _ w).alloc cI _).alloc (by simp;omega) _
 have o5:Hid (Bl w ((w.alloc (cT v)).alloc (OB t))):=((Bl.refl _).alloc _).alloc _
 obtain ⟨vo,vx,hv,H⟩:=hH
 have HA:Hid (cD w0 g ((w.alloc (cT v)).alloc (OB t)) p h vo vx hv):=H.cf hal
 have HT:Hid (Tree h.file.classes):=ht
 have HC:Hid (ct ((w.alloc (cT v)).alloc (OB t)) g.A h.file.classes):=hA.bl HA.out.bl
 have c0:=HA.out.cells.c0
 have c2:=HA.out.cells.c2
 clear H hal hA ht
 by_cases e1:v.kind=t.kind
 ·by_cases e3:t.kind=3
  ·by_cases en:v.n<0
   ·have hr:h.of v t=true:=by unfold Hp.of;rw [decide_eq_true e1,decide_eq_true en];simp
    rw [hr]
    obtain ⟨vk,vn⟩:=v
    obtain ⟨tk,tc⟩:=t
    dsimp only at e1 e3 en
    subst e3
    subst e1
    have d1:decide (vn<0)=true:=decide_eq_true en
    go_enter Tryz.func57,Tryz.ntmps57
    go_wp2
    go_quiet (fail)
    go_wp2
    go_ret
    exact ⟨rfl,⟨vo,vx,hv,HA.out.drewN _⟩,HF.out.drewN _,aR o5.out _⟩
   ·obtain ⟨vk,vn⟩:=v
    obtain ⟨tk,tc⟩:=t
    dsimp only at e1 e3 en kX
    subst e3
    subst e1
    obtain ⟨q,rfl⟩:∃q:Nat,vn=q:=⟨vn.toNat,by omega⟩
    have hq:=kX rfl
    have eR:q<h.objs.length:=by omega
    obtain ⟨gb,cap,mY,-,yE,hc⟩:=kj HA.out.obs (by omega)
    have ho:=(hc q eR).1
    rw [mY] at c2
    unfold maxLen at yE
    have hr:h.of ⟨3,q⟩ ⟨3,tc⟩=(kU h.file.classes (nth cB h.objs q).cls tc&&fK h.file.classes (nth cB h.objs q).cls.toNat tc.toNat):=by
     unfold Hp.of Hp.obj gH;rw [decide_eq_false en];simp
    rw [hr]
    obtain ⟨R,hR⟩:∃R,(kU h.file.classes (nth cB h.objs q).cls tc&&fK h.file.classes (nth cB h.objs q).cls.toNat tc.toNat)=R:=⟨_,rfl⟩
    rw [hR]
    have d1:decide ((q:Int)<0)=false:=decide_eq_false en
    have cV:(0:Int)<=(q:Int):=by omega
    have mN:(q:Int)<(h.objs.length:Int):=by omega
    clear hr hc kX mY en
    generalize hX:(nth cB h.objs q).cls=X at *
    clear hX
    go_enter Tryz.func57,Tryz.ntmps57
    go_wp2
    go_quiet ((go_at_call 110;exact Calls.quiet_of_same ((fO _ _ _ _ _ _ (HC.out.bl (aR (Bl.refl _) _)) HT.out).mono fun e w' hh=>⟨hh.1.trans (aj hR),hh.2⟩)))
    go_wp2
    go_ret
    exact ⟨rfl,⟨vo,vx,hv,HA.out.drewN _⟩,HF.out.drewN _,aR o5.out _⟩
  ·have hr:h.of v t=true:=by unfold Hp.of;rw [decide_eq_true e1,decide_eq_true e3];simp
   rw [hr]
   obtain ⟨vk,vn⟩:=v
   obtain ⟨tk,tc⟩:=t
   dsimp only at e1 e3
   subst e1
   have d1:(vk !=3)=true:=by simpa using e3
   clear e3
   go_enter Tryz.func57,Tryz.ntmps57
   go_wp2
   go_quiet (fail)
   go_wp2
   go_ret
   exact ⟨rfl,⟨vo,vx,hv,HA.out.drewN _⟩,HF.out.drewN _,aR o5.out _⟩
 ·have hr:h.of v t=false:=by unfold Hp.of;rw [decide_eq_false e1];rfl
  rw [hr]
  have d1:(v.kind !=t.kind)=true:=by simpa using e1
  clear e1
  go_enter Tryz.func57,Tryz.ntmps57
  go_wp2
  go_ret
  exact ⟨rfl,⟨vo,vx,hv,HA.out⟩,HF.out,o5.out⟩
theorem EB:(Tryz.prog.info? 2).map (fun i=>(i.zero,i.size,i.bytes))=some (some (int i64 0),1,8):=by kernel_rfl
theorem cD.outs {w0 w w2:World} {g:Ad} {p:Nat} {h:Hp} {vo vx:Value} {hv:List Value} (H:cD w0 g w p h vo vx hv) (k:Tk g.T) (hg:w.grownBy w2 vx.ownBlock) {n:Int} {v':Value}
  (ho:w2.ownsRow w0.heap.size 2 1 v' (h.sh.out.length+1) (h.sh.out.map (Value.int .i64)++[int i64 n])) :
  cD w0 g (w2.setCell ⟨p,9,none⟩ v') p { h with sh:={ h.sh with out:=h.sh.out++[n] } } vo v' hv/\Fr w0.heap.size g.T w (w2.setCell ⟨p,9,none⟩ v'):=by
 have hp:w2.heap[p]?=some (.cells (wJ g h vo vx) g.T (0,0)):=dg hg H.out H.blk k.i
 have hbl:=mH hg H.out H.base
 refine ⟨⟨H.own,by rw [ax hp];rfl,Below.setCell (Below.trans H.bl hbl) H.own _,?_,?_⟩,?_⟩
 ·have:=df (i:=9) ho hp k.i v'
  simpa using this
 ·exact ⟨H.obs.len,df (jZ hg H.out H.obs.row (by decide)) hp k.o _,fun i hi=>df (jZ hg H.out (H.obs.held i hi) (by decide)) hp k.h _,H.obs.apart⟩
 ·refine Fr.set ⟨hbl,fun b cs t f e n=>dg hg H.out e fun ht=>n (ht▸.inr (.inr (.inr rfl)))⟩ hp (.inl rfl) H.own _
theorem EC (w0:World) (g:Ad) (k:Tk g.T) (p:Nat) (h:Hp) (v:Va) (kd:Int) (w:World) (hH:Hs w0 g w p h) (ho:h.sh.out.length<=60000) :
  Calls Tryz.prog 114 #[.pointer (some ⟨p,0,none⟩),iE v,int i64 kd] w fun e w'=>e=.returned (.tuple #[])/\Hs w0 g w' p (h.emit v kd)/\Fr w0.heap.size g.T w w':=by
 obtain ⟨i0,th,sj,tj,tl⟩:=info_parts EB
 have cI:=hH.base
 have HF:Hid (Fr w0.heap.size g.T w (w.alloc (cT v))):=(Fr.refl _ _ w).alloc cI _
 have HH:Hid (Hs w0 g (w.alloc (cT v)) p h):=hH.cf ((Cf.refl _ _ w).alloc cI _)
 have HV:Hid (aP (w.alloc (cT v)) w.heap.size v):=aP.new w v
 clear hH
 cases hm:h.mustB (decide (v.kind=kd))
 ·have hr:h.emit v kd=h.must (decide (v.kind=kd)):=by unfold Hp.emit;rw [if_neg (by rw [hm];decide)]
  rw [hr]
  clear hr
  have hq:(v.kind==kd)=decide (v.kind=kd):=by rw [Bool.eq_iff_iff];simp
  go_enter Tryz.func114,Tryz.ntmps114
  go_wp2_with (go_at_call 55;refine (bk w0 g k p h _ _ HH.out).mono ?_;rintro e w1 ⟨he,h1,f1⟩;rw [hm] at he;subst he)
  go_end0
  exact ⟨rfl,h1,HF.out.trans f1⟩
 ·have hd:decide (v.kind=kd)=true:=by unfold Hp.mustB at hm;simp at hm;simpa using hm.1
  have hk:v.kind=kd:=of_decide_eq_true hd
  have br:h.over=false:=by unfold Hp.mustB at hm;simp at hm;exact hm.2
  have hr:h.emit v kd={ h with sh:={ h.sh with out:=h.sh.out++[v.n] } }:=by unfold Hp.emit;rw [if_pos hm]
  rw [hr]
  have xX:h.must true=h:=rfl
  have kr:h.mustB true=true:=by unfold Hp.mustB;rw [br];rfl
  subst hk
  clear hr hd hm br
  go_enter Tryz.func114,Tryz.ntmps114
  go_wp2_with (go_at_call 55;refine (bk w0 g k p h true _ HH.out).mono ?_;rintro e w1 ⟨he,h1,f1⟩;rw [kr] at he;subst he;have b1:=HV.out.keep k f1;have HB:Hid (aP w1 w.heap.size v):=b1;have r1:=b1.c1;have tr:=af b1.blk;clear b1;obtain ⟨vo,vx,hv,H⟩:=h1;have HA:Hid (cD w0 g w1 p h vo vx hv):=H;have c9:=H.cells.c9;have f9:=H.free 9;have vl:=af H.blk;have hb1:=H.base;clear H)
  have HO:Hid (w1.ownsRow w0.heap.size 2 1 vx h.sh.out.length (h.sh.out.map (Value.int .i64))):=HA.out.out
  go_region_law ((refine step_append_lies _ (by rfl) _ _ _ (by rfl) w0.heap.size 2 i0 _ 1 8 Tryz.underlying26 th sj tj tl rfl (by omega) vx h.sh.out.length (h.sh.out.map (Value.int .i64)) (by rfl) ((HO.out.alloc _).drew) ⟨w1.heap.size,0,none⟩ 1 1 [int i64 v.n] (by rfl) (by rfl) (World.news_of_block (cs:=#[int i64 v.n]) (t:=2) (fr:=(0,0)) (heap_alloc_new w1 _)) (by simp [Value.oneCell']) (by omega) (by unfold maxLen;omega) (by omega) (by simp;omega) (w1.heap.size+1) (by simp) ?_;intro gg cap w2 lF bL hat hlt;have mK:=dg bL ((HO.out.alloc _).drew) (HA.out.cf (((Cf.refl _ _ w1).alloc hb1 _).drew)).blk k.i;have q9:w2.cell? ⟨p,9,none⟩=some vx:=(aa mK).trans rfl;have z9:=ay mK 9;have dB:=dg bL ((HO.out.alloc _).drew) (HB.out.keep k (((Fr.refl w0.heap.size _ w1).alloc hb1 _).drew)).blk (by decide);have q1:w2.cell? ⟨w.heap.size,1,none⟩=some (int i64 v.n):=(aa dB).trans rfl;clear mK dB))
  all_goals go_wp2
  all_goals
   go_end0
   have hh:=cD.outs (HA.out.cf (((Cf.refl _ _ w1).alloc hb1 _).drew)) k bL lF
   exact ⟨rfl,⟨vo,_,hv,hh.1⟩,((HF.out.trans f1).trans (((Fr.refl _ _ w1).alloc hb1 _).drew)).trans hh.2⟩
theorem qG (l k:List pB):cS (l++k)=cS l++cS k:=by
 induction l with
 | nil=>rfl
 | cons x l ih=>simp [cS,ih]
theorem lG:∀(l:List Ob) (hv:List Value) (o:Ob) (v:Value),hv.length=l.length->dw (l++[o]) (hv++[v])=dw l hv++[int i64 o.cls,v]
 | [],[],o,v,_=>rfl
 | [],_::_,_,_,h=>by simp at h
 | _::_,[],_,_,h=>by simp at h
 | a::l,b::hv,o,v,h=>by simp [dw,lG l hv o v (by simpa using h)]
def dP (cs:List Cl) (c q:Nat):List pB:=(List.range q).flatMap (iA cs c)
def dG (cs:List Cl) (d k:Nat):List pB:=(List.range k).map (fun j=>⟨(d:Nat),(j:Nat),jc (nth cN (nth cg cs d).fields j)⟩)
theorem qH {cs:List Cl} {c q:Nat} (h:fK cs c q=false):dP cs c (q+1)=dP cs c q:=by
 unfold dP;rw [List.range_succ,List.flatMap_append];simp [iA,h]
theorem sy {cs:List Cl} {c q:Nat} (h:fK cs c q=true):dP cs c (q+1)=dP cs c q++dG cs q (nth cg cs q).fields.length:=by
 unfold dP dG;rw [List.range_succ,List.flatMap_append];simp [iA,h]
section
variable (cs:List Cl) (d:Nat)
theorem rQ:dG cs d 0=[]:=rfl
theorem rR (k:Nat):dG cs d (k+1)=dG cs d k++[⟨(d:Nat),(k:Nat),jc (nth cN (nth cg cs d).fields k)⟩]:=by
 unfold dG;rw [List.range_succ,List.map_append];rfl
theorem kT (k:Nat):(dG cs d k).length=k:=by simp [dG]
end
theorem sA {cs:List Cl} (hf:∀d,d<cs.length->(nth cg cs d).fields.length<=6) (c:Nat):∀q,q<=cs.length->(dP cs c q).length<=6*q
 | 0,_=>by simp [dP]
 | q+1,h=>by
  have h1:=sA hf c q (by omega)
  have h2:=hf q (by omega)
  cases hb:fK cs c q
  ·rw [qH hb];omega
  ·rw [sy hb,List.length_append,kT];omega
theorem yF (cs:List Cl) (c:Nat):dA cs c=dP cs c cs.length:=rfl
theorem tG {w w':World} (hb:Bl w w') {base:Nat} {e:TypeId} {size n:Nat} {v:Value} {xs:List Value} (ho:w.ownsRow base e size v n xs):w'.ownsRow base e size v n xs:=by
 refine ⟨ho.1,?_⟩
 rcases ho.2 with h0|⟨gb,cap,cur,h1,h2,h3,h4⟩
 ·exact Or.inl h0
 ·exact Or.inr ⟨gb,cap,cur,h1,h2,(hb.block gb (af h3)).trans h3,h4⟩
theorem cD.old {w0 w w':World} {g:Ad} {p:Nat} {h:Hp} {vo vx:Value} {hv:List Value} (H:cD w0 g w p h vo vx hv) (hb:Bl w w'):cD w0 g w' p h vo vx hv :=
 ⟨H.own,(hb.block p (af H.blk)).trans H.blk,Bl.trans H.bl hb,tG hb H.out,⟨H.obs.len,tG hb H.obs.row,fun i hi=>tG hb (H.obs.held i hi),H.obs.apart⟩⟩
theorem Fr.old {B:Nat} {T:TypeId} {w w':World} (hB:B<=w.heap.size) (hb:Bl w w'):Fr B T w w' :=
 ⟨Below.mono hb hB,fun b _ _ _ e _=>(hb.block b (af e)).trans e⟩
theorem EE {w:World} {base mr:Nat} {e:TypeId} {size n:Nat} {v:Value} {xs:List Value} (ho:w.ownsRow base e size v n xs) (hb:mr<=base):w.ownsRow mr e size v n xs:=by
 refine ⟨ho.1,?_⟩
 rcases ho.2 with h0|⟨gb,cap,cur,h1,h2,h3,h4⟩
 ·exact Or.inl h0
 ·exact Or.inr ⟨gb,cap,cur,h1,by omega,h3,h4⟩
theorem jU {α:Type} {d:α} {l k:List α} {i:Nat} (h:i<l.length):nth d (l++k) i=nth d l i:=by
 simp [nth,List.getD,List.getElem?_append_left h]
theorem jV {α:Type} {d x:α} {l:List α}:nth d (l++[x]) l.length=x:=by simp [nth,List.getD]
theorem cD.objsAdd {w0 w w2:World} {g:Ad} {p:Nat} {h:Hp} {vo vx:Value} {hv:List Value} (H:cD w0 g w p h vo vx hv) (k:Tk g.T) (hg:w.grownBy w2 vo.ownBlock) {o:Ob} {u v':Value} {S:Nat}
  (ho:w2.ownsRow w0.heap.size 125 2 v' (h.objs.length+1) (dw h.objs hv++[int i64 o.cls,u]))
  (hu:w.ownsRow S 214 4 u o.held.length (cS o.held)) (hS:w0.heap.size<=S) (hlt:∀i,i<h.objs.length->∀b,(nth hv0 hv i).ownBlock=some b->b<S) :
  cD w0 g (w2.setCell ⟨p,2,none⟩ v') p { h with objs:=h.objs++[o] } v' vx (hv++[u])/\Fr w0.heap.size g.T w (w2.setCell ⟨p,2,none⟩ v'):=by
 have hp:w2.heap[p]?=some (.cells (wJ g h vo vx) g.T (0,0)):=dg hg H.obs.row H.blk k.o
 have hbl:=mH hg H.obs.row H.base
 refine ⟨⟨H.own,by rw [ax hp];rfl,Below.setCell (Below.trans H.bl hbl) H.own _,df (jZ hg H.obs.row H.out (by decide)) hp k.i _,?_,?_,?_,?_⟩,?_⟩
 ·simp [H.obs.len]
 ·have:=df (i:=2) ho hp k.o v'
  rw [lG _ _ _ _ H.obs.len]
  simpa using this
 ·intro i hi
  simp only [List.length_append,List.length_singleton] at hi
  by_cases hl:i<h.objs.length
  ·rw [jU hl,jU (by rw [H.obs.len];exact hl)]
   exact df (jZ hg H.obs.row (H.obs.held i hl) (by decide)) hp k.h _
  ·obtain rfl:i=h.objs.length:=by omega
   rw [jV]
   have e:nth hv0 (hv++[u]) h.objs.length=u:=by rw [<-H.obs.len];exact jV
   rw [e]
   exact df (jZ hg H.obs.row (EE hu hS) (by decide)) hp k.h _
 ·have key:∀i,i<h.objs.length->(nth hv0 (hv++[u]) i)=nth hv0 hv i:=fun i hi=>jU (by rw [H.obs.len];exact hi)
  have e:nth hv0 (hv++[u]) h.objs.length=u:=by rw [<-H.obs.len];exact jV
  intro i j hi hj VB
  simp only [List.length_append,List.length_singleton] at hi hj
  by_cases hl:i<h.objs.length
  ·rw [key i hl]
   by_cases zT:j<h.objs.length
   ·rw [key j zT];exact H.obs.apart i j hl zT VB
   ·obtain rfl:j=h.objs.length:=by omega
    rw [e]
    cases Ku:(nth hv0 hv i).ownBlock with
    | none=>exact Or.inl rfl
    | some b =>
     right
     intro hc
     have h1:=hlt i hl b Ku
     have h2:=(hu.lt b hc.symm).1
     omega
  ·obtain rfl:i=h.objs.length:=by omega
   rw [e,key j (by omega)]
   cases Ku:u.ownBlock with
   | none=>exact Or.inl rfl
   | some b =>
    right
    intro hc
    have h1:=hlt j (by omega) b hc.symm
    have h2:=(hu.lt b Ku).1
    omega
 ·refine Fr.set ⟨hbl,fun b cs t f e n=>dg hg H.obs.row e fun ht=>n (ht▸.inr (.inl rfl))⟩ hp (.inl rfl) H.own _
theorem I1:(Tryz.prog.info? 214).map (fun i=>(i.zero,i.size,i.bytes))=some (some (.agg #[int i64 0,int i64 0,int i64 0,int i64 0]),4,32):=by kernel_rfl
theorem I2:(Tryz.prog.info? 125).map (fun i=>(i.zero,i.size,i.bytes))=some (some (.agg #[int i64 0,.slice none 0 0]),2,32):=by kernel_rfl
abbrev iy:Obj:=.cells #[int i64 0,int i64 0] 62
structure Mk (w wr:World) (c:Int) (u:Value) (l:List pB):Prop where
 bl:Bl w wr
 res:aP wr w.heap.size ag
 box:wr.heap[w.heap.size+1]?=some (.cells #[int i64 c,u] 125 (0,0))
 row:wr.ownsRow (w.heap.size+2) 214 4 u l.length (cS l)
section
variable {w wr:World} {c:Int} {u:Value} {l:List pB}
theorem Mk.lt (h:Mk w wr c u l):w.heap.size+1<wr.heap.size:=af h.box
theorem Mk.alloc (h:Mk w wr c u l) (o:Obj):Mk w (wr.alloc o) c u l :=
 ⟨h.bl.alloc o,⟨(Below.heap_alloc _ _ _ (af h.res.blk)).trans h.res.blk⟩,(Below.heap_alloc _ _ _ h.lt).trans h.box,h.row.alloc o⟩
theorem Mk.far (h:Mk w wr c u l) {b i:Nat} {cs:Array Value} {t:TypeId} {f:Nat×Nat} (hb:wr.heap[b]?=some (.cells cs t f)) (ht:t≠214) (h2:w.heap.size+1<b) (v:Value):Mk w (wr.setCell ⟨b,i,none⟩ v) c u l :=
 ⟨h.bl.setCell (by show w.heap.size<=b;omega) v,⟨by rw [aA (by omega)];exact h.res.blk⟩,by rw [aA (by omega)];exact h.box,df h.row hb ht v⟩
end
theorem Mk.more {w wr w2:World} {c:Int} {u u':Value} {l:List pB} {x:pB} (h:Mk w wr c u l) (hg:wr.grownBy w2 u.ownBlock)
  (ho:w2.ownsRow (w.heap.size+2) 214 4 u' (l.length+1) (cS l++cS [x])):Mk w (w2.setCell ⟨w.heap.size+1,1,none⟩ u') c u' (l++[x]):=by
 have hx:=dg hg h.row h.box (by decide)
 refine ⟨?_,⟨by rw [aA (by omega)];exact dg hg h.row h.res.blk (by decide)⟩,by rw [ax hx];rfl,?_⟩
 ·have hb:Bl w w2:=Below.trans h.bl (Below.mono (mH hg h.row h.lt) (by omega))
  exact hb.setCell (by show w.heap.size<=w.heap.size+1;omega) _
 ·have:=df (i:=1) ho hx (by decide) u'
  rw [qG]
  simpa using this
theorem sB (w6:World) (o o':Obj) (a b c d:Value) (t:TypeId):∀(j:Nat) (u:Value),[a,b,c,d][j]?=some u->(((w6.alloc o).alloc o').alloc (.cells #[a,b,c,d] t)).cell? ((⟨w6.heap.size+1+1,0,none⟩:Addr).add j)=some u:=by
 have h2:((w6.alloc o).alloc o').heap.size=w6.heap.size+1+1:=by rw [World.size_alloc,World.size_alloc]
 intro j u hj
 have hb:=aD ((w6.alloc o).alloc o') #[a,b,c,d] t
 rw [h2] at hb
 rw [show ((⟨w6.heap.size+1+1,0,none⟩:Addr).add j)=⟨w6.heap.size+1+1,j,none⟩ from by simp [Addr.add];intro h;exact h.symm,aa hb]
 simpa using hj
theorem Mk.start (w:World) (c:Int):Mk w ((w.alloc iy).alloc (.cells #[int i64 c,.slice none 0 0] 125)) c (.slice none 0 0) []:=by
 have h1:(w.alloc iy).heap.size=w.heap.size+1:=World.size_alloc ..
 refine ⟨((Bl.refl w).alloc _).alloc _,⟨?_⟩,?_,World.ownsRow_nil _ _ _ _⟩
 ·rw [Below.heap_alloc _ _ _ (by omega)];exact aD _ _ _
 ·rw [<-h1];exact aD _ _ _
theorem tH (w0:World) (g:Ad) (k:Tk g.T) (p:Nat) (h:Hp) (c:Int) (w:World) (hH:Hs w0 g w p h) (hA:ct w0 g.A h.file.classes) (ht:Tree h.file.classes) (hc:0<=c/\c<h.file.classes.length)
  (hcl:h.file.classes.length<=12) (hf:∀d,d<h.file.classes.length->(nth cg h.file.classes d).fields.length<=6) :
  Calls Tryz.prog 161 #[.pointer (some ⟨p,0,none⟩),int i64 c] w fun e w'=>e=.returned (iE h.newV)/\Hs w0 g w' p (h.new c)/\Fr w0.heap.size g.T w w':=by
 obtain ⟨i0,th,sj,tj,tl⟩:=info_parts I1
 obtain ⟨i1,NJ,VC,VD,VE⟩:=info_parts I2
 have cI:=hH.base
 obtain ⟨vo,vx,hv,H⟩:=hH
 have HA:Hid (cD w0 g w p h vo vx hv):=H
 have Ht:=af H.blk
 have Ro:Hid (Bl w (w.alloc iy)):=(Bl.refl w).alloc _
 have ea:Hid (aP (w.alloc iy) w.heap.size ag):=aP.new w ag
 have c2:=(H.old Ro.out).cells.c2
 have HT:Hid (Tree h.file.classes):=ht
 have HC:Hid (ct w g.A h.file.classes):=hA.bl H.bl
 have tI:Hid (∀q,q<=h.file.classes.length->(dP h.file.classes c.toNat q).length<=6*q):=sA hf c.toNat
 have VF:Hid (∀d,d<h.file.classes.length->(nth cg h.file.classes d).fields.length<=6):=hf
 clear H hA ht hf
 by_cases zY:100<=h.objs.length
 ·have e0:h.full=true:=decide_eq_true zY
  have e1:h.newV=ag:=by unfold Hp.newV;rw [if_pos e0]
  have e2:h.new c=h.fin 4:=by unfold Hp.new;rw [if_pos e0]
  rw [e1,e2]
  clear e0 e1 e2
  obtain ⟨gb,cap,mY,-,yE,-⟩:=kj HA.out.obs (by omega)
  rw [mY] at c2
  unfold maxLen at yE
  go_enter Tryz.func161,Tryz.ntmps161
  go_wp2_with (go_at_call 108;refine (nN w0 g k p h 4 _ ⟨vo,vx,hv,HA.out.old Ro.out⟩).mono ?_;rintro e w1 ⟨rfl,h1,f1⟩;have b1:=ea.out.keep k f1;have r0:=b1.c0;have r1:=b1.c1;have r2:=b1.fr 0;have r3:=b1.fr 1;have kW:Hid (aP w1 w.heap.size ag):=b1;clear b1)
  (try simp only [Exit.inBlock,Exit.then])
  refine bodyPost_ret (results_cell_row rfl _ _ w.heap.size _ _ _ _ rfl (kW.out.set ag).blk Tryz.underlying62 rfl bp) rfl ?_
  exact ⟨rfl,h1.cf (kW.out.cf k cI _ _),((((Fr.old cI Ro.out).trans f1).new (Nat.le_refl _) cI _).new (Nat.le_refl _) cI _)⟩
 ·have e0:h.full=false:=decide_eq_false zY
  have e1:h.newV=⟨3,(h.objs.length:Nat)⟩:=by unfold Hp.newV;rw [if_neg (by rw [e0];decide)]
  have e2:h.new c={ h with objs:=h.objs++[⟨c,dA h.file.classes c.toNat⟩] }:=by unfold Hp.new;rw [if_neg (by rw [e0];decide)]
  rw [e1,e2,yF]
  clear e0 e1 e2
  obtain ⟨A0,yG,rfl⟩:∃A0 yG,vo=.slice A0 h.objs.length yG:=by
   rcases HA.out.obs.row.2 with ⟨e,e'⟩|⟨gb,cap,cur,e,-⟩
   ·exact ⟨none,0,by rw [e,e']⟩
   ·exact ⟨_,cap,e⟩
  have dl:decide ((100:Int)<=(h.objs.length:Int))=false:=decide_eq_false (by omega)
  go_enter Tryz.func161,Tryz.ntmps161
  go_wp2
  go_loopw [6] (fun i wr=>∃(q:Nat) (u:Value),q<=h.file.classes.length/\i=int i64 q/\Hid (Mk w wr c u (dP h.file.classes c.toNat q))) (fun i _=>h.file.classes.length-(intOf i).toNat)
  case atStart=>exact ⟨0,.slice none 0 0,Nat.zero_le _,rfl,Mk.start w c⟩
  case round =>
   obtain ⟨q,u,hq,rfl,hM⟩:=hrel
   obtain ⟨w5,kS⟩:∃w5,w5=wr:=⟨wr,rfl⟩
   subst kS
   clear c2
   have c0:=(HA.out.old hM.out.bl).cells.c0
   by_cases eR:q<h.file.classes.length
   ·have tJ:=HC.out.bl hM.out.bl
    have Qh:kU h.file.classes c (q:Int)=true:=decide_eq_true (by omega)
    cases hb:fK h.file.classes c.toNat q
    ·have Rp:Hid (Mk w w5 c u (dP h.file.classes c.toNat (q+1))):=by rw [qH hb];exact hM
     have Mm:(kU h.file.classes c (q:Int)&&fK h.file.classes c.toNat (q:Int).toNat)=false:=by rw [Qh,Int.toNat_natCast,hb];rfl
     clear Qh hb hM
     have nu:Hid (ct w5 g.A h.file.classes):=tJ
     clear tJ
     go_wp2_with (go_at_call 110;refine (fO _ _ _ _ _ _ nu.out HT.out).mono ?_;rintro e w6 ⟨he,Di⟩;rw [Mm] at he;subst he;rw [Di];clear Di w6)
     go_roundw
     case rel=>exact ⟨q+1,u,by omega,by go_num,Rp⟩
     case measure=>simp [intOf];omega
    ·have TF:Hid (dP h.file.classes c.toNat (q+1)=dP h.file.classes c.toNat q++dG h.file.classes q (nth cg h.file.classes q).fields.length):=sy hb
     have Mm:(kU h.file.classes c (q:Int)&&fK h.file.classes c.toNat (q:Int).toNat)=true:=by rw [Qh,Int.toNat_natCast,hb];rfl
     have nu:Hid (ct w5 g.A h.file.classes):=tJ
     clear Qh hb tJ
     go_wp2_with (go_at_call 110;refine (fO _ _ _ _ _ _ nu.out HT.out).mono ?_;rintro e w6 ⟨he,Di⟩;rw [Mm] at he;subst he;rw [Di];clear Di w6)
     go_loopw [7] (fun i wr=>∃(j:Nat) (u:Value),j<=(nth cg h.file.classes q).fields.length/\i=int i64 j/\Hid (Mk w wr c u (dP h.file.classes c.toNat q++dG h.file.classes q j))) (fun i _=>(nth cg h.file.classes q).fields.length-(intOf i).toNat)
     case atStart=>exact ⟨0,u,Nat.zero_le _,rfl,by rw [rQ,List.append_nil];exact hM⟩
     case round =>
      clear hM c0 nu
      obtain ⟨j,u,hj,rfl,hM⟩:=hrel
      rename World=>w6
      have c0:=(HA.out.old hM.out.bl).cells.c0
      have tJ:=HC.out.bl hM.out.bl
      rcases tJ.2 with h0|⟨b,off,NK,hcell⟩
      ·omega
      obtain ⟨-,-,A',c',jC,hty⟩:=hcell q eR
      rw [NK] at c0
      have KC:=hty.1
      have K8:=tJ.1
      unfold maxLen at KC K8
      by_cases NL:j<(nth cg h.file.classes q).fields.length
      ·rcases hty.2 with h0|⟨b',gj,TG,htc⟩
       ·omega
       obtain ⟨t1,t2,-,-⟩:=htc j NL
       rw [TG] at jC
       have hlen:=tI.out q (by omega)
       have VG:=VF.out q eR
       have K9:=hM.out.lt
       have X5:(dP h.file.classes c.toNat q++dG h.file.classes q j).length<=78:=by rw [List.length_append,kT];omega
       have TH:Hid (dG h.file.classes q (j+1)=dG h.file.classes q j++[⟨(q:Nat),(j:Nat),jc (nth cN (nth cg h.file.classes q).fields j)⟩]):=rR _ _ _
       have X6:(0:Int)<=(j:Int):=by omega
       have X8:(j:Int)<((nth cg h.file.classes q).fields.length:Int):=by omega
       have mN:(q:Int)<(h.file.classes.length:Int):=by omega
       generalize hT:nth cN (nth cg h.file.classes q).fields j=t at *
       generalize hL:dP h.file.classes c.toNat q++dG h.file.classes q j=L at *
       have zP:Hid (dP h.file.classes c.toNat q++dG h.file.classes q j=L):=hL
       have hne:w.heap.size≠w6.heap.size:=by omega
       have VH:∀o o',((w6.alloc o).alloc o').cell? ⟨w.heap.size+1,1,none⟩=some u:=fun o o'=>by rw [aa ((hM.out.alloc o).alloc o').box];rfl
       clear hcell hty tJ htc hT hL TG NK
       by_cases sW:t.kind=3
       ·have OC:Hid (jc t=⟨3,-1⟩):=by unfold jc;rw [if_pos sW,sW];rfl
        rw [sW] at t1
        clear sW
        have M4:Hid (Mk w (((w6.alloc (.cells #[int i64 3,int i64 t.cls] 45)).alloc (.cells #[int i64 3,int i64 (-1)] 62)).alloc (.cells #[int i64 (q:Int),int i64 (j:Int),int i64 3,int i64 (-1)] 214)) c u L):=((hM.out.alloc _).alloc _).alloc _
        have Rq:Hid (∀(i:Nat) (x:Value),[Value.int .i64 (q:Int),int i64 (j:Int),int i64 3,int i64 (-1)][i]?=some x->(((w6.alloc (.cells #[int i64 3,int i64 t.cls] 45)).alloc (.cells #[int i64 3,int i64 (-1)] 62)).alloc (.cells #[int i64 (q:Int),int i64 (j:Int),int i64 3,int i64 (-1)] 214)).cell? ((⟨w6.heap.size+1+1,0,none⟩:Addr).add i)=some x):=sB w6 _ _ _ _ _ _ _
        clear hM
        go_wp2_with (at_builtin;refine wpList_append_lies _ rfl (.tmp 74) (.tmp 79) 123 rfl (w.heap.size+2) 214 i0 _ 4 32 Tryz.underlying123 th sj tj tl rfl (by omega) u L.length (cS L) (by rfl) (by exact M4.out.row) ⟨w6.heap.size+1+1,0,none⟩ 1 1 [int i64 (q:Int),int i64 (j:Int),int i64 3,int i64 (-1)] (by rfl) (by rfl) (by exact Rq.out) (by simp [Value.oneCell']) (by omega) (by unfold maxLen;omega) (by omega) (by simp;omega) (w6.heap.size+1+1+1) (by simp) ?_;intro gg cap w7 lF bL hat hlt;have Mn:=dg bL M4.out.row M4.out.box (by decide);have q7:w7.cell? ⟨w.heap.size+1,1,none⟩=some u:=(aa Mn).trans rfl;have z7:=ay Mn 1;clear Mn)
        go_roundw
        case rel=>exact ⟨j+1,_,by omega,by go_num,by
         rw [TH.out,<-List.append_assoc,zP.out]
         have:=M4.out.more (x:=⟨(q:Int),(j:Int),⟨3,(-1)⟩⟩) bL lF
         rw [OC.out]
         exact this⟩
        case measure=>simp [intOf];omega
       ·have OC:Hid (jc t=⟨t.kind,0⟩):=by unfold jc;rw [if_neg sW];rfl
        have k3:(t.kind==3)=false:=by simpa using sW
        clear sW
        have M4:Hid (Mk w (((w6.alloc (.cells #[int i64 t.kind,int i64 t.cls] 45)).alloc (.cells #[int i64 t.kind,int i64 0] 62)).alloc (.cells #[int i64 (q:Int),int i64 (j:Int),int i64 t.kind,int i64 0] 214)) c u L):=((hM.out.alloc _).alloc _).alloc _
        have Rq:Hid (∀(i:Nat) (x:Value),[Value.int .i64 (q:Int),int i64 (j:Int),int i64 t.kind,int i64 0][i]?=some x->(((w6.alloc (.cells #[int i64 t.kind,int i64 t.cls] 45)).alloc (.cells #[int i64 t.kind,int i64 0] 62)).alloc (.cells #[int i64 (q:Int),int i64 (j:Int),int i64 t.kind,int i64 0] 214)).cell? ((⟨w6.heap.size+1+1,0,none⟩:Addr).add i)=some x):=sB w6 _ _ _ _ _ _ _
        clear hM
        go_wp2_with (at_builtin;refine wpList_append_lies _ rfl (.tmp 74) (.tmp 79) 123 rfl (w.heap.size+2) 214 i0 _ 4 32 Tryz.underlying123 th sj tj tl rfl (by omega) u L.length (cS L) (by rfl) (by exact M4.out.row) ⟨w6.heap.size+1+1,0,none⟩ 1 1 [int i64 (q:Int),int i64 (j:Int),int i64 t.kind,int i64 0] (by rfl) (by rfl) (by exact Rq.out) (by simp [Value.oneCell']) (by omega) (by unfold maxLen;omega) (by omega) (by simp;omega) (w6.heap.size+1+1+1) (by simp) ?_;intro gg cap w7 lF bL hat hlt;have Mn:=dg bL M4.out.row M4.out.box (by decide);have q7:w7.cell? ⟨w.heap.size+1,1,none⟩=some u:=(aa Mn).trans rfl;have z7:=ay Mn 1;clear Mn)
        go_roundw
        case rel=>exact ⟨j+1,_,by omega,by go_num,by
         rw [TH.out,<-List.append_assoc,zP.out]
         have:=M4.out.more (x:=⟨(q:Int),(j:Int),⟨t.kind,0⟩⟩) bL lF
         rw [OC.out]
         exact this⟩
        case measure=>simp [intOf];omega
      ·obtain rfl:j=(nth cg h.file.classes q).fields.length:=by omega
       have Rp:Hid (Mk w w6 c u (dP h.file.classes c.toNat (q+1))):=by rw [TF.out];exact hM
       clear hM hcell hty tJ TF
       go_wp2
       go_roundw
       case rel=>exact ⟨q+1,u,by omega,by go_num,Rp⟩
       case measure=>simp [intOf];omega
   ·obtain rfl:q=h.file.classes.length:=by omega
    have c2:=(HA.out.old hM.out.bl).cells.c2
    have f2:=(HA.out.old hM.out.bl).free 2
    have OD:Hid (w5.ownsRow w0.heap.size 125 2 (.slice A0 h.objs.length yG) h.objs.length (dw h.objs hv)):=(HA.out.old hM.out.bl).obs.row
    have x0:w5.cell? ⟨w.heap.size+1,0,none⟩=some (int i64 c):=by rw [aa hM.out.box];rfl
    have x1:w5.cell? ⟨w.heap.size+1,1,none⟩=some u:=by rw [aa hM.out.box];rfl
    have X9:=hM.out.lt
    have Rr:u.oneCell'=true:=by
     rcases hM.out.row.2 with ⟨rfl,-⟩|⟨gb,cap,cur,rfl,-⟩<;>rfl
    have Rs:w0.heap.size<=w5.heap.size:=by omega
    have VI:p<w5.heap.size:=by omega
    have Ya:∀o,(w5.alloc o).cell? ⟨p,2,none⟩=some (.slice A0 h.objs.length yG):=fun o=>((Bl.refl w5).alloc o).cell c2
    have En:w.heap.size≠p:=by omega
    have BG:p≠w.heap.size:=by omega
    have Mq:Hid (Bl w (w5.alloc (.cells #[int i64 c,u] 125)).drew):=(hM.out.bl.alloc _).drew
    have Rt:Hid ((w5.alloc (.cells #[int i64 c,u] 125)).drew.ownsRow w0.heap.size 125 2 (.slice A0 h.objs.length yG) h.objs.length (dw h.objs hv)):=(OD.out.alloc _).drew
    have VJ:Hid (aP (w5.alloc (.cells #[int i64 c,u] 125)).drew w.heap.size ag):=⟨(hM.out.alloc _).res.blk⟩
    have VK:Hid ((w5.alloc (.cells #[int i64 c,u] 125)).drew.ownsRow (w.heap.size+2) 214 4 u (dP h.file.classes c.toNat h.file.classes.length).length (cS (dP h.file.classes c.toNat h.file.classes.length))):=(hM.out.row.alloc _).drew
    have VL:Hid (∀i,i<h.objs.length->∀b,(nth hv0 hv i).ownBlock=some b->b<w.heap.size+2):=fun i hi b hb=>by have:=((HA.out.obs.held i hi).lt b hb).2;omega
    clear hM OD
    go_wp2
    go_region_law ((refine step_append_lies _ (by rfl) _ _ _ (by rfl) w0.heap.size 125 i1 _ 2 32 Tryz.underlying72 NJ VC VD VE rfl (by omega) (.slice A0 h.objs.length yG) h.objs.length (dw h.objs hv) (by rfl) (by exact Rt.out) ⟨w5.heap.size,0,none⟩ 1 1 [int i64 c,u] (by rfl) (by rfl) (World.news_of_block (cs:=#[int i64 c,u]) (t:=125) (fr:=(0,0)) (heap_alloc_new w5 _)) (by simp [Rr];rfl) (by omega) (by unfold maxLen;omega) (by omega) (by simp;omega) (w5.heap.size+1) (by simp) ?_;intro gg cap w7 lF bL hat hlt;have mK:=dg bL Rt.out (HA.out.old Mq.out).blk k.o;have q2:w7.cell? ⟨p,2,none⟩=some (.slice A0 h.objs.length yG):=(aa mK).trans rfl;have z2:=ay mK 2;have qy:=dg bL Rt.out VJ.out.blk (by decide);have s0:w7.cell? ⟨w.heap.size,0,none⟩=some (int i64 0):=(aa qy).trans rfl;have s1:w7.cell? ⟨w.heap.size,1,none⟩=some (int i64 0):=(aa qy).trans rfl;have s2:=ay qy 0;have s3:=ay qy 1;have VM:Hid (aP w7 w.heap.size ag):=⟨qy⟩;clear mK qy))
    all_goals go_wp2
    all_goals
     (try simp only [Exit.inBlock,Exit.then])
     have hh:=cD.objsAdd (HA.out.old Mq.out) k bL (o:=⟨c,dP h.file.classes c.toNat h.file.classes.length⟩) lF VK.out (by omega) VL.out
     have TI:aP (w7.setCell ⟨p,2,none⟩ (.slice (some ⟨gg,0,none⟩) (h.objs.length+1) cap)) w.heap.size ag:=⟨by rw [aA En];exact VM.out.blk⟩
     refine bodyPost_ret (results_cell_row rfl _ _ w.heap.size _ _ _ _ rfl (TI.set ⟨3,(h.objs.length:Nat)⟩).blk Tryz.underlying62 rfl bp) rfl ?_
     exact ⟨rfl,⟨_,vx,_,hh.1.cf (TI.cf k cI _ _)⟩,((((Fr.old cI Mq.out).trans hh.2).new (Nat.le_refl _) cI _).new (Nat.le_refl _) cI _)⟩
structure Cw (w0:World) (g:Ad) (h:Hp):Prop where
 k:Tk g.T
 cls:ct w0 g.A h.file.classes
 tree:Tree h.file.classes
 ge:4<=h.file.classes.length
 le:h.file.classes.length<=12
 fl:∀d,d<h.file.classes.length->(nth cg h.file.classes d).fields.length<=6
section
variable (w0:World) (g:Ad) (p:Nat) (h:Hp)
theorem kl (c:Int) (w:World) (hH:Hs w0 g w p h) (C:Cw w0 g h) (hc:0<=c/\c<4) :
  Calls Tryz.prog 157 #[.pointer (some ⟨p,0,none⟩),int i64 c] w fun e w'=>e=.returned (.tuple #[])/\Hs w0 g w' p (h.raise c)/\Fr w0.heap.size g.T w w':=by
 have HH:Hid (Hs w0 g w p h):=hH
 have HC:Hid (Cw w0 g h):=C
 have hlen:=C.ge
 clear hH C
 generalize hV:h.newV=v
 have hr:h.raise c=if (h.new c).over=true then h.new c else { h.new c with thrown:=v.n }:=by unfold Hp.raise;rw [hV]
 rw [hr]
 cases ho:(h.new c).over
 ·rw [if_neg (by decide)]
  clear hr
  go_enter Tryz.func157,Tryz.ntmps157
  go_wp2_with (go_at_call 161;refine (tH w0 g HC.out.k p h c _ HH.out HC.out.cls HC.out.tree (by omega) HC.out.le HC.out.fl).mono ?_;rintro e w1 ⟨he,h1,f1⟩;rw [hV] at he;subst he;have hb1:=h1.base;obtain ⟨vo,vx,hv,H⟩:=h1.cf ((Cf.refl _ _ w1).alloc hb1 (cT v));have c12:=H.cells.c12;have f13:=H.free 13;rw [ho] at c12;have c13:=H.cells.c13;have HA:Hid (cD w0 g (w1.alloc (cT v)) p (h.new c) vo vx hv):=H;have vl:=af H.blk;clear H h1)
  go_end0
  exact ⟨rfl,⟨vo,vx,hv,HA.out.set HC.out.k { h.new c with thrown:=v.n } rfl rfl rfl⟩,(f1.alloc hb1 _).trans (HA.out.frSet 13 _)⟩
 ·rw [if_pos rfl]
  clear hr
  go_enter Tryz.func157,Tryz.ntmps157
  go_wp2_with (go_at_call 161;refine (tH w0 g HC.out.k p h c _ HH.out HC.out.cls HC.out.tree (by omega) HC.out.le HC.out.fl).mono ?_;rintro e w1 ⟨he,h1,f1⟩;rw [hV] at he;subst he;have hb1:=h1.base;obtain ⟨vo,vx,hv,H⟩:=h1.cf ((Cf.refl _ _ w1).alloc hb1 (cT v));have c12:=H.cells.c12;rw [ho] at c12;have HA:Hid (cD w0 g (w1.alloc (cT v)) p (h.new c) vo vx hv):=H;clear H h1)
  go_end0
  exact ⟨rfl,⟨vo,vx,hv,HA.out⟩,f1.alloc hb1 _⟩
theorem BR (v:Va) (w:World) (hH:Hs w0 g w p h) (C:Cw w0 g h) :
  Calls Tryz.prog 113 #[.pointer (some ⟨p,0,none⟩),iE v] w fun e w'=>e=.returned (.tuple #[])/\Hs w0 g w' p (h.throw v)/\Fr w0.heap.size g.T w w':=by
 have cI:=hH.base
 have HF:Hid (Fr w0.heap.size g.T w (w.alloc (cT v))):=(Fr.refl _ _ w).alloc cI _
 have HH:Hid (Hs w0 g (w.alloc (cT v)) p h):=hH.cf ((Cf.refl _ _ w).alloc cI _)
 have HV:Hid (aP (w.alloc (cT v)) w.heap.size v):=aP.new w v
 have HC:Hid (Cw w0 g h):=C
 have hk:(v.kind==3)=isRef v:=by unfold isRef;rw [Bool.eq_iff_iff];simp
 clear hH C
 cases hm:h.mustB (isRef v)
 ·have hr:h.throw v=h.must (isRef v):=by unfold Hp.throw;rw [if_neg (by rw [hm];decide)]
  rw [hr]
  clear hr
  go_enter Tryz.func113,Tryz.ntmps113
  go_wp2_with (go_at_call 55;refine (bk w0 g HC.out.k p h _ _ HH.out).mono ?_;rintro e w1 ⟨he,h1,f1⟩;rw [hm] at he;subst he)
  (try simp only [Exit.inBlock,Exit.then])
  first|exact bodyPost_ret (results_none rfl _ _ _) rfl ⟨rfl,h1,HF.out.trans f1⟩|(go_end0;exact ⟨rfl,h1,HF.out.trans f1⟩)
 ·obtain ⟨hb,br,xX⟩:=dX hm
  by_cases hn:v.n<0
  ·have hr:h.throw v=h.raise 1:=by unfold Hp.throw;rw [if_pos hm,if_pos hn]
   rw [hr]
   clear hr br hb
   have rS:Hid (h.must (isRef v)=h):=xX
   clear xX
   go_enter Tryz.func113,Tryz.ntmps113
   go_wp2_with (first
    | (go_at_call 55;refine (bk w0 g HC.out.k p h _ _ HH.out).mono ?_;rintro e w1 ⟨he,h1,f1⟩;rw [hm] at he;subst he;rw [rS.out] at h1;have r1:=(HV.out.keep HC.out.k f1).c1)
    | (go_at_call 157;refine (kl w0 g p h 1 _ h1 HC.out (by omega)).mono ?_;rintro e w2 ⟨rfl,h2,f2⟩))
   (try simp only [Exit.inBlock,Exit.then])
   first|exact bodyPost_ret (results_none rfl _ _ _) rfl ⟨rfl,h2,(HF.out.trans f1).trans f2⟩|(go_end0;exact ⟨rfl,h2,(HF.out.trans f1).trans f2⟩)
  ·have hr:h.throw v={ h with thrown:=v.n }:=by unfold Hp.throw;rw [if_pos hm,if_neg hn]
   rw [hr]
   clear hr br hb
   have rS:Hid (h.must (isRef v)=h):=xX
   clear xX
   go_enter Tryz.func113,Tryz.ntmps113
   go_wp2_with (go_at_call 55;refine (bk w0 g HC.out.k p h _ _ HH.out).mono ?_;rintro e w1 ⟨he,h1,f1⟩;rw [hm] at he;subst he;rw [rS.out] at h1;have r1:=(HV.out.keep HC.out.k f1).c1;obtain ⟨vo,vx,hv,H⟩:=h1;have f13:=H.free 13;have c13:=H.cells.c13;have HA:Hid (cD w0 g w1 p h vo vx hv):=H;clear H)
   (try simp only [Exit.inBlock,Exit.then])
   first|exact bodyPost_ret (results_none rfl _ _ _) rfl ⟨rfl,⟨vo,vx,hv,HA.out.set HC.out.k { h with thrown:=v.n } rfl rfl rfl⟩,(HF.out.trans f1).trans (HA.out.frSet 13 _)⟩|(go_end0;exact ⟨rfl,⟨vo,vx,hv,HA.out.set HC.out.k { h with thrown:=v.n } rfl rfl rfl⟩,(HF.out.trans f1).trans (HA.out.frSet 13 _)⟩)
end
theorem EF {P:Nat->Prop} {q:Nat} (h:∀j,j<q->P j) (hq:P q):∀j,j<q+1->P j:=fun j hj=>by
 by_cases hj':j<q
 ·exact h j hj'
 ·have:j=q:=by omega
  subst this;exact hq
def oh (c k:Int) (x:pB):Bool:=decide (x.cls=c/\x.fld=k)
theorem tK {l:List pB} {c k:Int} {q:Nat} (hq:q<l.length) (h:∀j,j<q->oh c k (nth cH l j)=false) (hx:oh c k (nth cH l q)=true):fI l c k=(q:Nat):=by
 have:l.findIdx? (fun x=>decide (x.cls=c/\x.fld=k))=some q:=by
  rw [List.findIdx?_eq_some_iff_getElem]
  refine ⟨hq,by rw [bU hq] at hx;exact hx,fun j hj=>?_⟩
  have:=h j hj
  rw [bU (by omega)] at this
  unfold oh at this
  rw [this];decide
 unfold fI;rw [this]
theorem wN {l:List pB} {c k:Int} (h:∀j,j<l.length->oh c k (nth cH l j)=false):fI l c k=-1:=by
 have:l.findIdx? (fun x=>decide (x.cls=c/\x.fld=k))=none:=by
  rw [List.findIdx?_eq_none_iff]
  intro x hx
  obtain ⟨j,hj,rfl⟩:=List.getElem_of_mem hx
  have:=h j hj
  rw [bU hj] at this
  exact this
 unfold fI;rw [this]
theorem wO:∀(l:List pB) (j:Nat),j<l.length->(cS l)[j*4]?=some (int i64 (nth cH l j).cls)/\(cS l)[j*4+1]?=some (int i64 (nth cH l j).fld)/\(cS l)[j*4+2]?=some (int i64 (nth cH l j).v.kind)/\(cS l)[j*4+3]?=some (int i64 (nth cH l j).v.n)
 | [],j,h=>by simp at h
 | x::l,0,_=>by simp [cS,nth]
 | x::l,j+1,h=>by
  have:=wO l j (by simpa using h)
  have e:(j+1)*4=j*4+1+1+1+1:=by omega
  rw [e]
  simpa [cS,nth] using this
theorem mO {w0 w:World} {g:Ad} {p:Nat} {h:Hp} {vo vx:Value} {hv:List Value} (H:cD w0 g w p h vo vx hv) {n:Nat} (hn:n<h.objs.length) :
  ∃gb cap U uc,vo=.slice (some ⟨gb,0,none⟩) h.objs.length cap/\h.objs.length<=maxLen/\w.cell? ⟨gb,n*2,none⟩=some (int i64 (nth cB h.objs n).cls)/\w.cell? ⟨gb,n*2+1,none⟩=some (.slice U (nth cB h.objs n).held.length uc)
   /\ (nth hv0 hv n)=.slice U (nth cB h.objs n).held.length uc/\(nth cB h.objs n).held.length<=maxLen/\((nth cB h.objs n).held.length=0∨∃hb,U=some ⟨hb,0,none⟩/\(∀i,w.frozen? ⟨hb,i,none⟩=false)/\∀j,j<(nth cB h.objs n).held.length ->
    w.cell? ⟨hb,j*4,none⟩=some (int i64 (nth cH (nth cB h.objs n).held j).cls)/\w.cell? ⟨hb,j*4+1,none⟩=some (int i64 (nth cH (nth cB h.objs n).held j).fld)
    /\ w.cell? ⟨hb,j*4+2,none⟩=some (int i64 (nth cH (nth cB h.objs n).held j).v.kind)/\w.cell? ⟨hb,j*4+3,none⟩=some (int i64 (nth cH (nth cB h.objs n).held j).v.n)):=by
 obtain ⟨gb,cap,mY,-,hm,hc⟩:=kj H.obs (by omega)
 have hh:=H.obs.held n hn
 obtain ⟨c1,c2⟩:=hc n hn
 rcases hh.2 with ⟨e,e0⟩|⟨hb,uc,cur,e,h2,h3,h4,h5,h6,h7⟩
 ·rw [e] at c2
  exact ⟨gb,cap,none,0,mY,hm,c1,by rw [c2,e0],by rw [e,e0],by rw [e0];exact Nat.zero_le _,Or.inl e0⟩
 ·rw [e] at c2
  refine ⟨gb,cap,_,uc,mY,hm,c1,c2,e,by omega,Or.inr ⟨hb,rfl,fun i=>ay h3 i,fun j hj=>?_⟩⟩
  have hx:=wO _ j hj
  have key:∀i,i<(nth cB h.objs n).held.length*4->w.cell? ⟨hb,i,none⟩=(cS (nth cB h.objs n).held)[i]?:=fun i hi=>by
   rw [aa h3,<-h7,List.getElem?_take,if_pos hi];simp
  exact ⟨(key _ (by omega)).trans hx.1,(key _ (by omega)).trans hx.2.1,(key _ (by omega)).trans hx.2.2.1,(key _ (by omega)).trans hx.2.2.2⟩
theorem nO (w0:World) (g:Ad) (p:Nat) (h:Hp) (r:Va) (c f:Int) (w:World) (hH:Hs w0 g w p h) (C:Cw w0 g h) (yH:r.kind=3->r.n<h.objs.length) :
  Calls Tryz.prog 158 #[.pointer (some ⟨p,0,none⟩),iE r,int i64 c,int i64 f] w fun e w'=>e=.returned (int i64 (h.findN r c f))/\Hs w0 g w' p (h.findH r c)/\Fr w0.heap.size g.T w w':=by
 have cI:=hH.base
 have HF:Hid (Fr w0.heap.size g.T w (w.alloc (cT r))):=(Fr.refl _ _ w).alloc cI _
 have HH:Hid (Hs w0 g (w.alloc (cT r)) p h):=hH.cf ((Cf.refl _ _ w).alloc cI _)
 have HV:Hid (aP (w.alloc (cT r)) w.heap.size r):=aP.new w r
 have HC:Hid (Cw w0 g h):=C
 have xY:Hid (r.kind=3->r.n<h.objs.length):=yH
 clear hH C yH
 obtain ⟨O,hO⟩:∃O,h.of r ⟨3,c⟩=O:=⟨_,rfl⟩
 cases hm:h.mustB O
 ·have e1:h.findN r c f=-1:=by unfold Hp.findN;rw [hO,if_neg (by rw [hm];decide)]
  have e2:h.findH r c=h.must O:=by unfold Hp.findH;rw [hO,if_neg (by rw [hm];decide)]
  rw [e1,e2]
  clear e1 e2
  go_enter Tryz.func158,Tryz.ntmps158
  go_wp2_with (first
   | (go_at_call 57;refine (jn w0 g p h r ⟨3,c⟩ _ HH.out HC.out.cls HC.out.tree xY.out).mono ?_;rintro e w1 ⟨he,h1,f1,-⟩;rw [hO] at he;subst he)
   | (go_at_call 55;refine (bk w0 g HC.out.k p h O _ h1).mono ?_;rintro e w2 ⟨he,h2,f2⟩;rw [hm] at he;subst he))
  go_ret
  exact ⟨rfl,h2,(HF.out.trans f1).trans f2⟩
 ·obtain ⟨rfl,br,xX⟩:=dX hm
  have hrk:=mF hO
  have NM:=xY.out hrk
  have rS:Hid (h.must true=h):=xX
  clear xX br
  by_cases hn:r.n<0
  ·have e1:h.findN r c f=-1:=by unfold Hp.findN;rw [hO,if_pos hm,if_pos hn]
   have e2:h.findH r c=h.raise 1:=by unfold Hp.findH;rw [hO,if_pos hm,if_pos hn]
   rw [e1,e2]
   clear e1 e2 hrk
   go_enter Tryz.func158,Tryz.ntmps158
   go_wp2_with (first
    | (go_at_call 57;refine (jn w0 g p h r ⟨3,c⟩ _ HH.out HC.out.cls HC.out.tree xY.out).mono ?_;rintro e w1 ⟨he,h1,f1,-⟩;rw [hO] at he;subst he)
    | (go_at_call 55;refine (bk w0 g HC.out.k p h true _ h1).mono ?_;rintro e w2 ⟨he,h2,f2⟩;rw [hm] at he;subst he;rw [rS.out] at h2;have r1:=((HV.out.keep HC.out.k f1).keep HC.out.k f2).c1)
    | (go_at_call 157;refine (kl w0 g p h 1 _ h2 HC.out (by omega)).mono ?_;rintro e w3 ⟨rfl,h3,f3⟩))
   go_ret
   exact ⟨rfl,h3,((HF.out.trans f1).trans f2).trans f3⟩
  ·have e1:h.findN r c f=fI (nth cB h.objs r.n.toNat).held c f:=by unfold Hp.findN;rw [hO,if_pos hm,if_neg hn];rfl
   have e2:h.findH r c=h:=by unfold Hp.findH;rw [hO,if_pos hm,if_neg hn]
   rw [e1,e2]
   clear e1 e2 hrk
   obtain ⟨rk,rn⟩:=r
   dsimp only at *
   obtain ⟨n,rfl⟩:∃n:Nat,rn=n:=⟨rn.toNat,by omega⟩
   rw [Int.toNat_natCast]
   have kx:n<h.objs.length:=by omega
   have kv:(0:Int)<=(n:Int):=by omega
   have kg:(n:Int)<(h.objs.length:Int):=by omega
   have TJ:Hid (∀q,q<(nth cB h.objs n).held.length->(∀j,j<q->oh c f (nth cH (nth cB h.objs n).held j)=false)->oh c f (nth cH (nth cB h.objs n).held q)=true->fI (nth cB h.objs n).held c f=(q:Nat)):=fun q=>tK
   have TK:Hid ((∀j,j<(nth cB h.objs n).held.length->oh c f (nth cH (nth cB h.objs n).held j)=false)->fI (nth cB h.objs n).held c f=-1):=wN
   obtain ⟨R,hR⟩:∃R,fI (nth cB h.objs n).held c f=R:=⟨_,rfl⟩
   rw [hR] at TJ TK ⊢
   clear hR hn
   go_enter Tryz.func158,Tryz.ntmps158
   go_wp2_with (first
    | (go_at_call 57;refine (jn w0 g p h ⟨rk,n⟩ ⟨3,c⟩ _ HH.out HC.out.cls HC.out.tree xY.out).mono ?_;rintro e w1 ⟨he,h1,f1,-⟩;rw [hO] at he;subst he)
    | (go_at_call 55;refine (bk w0 g HC.out.k p h true _ h1).mono ?_;rintro e w2 ⟨he,h2,f2⟩;rw [hm] at he;subst he;rw [rS.out] at h2;have r1:=((HV.out.keep HC.out.k f1).keep HC.out.k f2).c1;obtain ⟨vo,vx,hv,H⟩:=h2;have HA:Hid (cD w0 g w2 p h vo vx hv):=H;obtain ⟨gb,cap,U,uc,mY,yE,o1,o2,hu,OE,wP⟩:=mO H kx;have c2:=H.cells.c2;rw [mY] at c2;clear H mY hu;unfold maxLen at yE OE))
   go_quiet (fail)
   go_wp2
   go_loop [10] (fun i=>∃q:Nat,q<=(nth cB h.objs n).held.length/\i=int i64 q/\Hid (∀j,j<q->oh c f (nth cH (nth cB h.objs n).held j)=false)) (fun i=>(nth cB h.objs n).held.length-(intOf i).toNat)
   case atStart=>exact ⟨0,Nat.zero_le _,rfl,fun j hj=>absurd hj (Nat.not_lt_zero _)⟩
   case round =>
    obtain ⟨q,hq,rfl,mG⟩:=hrel
    by_cases eR:q<(nth cB h.objs n).held.length
    ·rcases wP with h0|⟨hb,rfl,-,hcell⟩
     ·omega
     obtain ⟨x0,x1,-,-⟩:=hcell q eR
     have HX:=TJ.out q eR mG.out
     have VO:Hid (oh c f (nth cH (nth cB h.objs n).held q)=true->R=(q:Nat)):=HX
     clear hcell HX
     have OG:oh c f (nth cH (nth cB h.objs n).held q)=decide ((nth cH (nth cB h.objs n).held q).cls=c/\(nth cH (nth cB h.objs n).held q).fld=f):=rfl
     have Mr:Hid (oh c f (nth cH (nth cB h.objs n).held q)=decide ((nth cH (nth cB h.objs n).held q).cls=c/\(nth cH (nth cB h.objs n).held q).fld=f)):=OG
     clear OG
     by_cases a1:(nth cH (nth cB h.objs n).held q).cls=c
     ·have d1:((nth cH (nth cB h.objs n).held q).cls==c)=true:=by simpa using a1
      by_cases a2:(nth cH (nth cB h.objs n).held q).fld=f
      ·have d2:((nth cH (nth cB h.objs n).held q).fld==f)=true:=by simpa using a2
       have Rv:Hid (R=(q:Nat)):=VO.out (by rw [Mr.out,decide_eq_true ⟨a1,a2⟩])
       clear a1 a2
       go_wp2
       go_ret
       exact ⟨lT Rv.out.symm,⟨vo,vx,hv,HA.out.drewN _⟩,(((HF.out.trans f1).trans f2)).drewN _⟩
      ·have d2:((nth cH (nth cB h.objs n).held q).fld==f)=false:=by simpa using a2
       have HN:Hid (oh c f (nth cH (nth cB h.objs n).held q)=false):=by rw [Mr.out,decide_eq_false (fun z=>a2 z.2)];rfl
       clear a1 a2
       go_wp2
       go_round
       case rel=>exact ⟨q+1,by omega,by go_num,EF mG.out HN.out⟩
       case measure=>simp [intOf];omega
     ·have d1:((nth cH (nth cB h.objs n).held q).cls==c)=false:=by simpa using a1
      have HN:Hid (oh c f (nth cH (nth cB h.objs n).held q)=false):=by rw [Mr.out,decide_eq_false (fun z=>a1 z.1)];rfl
      clear a1
      go_wp2
      go_round
      case rel=>exact ⟨q+1,by omega,by go_num,EF mG.out HN.out⟩
      case measure=>simp [intOf];omega
    ·obtain rfl:q=(nth cB h.objs n).held.length:=by omega
     have Rv:Hid (R=-1):=TK.out mG.out
     go_wp2
     go_ret
     exact ⟨lT Rv.out.symm,⟨vo,vx,hv,HA.out.drewN _⟩,(((HF.out.trans f1).trans f2)).drewN _⟩
end Go.Proofs.YtgiiapenmjollaaGreat
