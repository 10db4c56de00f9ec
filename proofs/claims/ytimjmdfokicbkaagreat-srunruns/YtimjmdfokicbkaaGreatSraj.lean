import Derived.Test.YtimjmdfokicbkaaGreatSrab
import Derived.WalkKit
import Derived.RowKit3
import Derived.Below
import Derived.OwnWalk
import Derived.Laws.OwnMore
import Derived.Deep.Draws
import Derived.Test.YtimjmdfokicbkaaGreatChecked
import Derived.Handy
import Derived.Deep.RegionHeld3
import Derived.BigQuiet
import Derived.Deep.AppendLies
import Derived.Deep.RegionLaw
import Derived.BigRegion
import Derived.Deep.RegionWith
namespace Go.Proofs.YtimjmdfokicbkaaGreat
set_option linter.unusedVariables false
set_option linter.unusedSimpArgs false
set_option maxHeartbeats 40000000
set_option maxRecDepth 100000
open Go.RowKit
open Go.Value (int)
open Go.IntKind (i64)
structure Ad where
 A:Option Addr
 a:Nat
 M:Option Addr
 m:Nat
 I:Option Addr
 i:Nat
 T:TypeId
abbrev iA (v:Va):Value:=.agg #[int i64 v.kind,int i64 v.n]
def wI (g:Ad) (h:Hp) (vo vx:Value):Array Value :=
 #[.slice g.A h.file.classes.length g.a,.slice g.M h.file.methods.length g.m,vo,.slice g.I h.input.length g.i,int i64 h.calls,int i64 h.fuel,
  int i64 h.sh.fin,int i64 h.sh.value,int i64 h.sh.cls,vx,int i64 h.sh.used,int i64 h.sh.steps,.bool h.over,int i64 h.thrown]
def dv:List Ob->List Value->List Value
 | o::l,v::k=>int i64 o.cls::v::dv l k
 | _,_=>[]
def cK:List ph->List Value
 | []=>[]
 | x::l=>int i64 x.cls::int i64 x.fld::int i64 x.v.kind::int i64 x.v.n::cK l
abbrev hv0:Value:=.bool false
structure wJ (B:Nat) (w:World) (vo:Value) (l:List Ob) (hv:List Value):Prop where
 len:hv.length=l.length
 row:w.ownsRow B 123 2 vo l.length (dv l hv)
 held:∀i,i<l.length->w.ownsRow B 220 4 (nth hv0 hv i) (nth cA l i).held.length (cK (nth cA l i).held)
 apart:∀i j,i<l.length->j<l.length->i≠j->(nth hv0 hv i).ownBlock=none∨(nth hv0 hv i).ownBlock≠(nth hv0 hv j).ownBlock
structure cC (w0:World) (g:Ad) (w:World) (p:Nat) (h:Hp) (vo vx:Value) (hv:List Value):Prop where
 own:w0.heap.size≤p
 blk:w.heap[p]?=some (.cells (wI g h vo vx) g.T (0,0))
 bl:Bl w0 w
 out:w.ownsRow w0.heap.size 2 1 vx h.sh.out.length (h.sh.out.map (Value.int .i64))
 obs:wJ w0.heap.size w vo h.objs hv
def Hs (w0:World) (g:Ad) (w:World) (p:Nat) (h:Hp):Prop:=∃vo vx hv,cC w0 g w p h vo vx hv
def ig (T t:TypeId):Prop:=t=T∨t=123∨t=220∨t=2
structure Tk (T:TypeId):Prop where
 o:T≠123
 h:T≠220
 i:T≠2
 v:T≠62
 c:T≠111
 t:T≠45
 m:T≠49
 n:T≠55
 d:T≠106
section
variable {T:TypeId}
theorem Tk.nv (k:Tk T):¬ig T 62:=by rintro (h|h|h|h)<;>first|exact k.v h.symm|exact absurd h (by decide)
theorem Tk.nc (k:Tk T):¬ig T 111:=by rintro (h|h|h|h)<;>first|exact k.c h.symm|exact absurd h (by decide)
theorem Tk.nt (k:Tk T):¬ig T 45:=by rintro (h|h|h|h)<;>first|exact k.t h.symm|exact absurd h (by decide)
theorem Tk.nm (k:Tk T):¬ig T 49:=by rintro (h|h|h|h)<;>first|exact k.m h.symm|exact absurd h (by decide)
theorem Tk.nn (k:Tk T):¬ig T 55:=by rintro (h|h|h|h)<;>first|exact k.n h.symm|exact absurd h (by decide)
theorem Tk.nd (k:Tk T):¬ig T 106:=by rintro (h|h|h|h)<;>first|exact k.d h.symm|exact absurd h (by decide)
end
structure Fr (B:Nat) (T:TypeId) (w w':World):Prop where
 bl:Below B w w'
 keep:∀(b:Nat) (cs:Array Value) (t:TypeId) (f:Nat×Nat),w.heap[b]?=some (.cells cs t f)->¬ig T t->w'.heap[b]?=some (.cells cs t f)
structure Cf (B:Nat) (T:TypeId) (w w':World):Prop where
 bl:Below B w w'
 keep:∀(b:Nat) (cs:Array Value) (t:TypeId) (f:Nat×Nat),w.heap[b]?=some (.cells cs t f)->ig T t->w'.heap[b]?=some (.cells cs t f)
theorem Fr.refl (B:Nat) (T:TypeId) (w:World):Fr B T w w:=⟨Below.refl _ _,fun _ _ _ _ h _=>h⟩
theorem Fr.trans {B:Nat} {T:TypeId} {a b c:World} (h:Fr B T a b) (k:Fr B T b c):Fr B T a c:=⟨h.bl.trans k.bl,fun x cs t f e n=>k.keep x cs t f (h.keep x cs t f e n) n⟩
theorem Cf.refl (B:Nat) (T:TypeId) (w:World):Cf B T w w:=⟨Below.refl _ _,fun _ _ _ _ h _=>h⟩
section
variable {B:Nat} {T:TypeId} {a:World}
theorem Cf.trans {b c:World} (h:Cf B T a b) (k:Cf B T b c):Cf B T a c:=⟨h.bl.trans k.bl,fun x cs t f e n=>k.keep x cs t f (h.keep x cs t f e n) n⟩
theorem Fr.alloc {w:World} (h:Fr B T a w) (hB:B≤w.heap.size) (o:Obj):Fr B T a (w.alloc o) :=
 h.trans ⟨(Below.refl B w).alloc hB o,fun b _ _ _ e _=>(Below.heap_alloc w o b (af e)).trans e⟩
theorem Cf.alloc {w:World} (h:Cf B T a w) (hB:B≤w.heap.size) (o:Obj):Cf B T a (w.alloc o) :=
 h.trans ⟨(Below.refl B w).alloc hB o,fun b _ _ _ e _=>(Below.heap_alloc w o b (af e)).trans e⟩
theorem Fr.drew {w:World} (h:Fr B T a w):Fr B T a w.drew:=⟨h.bl.drew,h.keep⟩
theorem Cf.drew {w:World} (h:Cf B T a w):Cf B T a w.drew:=⟨h.bl.drew,h.keep⟩
theorem Fr.set {w:World} (h:Fr B T a w) {b i:Nat} {cs:Array Value} {t:TypeId} {f:Nat×Nat} (hb:w.heap[b]?=some (.cells cs t f)) (ht:ig T t) (hB:B≤b) (v:Value):Fr B T a (w.setCell ⟨b,i,none⟩ v):=by
 refine h.trans ⟨(Below.refl B w).setCell hB v,fun x cs' t' f' e n=>?_⟩
 by_cases hx:x=b
 ·subst hx;rw [hb] at e;simp at e;exact absurd (e.2.1▸ht) n
 ·rw [aA hx];exact e
theorem Cf.set {w:World} (h:Cf B T a w) {b i:Nat} {cs:Array Value} {t:TypeId} {f:Nat×Nat} (hb:w.heap[b]?=some (.cells cs t f)) (ht:¬ig T t) (hB:B≤b) (v:Value):Cf B T a (w.setCell ⟨b,i,none⟩ v):=by
 refine h.trans ⟨(Below.refl B w).setCell hB v,fun x cs' t' f' e n=>?_⟩
 by_cases hx:x=b
 ·subst hx;rw [hb] at e;simp at e;exact absurd (e.2.1▸n) ht
 ·rw [aA hx];exact e
end
section
variable {B:Nat} {T:TypeId} {w w':World}
theorem Cf.row (h:Cf B T w w') {e:TypeId} (he:ig T e) {base size n:Nat} {v:Value} {xs:List Value} (ho:w.ownsRow base e size v n xs):w'.ownsRow base e size v n xs:=by
 refine ⟨ho.1,?_⟩
 rcases ho.2 with h0|⟨g,cap,cur,h1,h2,h3,h4⟩
 ·exact Or.inl h0
 ·exact Or.inr ⟨g,cap,cur,h1,h2,h.keep _ _ _ _ h3 he,h4⟩
theorem wJ.cf (h:Cf B T w w') {vo:Value} {l:List Ob} {hv:List Value} (ho:wJ B w vo l hv):wJ B w' vo l hv :=
 ⟨ho.len,h.row (.inr (.inl rfl)) ho.row,fun i hi=>h.row (.inr (.inr (.inl rfl))) (ho.held i hi),ho.apart⟩
end
theorem cC.cf {w0 w w':World} {g:Ad} {p:Nat} {h:Hp} {vo vx:Value} {hv:List Value} (H:cC w0 g w p h vo vx hv) (k:Cf w0.heap.size g.T w w'):cC w0 g w' p h vo vx hv :=
 ⟨H.own,k.keep _ _ _ _ H.blk (.inl rfl),Below.trans H.bl k.bl,k.row (.inr (.inr (.inr rfl))) H.out,H.obs.cf k⟩
theorem cC.base {w0 w:World} {g:Ad} {p:Nat} {h:Hp} {vo vx:Value} {hv:List Value} (H:cC w0 g w p h vo vx hv):w0.heap.size≤w.heap.size:=H.bl.size
structure I6 (g:Ad) (w:World) (p:Nat) (h:Hp) (vo vx:Value):Prop where
 c0:w.cell? ⟨p,0,none⟩=some (.slice g.A h.file.classes.length g.a)
 c1:w.cell? ⟨p,1,none⟩=some (.slice g.M h.file.methods.length g.m)
 c2:w.cell? ⟨p,2,none⟩=some vo
 c3:w.cell? ⟨p,3,none⟩=some (.slice g.I h.input.length g.i)
 c4:w.cell? ⟨p,4,none⟩=some (int i64 h.calls)
 c5:w.cell? ⟨p,5,none⟩=some (int i64 h.fuel)
 c6:w.cell? ⟨p,6,none⟩=some (int i64 h.sh.fin)
 c7:w.cell? ⟨p,7,none⟩=some (int i64 h.sh.value)
 c8:w.cell? ⟨p,8,none⟩=some (int i64 h.sh.cls)
 c9:w.cell? ⟨p,9,none⟩=some vx
 c10:w.cell? ⟨p,10,none⟩=some (int i64 h.sh.used)
 c11:w.cell? ⟨p,11,none⟩=some (int i64 h.sh.steps)
 c12:w.cell? ⟨p,12,none⟩=some (.bool h.over)
 c13:w.cell? ⟨p,13,none⟩=some (int i64 h.thrown)
section
variable {w0 w:World} {g:Ad} {p:Nat} {h:Hp} {vo vx:Value} {hv:List Value}
theorem cC.cells (H:cC w0 g w p h vo vx hv):I6 g w p h vo vx:=by
 constructor<;>(rw [aa H.blk];rfl)
theorem cC.free (H:cC w0 g w p h vo vx hv) (i:Nat):w.frozen? ⟨p,i,none⟩=false:=ay H.blk i
theorem cC.set (H:cC w0 g w p h vo vx hv) (k:Tk g.T) {i:Nat} {v:Value} (h':Hp) (hrow:(wI g h vo vx).setIfInBounds i v=wI g h' vo vx) (ho:h'.objs=h.objs) (hx:h'.sh.out=h.sh.out):cC w0 g (w.setCell ⟨p,i,none⟩ v) p h' vo vx hv:=by
 refine ⟨H.own,?_,Below.setCell H.bl H.own v,?_,?_⟩
 ·rw [ax H.blk,hrow]
 ·rw [hx];exact de H.out H.blk k.i v
 ·rw [ho];exact ⟨H.obs.len,de H.obs.row H.blk k.o v,fun i hi=>de (H.obs.held i hi) H.blk k.h v,H.obs.apart⟩
theorem cC.frSet (H:cC w0 g w p h vo vx hv) (i:Nat) (v:Value):Fr w0.heap.size g.T w (w.setCell ⟨p,i,none⟩ v) :=
 (Fr.refl _ _ w).set H.blk (.inl rfl) H.own v
end
section
variable {B:Nat} {T:TypeId} {a w:World}
theorem Fr.drewN (h:Fr B T a w) (n:Nat):Fr B T a (w.drewN n):=⟨⟨h.bl.os,h.bl.tape,h.bl.output,h.bl.size,h.bl.block⟩,h.keep⟩
theorem Cf.drewN (h:Cf B T a w) (n:Nat):Cf B T a (w.drewN n):=⟨⟨h.bl.os,h.bl.tape,h.bl.output,h.bl.size,h.bl.block⟩,h.keep⟩
end
section
variable {w0 w:World}
theorem cC.drewN {g:Ad} {p:Nat} {h:Hp} {vo vx:Value} {hv:List Value} (H:cC w0 g w p h vo vx hv) (n:Nat):cC w0 g (w.drewN n) p h vo vx hv:=H.cf ((Cf.refl _ _ w).drewN n)
theorem Hs.cf {w':World} {g:Ad} {p:Nat} {h:Hp} (H:Hs w0 g w p h) (k:Cf w0.heap.size g.T w w'):Hs w0 g w' p h:=by
 obtain ⟨vo,vx,hv,H⟩:=H
 exact ⟨vo,vx,hv,H.cf k⟩
theorem Hs.drewN {g:Ad} {p:Nat} {h:Hp} (H:Hs w0 g w p h) (n:Nat):Hs w0 g (w.drewN n) p h:=H.cf ((Cf.refl _ _ w).drewN n)
theorem Hs.base {g:Ad} {p:Nat} {h:Hp} (H:Hs w0 g w p h):w0.heap.size≤w.heap.size:=by
 obtain ⟨vo,vx,hv,H⟩:=H
 exact H.base
end
theorem Fr.new {B:Nat} {T:TypeId} {a w:World} (h:Fr B T a w) {b i:Nat} (hb:a.heap.size≤b) (hB:B≤b) (v:Value):Fr B T a (w.setCell ⟨b,i,none⟩ v):=by
 refine ⟨h.bl.setCell hB v,fun x cs t f e n=>?_⟩
 have:=af e
 rw [aA (by omega)]
 exact h.keep x cs t f e n
structure aQ (w:World) (b:Nat) (v:Va):Prop where
 blk:w.heap[b]?=some (.cells #[int i64 v.kind,int i64 v.n] 62 (0,0))
section
variable {w:World} {b:Nat} {v:Va}
theorem aQ.c0 (h:aQ w b v):w.cell? ⟨b,0,none⟩=some (int i64 v.kind):=by rw [aa h.blk];rfl
theorem aQ.c1 (h:aQ w b v):w.cell? ⟨b,1,none⟩=some (int i64 v.n):=by rw [aa h.blk];rfl
theorem aQ.fr (h:aQ w b v) (i:Nat):w.frozen? ⟨b,i,none⟩=false:=ay h.blk i
end
theorem aQ.keep {B:Nat} {T:TypeId} {w w':World} {b:Nat} {v:Va} (h:aQ w b v) (k:Tk T) (f:Fr B T w w'):aQ w' b v:=⟨f.keep _ _ _ _ h.blk k.nv⟩
theorem aQ.new (w:World) (v:Va):aQ (w.alloc (.cells #[int i64 v.kind,int i64 v.n] 62)) w.heap.size v:=⟨aD _ _ _⟩
section
variable {w:World} {b:Nat} {v:Va}
theorem aQ.drewN (h:aQ w b v) (n:Nat):aQ (w.drewN n) b v:=⟨h.blk⟩
theorem aQ.set (h:aQ w b v) (u:Va):aQ ((w.setCell ⟨b,0,none⟩ (int i64 u.kind)).setCell ⟨b,1,none⟩ (int i64 u.n)) b u :=
 ⟨by rw [ax (ax h.blk _)];rfl⟩
end
theorem aQ.cf {B:Nat} {T:TypeId} {w:World} {b:Nat} {v:Va} (h:aQ w b v) (k:Tk T) (hB:B≤b) (x y:Value):Cf B T w ((w.setCell ⟨b,0,none⟩ x).setCell ⟨b,1,none⟩ y) :=
 ((Cf.refl B T w).set h.blk k.nv hB x).set (ax h.blk x) k.nv hB y
theorem Wf {x y:Value} (h:x=y):Ending.returned x=.returned y:=by rw [h]
section
variable (w0:World) (g:Ad)
theorem nM (k:Tk g.T) (p:Nat) (h:Hp) (how:Int) (w:World) (hH:Hs w0 g w p h) :
  Calls Tryz.prog 110 #[.pointer (some ⟨p,0,none⟩),int i64 how] w fun e w'=>e=.returned (.tuple #[])/\Hs w0 g w' p (h.fin how)/\Fr w0.heap.size g.T w w':=by
 obtain ⟨vo,vx,hv,H⟩:=hH
 have HH:Hid (cC w0 g w p h vo vx hv):=H
 have c12:=H.cells.c12
 have c6:=H.cells.c6
 have f12:=H.free 12
 have f6:=H.free 6
 clear H
 cases ho:h.over
 ·rw [ho] at c12
  have hf:h.fin how={ { h with over:=true } with sh:={ h.sh with fin:=how } }:=by unfold Hp.fin;rw [if_neg (by rw [ho];decide)]
  rw [hf]
  have H1:Hid (cC w0 g (w.setCell ⟨p,12,none⟩ (.bool true)) p { h with over:=true } vo vx hv):=HH.out.set k _ rfl rfl rfl
  have H2:Hid (cC w0 g ((w.setCell ⟨p,12,none⟩ (.bool true)).setCell ⟨p,6,none⟩ (int i64 how)) p { { h with over:=true } with sh:={ h.sh with fin:=how } } vo vx hv):=H1.out.set k _ rfl rfl rfl
  clear hf
  go_enter Tryz.func110,Tryz.ntmps110
  go_wp2
  go_end0
  exact ⟨rfl,⟨vo,vx,hv,H2.out⟩,(HH.out.frSet 12 _).trans (H1.out.frSet 6 _)⟩
 ·rw [ho] at c12
  have hf:h.fin how=h:=by unfold Hp.fin;rw [if_pos ho]
  rw [hf]
  clear hf
  go_enter Tryz.func110,Tryz.ntmps110
  go_wp2
  go_end0
  exact ⟨rfl,⟨vo,vx,hv,HH.out⟩,Fr.refl _ _ _⟩
theorem gQ (p:Nat) (h:Hp) (w:World) (hH:Hs w0 g w p h) :
  Calls Tryz.prog 114 #[.pointer (some ⟨p,0,none⟩)] w fun e w'=>e=.returned (.bool h.stops)/\w'=w:=by
 obtain ⟨vo,vx,hv,H⟩:=hH
 have c12:=H.cells.c12
 have c13:=H.cells.c13
 clear H
 cases ho:h.over
 ·rw [ho] at c12
  have hs:h.stops=decide (0≤h.thrown):=by unfold Hp.stops;rw [ho];rfl
  rw [hs]
  go_enter Tryz.func114,Tryz.ntmps114
  go_wp2
  all_goals
   go_ret
   exact ⟨aj (by simp [*]),rfl⟩
 ·rw [ho] at c12
  have hs:h.stops=true:=by unfold Hp.stops;rw [ho];rfl
  rw [hs]
  go_enter Tryz.func114,Tryz.ntmps114
  go_wp2
  go_ret
  exact ⟨rfl,rfl⟩
theorem bj (k:Tk g.T) (p:Nat) (h:Hp) (b:Bool) (w:World) (hH:Hs w0 g w p h) :
  Calls Tryz.prog 56 #[.pointer (some ⟨p,0,none⟩),.bool b] w fun e w'=>e=.returned (.bool (h.mustB b))/\Hs w0 g w' p (h.must b)/\Fr w0.heap.size g.T w w':=by
 have HH:Hid (Hs w0 g w p h):=hH
 obtain ⟨vo,vx,hv,H⟩:=hH
 have c12:=H.cells.c12
 clear H
 cases b
 ·go_enter Tryz.func56,Tryz.ntmps56
  go_wp2_with (go_at_call 110;refine (nM w0 g k p h 6 _ HH.out).mono ?_;rintro e w1 ⟨rfl,h1,f1⟩)
  go_ret
  exact ⟨rfl,h1,f1⟩
 ·go_enter Tryz.func56,Tryz.ntmps56
  go_wp2
  go_ret
  exact ⟨rfl,HH.out,Fr.refl _ _ _⟩
theorem wK (k:Tk g.T) (p:Nat) (h:Hp) (w:World) (hH:Hs w0 g w p h) (hs:0≤h.sh.steps/\h.sh.steps≤60000) :
  Calls Tryz.prog 55 #[.pointer (some ⟨p,0,none⟩)] w fun e w'=>e=.returned (.bool h.stepB)/\Hs w0 g w' p h.step/\Fr w0.heap.size g.T w w':=by
 have HH:Hid (Hs w0 g w p h):=hH
 obtain ⟨vo,vx,hv,H⟩:=hH
 have HA:Hid (cC w0 g w p h vo vx hv):=H
 have c12:=H.cells.c12
 have c11:=H.cells.c11
 have c5:=H.cells.c5
 have f11:=H.free 11
 clear H
 cases ho:h.over
 ·rw [ho] at c12
  by_cases hf:h.fuel≤h.sh.steps
  ·have e1:h.stepB=false:=by unfold Hp.stepB;rw [decide_eq_false (by omega),Bool.and_false]
   have e2:h.step=h.fin 0:=by unfold Hp.step;rw [if_neg (by rw [ho];decide),if_pos hf]
   rw [e1,e2]
   clear e1 e2
   have d1:decide (h.fuel≤h.sh.steps)=true:=decide_eq_true hf
   go_enter Tryz.func55,Tryz.ntmps55
   go_wp2
   go_quiet (fail)
   go_wp2_with (go_at_call 110;refine (nM w0 g k p h 0 _ (HH.out.drewN _)).mono ?_;rintro e w1 ⟨rfl,h1,f1⟩)
   go_ret
   exact ⟨rfl,h1,((Fr.refl _ _ w).drewN _).trans f1⟩
  ·have e1:h.stepB=true:=by unfold Hp.stepB;rw [decide_eq_true (by omega),ho];rfl
   have e2:h.step={ h with sh:={ h.sh with steps:=h.sh.steps+1 } }:=by unfold Hp.step;rw [if_neg (by rw [ho];decide),if_neg hf]
   rw [e1,e2]
   clear e1 e2
   have d1:decide (h.fuel≤h.sh.steps)=false:=decide_eq_false hf
   go_enter Tryz.func55,Tryz.ntmps55
   go_wp2
   go_quiet (fail)
   go_wp2
   go_ret
   exact ⟨rfl,⟨vo,vx,hv,(HA.out.drewN _).set k _ rfl rfl rfl⟩,((Fr.refl _ _ w).drewN _).trans ((HA.out.drewN _).frSet 11 _)⟩
 ·rw [ho] at c12
  have e1:h.stepB=false:=by unfold Hp.stepB;rw [ho];rfl
  have e2:h.step=h:=by unfold Hp.step;rw [if_pos ho]
  rw [e1,e2]
  clear e1 e2
  go_enter Tryz.func55,Tryz.ntmps55
  go_wp2
  go_ret
  exact ⟨rfl,HH.out,Fr.refl _ _ _⟩
end
theorem bk:(Tryz.prog.info? 62).map (·.size)=some 2:=by kernel_rfl
theorem Mz (w0:World) (g:Ad) (k:Tk g.T) (p:Nat) (h:Hp) (w:World) (hH:Hs w0 g w p h) (hI:cM w0 g.I h.input) (hu:0≤h.sh.used) :
  Calls Tryz.prog 174 #[.pointer (some ⟨p,0,none⟩)] w fun e w'=>e=.returned (iA h.inV)/\Hs w0 g w' p h.input'/\Fr w0.heap.size g.T w w':=by
 have hal:Cf w0.heap.size g.T w (w.alloc (.cells #[int i64 0,int i64 0] 62)):=(Cf.refl _ _ w).alloc hH.base _
 have HF:Hid (Fr w0.heap.size g.T w (w.alloc (.cells #[int i64 0,int i64 0] 62))):=(Fr.refl _ _ w).alloc hH.base _
 have hm:=hI.1
 have cH:=hH.base
 unfold maxLen at hm
 obtain ⟨vo,vx,hv,H⟩:=hH
 have HA:Hid (cC w0 g (w.alloc (.cells #[int i64 0,int i64 0] 62)) p h vo vx hv):=H.cf hal
 have c3:=HA.out.cells.c3
 have c10:=HA.out.cells.c10
 have f10:=HA.out.free 10
 have hlt:p<w.heap.size:=af H.blk
 have HI:Hid (cM (w.alloc (.cells #[int i64 0,int i64 0] 62)) g.I h.input):=hI.bl HA.out.bl
 have HR:Hid (aQ (w.alloc (.cells #[int i64 0,int i64 0] 62)) w.heap.size ag):=aQ.new w ag
 clear H hal hI
 by_cases hd:(h.input.length:Int)≤h.sh.used
 ·have e0:h.dry=true:=decide_eq_true hd
  have e1:h.inV=ag:=by unfold Hp.inV;rw [if_pos e0]
  have e2:h.input'=h.fin 3:=by unfold Hp.input';rw [if_pos e0]
  rw [e1,e2]
  clear e0 e1 e2
  have d1:decide ((h.input.length:Int)≤h.sh.used)=true:=decide_eq_true hd
  go_enter Tryz.func174,Tryz.ntmps174
  go_wp2
  go_quiet (fail)
  go_wp2_with (go_at_call 110;refine (nM w0 g k p h 3 _ ⟨vo,vx,hv,HA.out.drewN _⟩).mono ?_;rintro e w1 ⟨rfl,h1,f1⟩;have b1:=(HR.out.drewN _).keep k f1;have r0:=b1.c0;have r1:=b1.c1;have r2:=b1.fr 0;have r3:=b1.fr 1;have j6:Hid (aQ w1 w.heap.size ag):=b1;clear b1)
  (try simp only [Exit.inBlock,Exit.then])
  refine bodyPost_ret (results_cell_row rfl _ _ w.heap.size _ _ _ _ rfl (j6.out.set ag).blk Tryz.underlying62 rfl bk) rfl ?_
  exact ⟨rfl,h1.cf (j6.out.cf k cH _ _),(((HF.out.drewN _).trans f1).new (Nat.le_refl _) cH _).new (Nat.le_refl _) cH _⟩
 ·have e0:h.dry=false:=decide_eq_false hd
  obtain ⟨q,hq⟩:∃q:Nat,h.sh.used=q:=⟨h.sh.used.toNat,by omega⟩
  have eQ:q<h.input.length:=by omega
  rcases HI.out.2 with h0|⟨b,off,hA,hc⟩
  ·omega
  have hcell:=(hc q eQ).1
  have e1:h.inV=⟨2,nth (0:Int) h.input q⟩:=by unfold Hp.inV;rw [if_neg (by rw [e0];decide),hq];rfl
  have e2:h.input'={ h with sh:={ h.sh with used:=(q:Int)+1 } }:=by unfold Hp.input';rw [if_neg (by rw [e0];decide),hq]
  rw [e1,e2]
  clear e0 e1 e2 hc
  rw [hA] at c3
  rw [hq] at c10
  have d1:decide ((h.input.length:Int)≤(q:Int))=false:=decide_eq_false (by omega)
  have cU:(0:Int)≤(q:Int):=by omega
  have mL:(q:Int)<(h.input.length:Int):=by omega
  clear hq hd hu hA
  have H2:Hid (∀n,cC w0 g (((w.alloc (.cells #[int i64 0,int i64 0] 62)).drewN n).setCell ⟨p,10,none⟩ (int i64 ((q:Int)+1))) p { h with sh:={ h.sh with used:=(q:Int)+1 } } vo vx hv):=fun n=>(HA.out.drewN n).set k _ rfl rfl rfl
  have R2:Hid (∀n,aQ (((w.alloc (.cells #[int i64 0,int i64 0] 62)).drewN n).setCell ⟨p,10,none⟩ (int i64 ((q:Int)+1))) w.heap.size ag):=fun n=>(HR.out.drewN n).keep k ((HA.out.drewN n).frSet 10 _)
  have F2:Hid (∀n,Fr w0.heap.size g.T w (((w.alloc (.cells #[int i64 0,int i64 0] 62)).drewN n).setCell ⟨p,10,none⟩ (int i64 ((q:Int)+1)))):=fun n=>(HF.out.drewN n).trans ((HA.out.drewN n).frSet 10 _)
  go_enter Tryz.func174,Tryz.ntmps174
  go_wp2
  go_quiet (fail)
  go_wp2
  go_quiet (fail)
  go_wp2
  (try simp only [Exit.inBlock,Exit.then])
  refine bodyPost_ret (results_cell_row rfl _ _ w.heap.size _ _ _ _ rfl ((R2.out _).set ⟨2,nth (0:Int) h.input q⟩).blk Tryz.underlying62 rfl bk) rfl ?_
  exact ⟨rfl,⟨vo,vx,hv,(H2.out _).cf ((R2.out _).cf k cH _ _)⟩,((F2.out _).new (Nat.le_refl _) cH _).new (Nat.le_refl _) cH _⟩
theorem QH (h:Hp) (v:Va) (t:Ty):h.of v t=(decide (v.kind=t.kind)&&(decide (t.kind≠3)||(decide (v.n<0)||gj h.file.classes (h.obj v.n).cls t.cls))):=rfl
theorem wL:∀(l:List Ob) (hv:List Value) (i:Nat),hv.length=l.length->i<l.length->(dv l hv)[i*2]?=some (int i64 (nth cA l i).cls)/\(dv l hv)[i*2+1]?=some (nth hv0 hv i)
 | [],_,i,_,h=>by simp at h
 | o::l,[],i,h,_=>by simp at h
 | o::l,v::hv,0,_,_=>by simp [dv,nth]
 | o::l,v::hv,i+1,h,hi=>by
  have:=wL l hv i (by simpa using h) (by simpa using hi)
  have e:(i+1)*2=i*2+1+1:=by omega
  rw [e]
  simpa [dv,nth] using this
theorem EF {w:World} {base:Nat} {e:TypeId} {size n:Nat} {v:Value} {xs:List Value} (ho:w.ownsRow base e size v n xs) (hn:0<n) :
  ∃gb cap,v=.slice (some ⟨gb,0,none⟩) n cap/\base≤gb/\n≤maxLen/\∀j,j<n*size->w.cell? ⟨gb,j,none⟩=xs[j]?:=by
 rcases ho.2 with ⟨-,h0⟩|⟨gb,cap,cur,rfl,h2,h3,h4,h5,h6,h7⟩
 ·omega
 ·refine ⟨gb,cap,rfl,h2,by omega,fun j hj=>?_⟩
  rw [aa h3,<-h7,List.getElem?_take,if_pos hj]
  simp
theorem kf {B:Nat} {w:World} {vo:Value} {l:List Ob} {hv:List Value} (h:wJ B w vo l hv) (hn:0<l.length) :
  ∃gb cap,vo=.slice (some ⟨gb,0,none⟩) l.length cap/\B≤gb/\l.length≤maxLen/\∀i,i<l.length->w.cell? ⟨gb,i*2,none⟩=some (int i64 (nth cA l i).cls)/\w.cell? ⟨gb,i*2+1,none⟩=some (nth hv0 hv i):=by
 obtain ⟨gb,cap,e,hb,hm,hc⟩:=EF h.row hn
 refine ⟨gb,cap,e,hb,hm,fun i hi=>?_⟩
 have:=wL l hv i h.len hi
 exact ⟨(hc _ (by omega)).trans this.1,(hc _ (by omega)).trans this.2⟩
abbrev cS (v:Va):Obj:=.cells #[int i64 v.kind,int i64 v.n] 62
abbrev Ou (t:Ty):Obj:=.cells #[int i64 t.kind,int i64 t.cls] 45
abbrev Wg (t:Ty):Value:=.agg #[int i64 t.kind,int i64 t.cls]
theorem jm (w0:World) (g:Ad) (p:Nat) (h:Hp) (v:Va) (t:Ty) (w:World) (hH:Hs w0 g w p h) (hA:cg w0 g.A h.file.classes) (ht:Tree h.file.classes) (kV:v.kind=3->v.n<h.objs.length) :
  Calls Tryz.prog 58 #[.pointer (some ⟨p,0,none⟩),iA v,Wg t] w fun e w'=>e=.returned (.bool (h.of v t))/\Hs w0 g w' p h/\Fr w0.heap.size g.T w w'/\Bl w w':=by
 have cH:=hH.base
 have hal:Cf w0.heap.size g.T w ((w.alloc (cS v)).alloc (Ou t)):=((Cf.refl _ _ w).alloc cH _).alloc (by simp;omega) _
 have HF:Hid (Fr w0.heap.size g.T w ((w.alloc (cS v)).alloc (Ou t))):=((Fr.refl _ _ w).alloc cH _).alloc (by simp;omega) _
 have ou:Hid (Bl w ((w.alloc (cS v)).alloc (Ou t))):=((Bl.refl _).alloc _).alloc _
 obtain ⟨vo,vx,hv,H⟩:=hH
 have HA:Hid (cC w0 g ((w.alloc (cS v)).alloc (Ou t)) p h vo vx hv):=H.cf hal
 have HT:Hid (Tree h.file.classes):=ht
 have HC:Hid (cg ((w.alloc (cS v)).alloc (Ou t)) g.A h.file.classes):=hA.bl HA.out.bl
 have c0:=HA.out.cells.c0
 have c2:=HA.out.cells.c2
 clear H hal hA ht
 by_cases e1:v.kind=t.kind
 ·by_cases e3:t.kind=3
  ·by_cases en:v.n<0
   ·have hr:h.of v t=true:=by unfold Hp.of;rw [decide_eq_true e1,decide_eq_true en];simp
    rw [hr]
    obtain ⟨vk,vn⟩:=v
    obtain ⟨tk,tc⟩:=t
    dsimp only at e1 e3 en
    subst e3
    subst e1
    have d1:decide (vn<0)=true:=decide_eq_true en
    go_enter Tryz.func58,Tryz.ntmps58
    go_wp2
    go_quiet (fail)
    go_wp2
    go_ret
    exact ⟨rfl,⟨vo,vx,hv,HA.out.drewN _⟩,HF.out.drewN _,aR ou.out _⟩
   ·obtain ⟨vk,vn⟩:=v
    obtain ⟨tk,tc⟩:=t
    dsimp only at e1 e3 en kV
    subst e3
    subst e1
    obtain ⟨q,rfl⟩:∃q:Nat,vn=q:=⟨vn.toNat,by omega⟩
    have hq:=kV rfl
    have eQ:q<h.objs.length:=by omega
    obtain ⟨gb,cap,mW,-,yC,hc⟩:=kf HA.out.obs (by omega)
    have ho:=(hc q eQ).1
    rw [mW] at c2
    unfold maxLen at yC
    have hr:h.of ⟨3,q⟩ ⟨3,tc⟩=(jU h.file.classes (nth cA h.objs q).cls tc&&fI h.file.classes (nth cA h.objs q).cls.toNat tc.toNat):=by
     unfold Hp.of Hp.obj gj;rw [decide_eq_false en];simp
    rw [hr]
    obtain ⟨R,hR⟩:∃R,(jU h.file.classes (nth cA h.objs q).cls tc&&fI h.file.classes (nth cA h.objs q).cls.toNat tc.toNat)=R:=⟨_,rfl⟩
    rw [hR]
    have d1:decide ((q:Int)<0)=false:=decide_eq_false en
    have cU:(0:Int)≤(q:Int):=by omega
    have mL:(q:Int)<(h.objs.length:Int):=by omega
    clear hr hc kV mW en
    generalize hX:(nth cA h.objs q).cls=X at *
    clear hX
    go_enter Tryz.func58,Tryz.ntmps58
    go_wp2
    go_quiet ((go_at_call 112;exact Calls.quiet_of_same ((fP _ _ _ _ _ _ (HC.out.bl (aR (Bl.refl _) _)) HT.out).mono fun e w' hh=>⟨hh.1.trans (aj hR),hh.2⟩)))
    go_wp2
    go_ret
    exact ⟨rfl,⟨vo,vx,hv,HA.out.drewN _⟩,HF.out.drewN _,aR ou.out _⟩
  ·have hr:h.of v t=true:=by unfold Hp.of;rw [decide_eq_true e1,decide_eq_true e3];simp
   rw [hr]
   obtain ⟨vk,vn⟩:=v
   obtain ⟨tk,tc⟩:=t
   dsimp only at e1 e3
   subst e1
   have d1:(vk !=3)=true:=by simpa using e3
   clear e3
   go_enter Tryz.func58,Tryz.ntmps58
   go_wp2
   go_quiet (fail)
   go_wp2
   go_ret
   exact ⟨rfl,⟨vo,vx,hv,HA.out.drewN _⟩,HF.out.drewN _,aR ou.out _⟩
 ·have hr:h.of v t=false:=by unfold Hp.of;rw [decide_eq_false e1];rfl
  rw [hr]
  have d1:(v.kind !=t.kind)=true:=by simpa using e1
  clear e1
  go_enter Tryz.func58,Tryz.ntmps58
  go_wp2
  go_ret
  exact ⟨rfl,⟨vo,vx,hv,HA.out⟩,HF.out,ou.out⟩
theorem EG:(Tryz.prog.info? 2).map (fun i=>(i.zero,i.size,i.bytes))=some (some (int i64 0),1,8):=by kernel_rfl
theorem cC.outs {w0 w w2:World} {g:Ad} {p:Nat} {h:Hp} {vo vx:Value} {hv:List Value} (H:cC w0 g w p h vo vx hv) (k:Tk g.T) (hg:w.grownBy w2 vx.ownBlock) {n:Int} {v':Value}
  (ho:w2.ownsRow w0.heap.size 2 1 v' (h.sh.out.length+1) (h.sh.out.map (Value.int .i64)++[int i64 n])) :
  cC w0 g (w2.setCell ⟨p,9,none⟩ v') p { h with sh:={ h.sh with out:=h.sh.out++[n] } } vo v' hv/\Fr w0.heap.size g.T w (w2.setCell ⟨p,9,none⟩ v'):=by
 have hp:w2.heap[p]?=some (.cells (wI g h vo vx) g.T (0,0)):=df hg H.out H.blk k.i
 have hbl:=mF hg H.out H.base
 refine ⟨⟨H.own,by rw [ax hp];rfl,Below.setCell (Below.trans H.bl hbl) H.own _,?_,?_⟩,?_⟩
 ·have:=de (i:=9) ho hp k.i v'
  simpa using this
 ·exact ⟨H.obs.len,de (jV hg H.out H.obs.row (by decide)) hp k.o _,fun i hi=>de (jV hg H.out (H.obs.held i hi) (by decide)) hp k.h _,H.obs.apart⟩
 ·refine Fr.set ⟨hbl,fun b cs t f e n=>df hg H.out e fun ht=>n (ht▸.inr (.inr (.inr rfl)))⟩ hp (.inl rfl) H.own _
theorem EH (w0:World) (g:Ad) (k:Tk g.T) (p:Nat) (h:Hp) (v:Va) (kd:Int) (w:World) (hH:Hs w0 g w p h) (ho:h.sh.out.length≤60000) :
  Calls Tryz.prog 116 #[.pointer (some ⟨p,0,none⟩),iA v,int i64 kd] w fun e w'=>e=.returned (.tuple #[])/\Hs w0 g w' p (h.emit v kd)/\Fr w0.heap.size g.T w w':=by
 obtain ⟨i0,ta,sd,tf,th⟩:=info_parts EG
 have cH:=hH.base
 have HF:Hid (Fr w0.heap.size g.T w (w.alloc (cS v))):=(Fr.refl _ _ w).alloc cH _
 have HH:Hid (Hs w0 g (w.alloc (cS v)) p h):=hH.cf ((Cf.refl _ _ w).alloc cH _)
 have HV:Hid (aQ (w.alloc (cS v)) w.heap.size v):=aQ.new w v
 clear hH
 cases hm:h.mustB (decide (v.kind=kd))
 ·have hr:h.emit v kd=h.must (decide (v.kind=kd)):=by unfold Hp.emit;rw [if_neg (by rw [hm];decide)]
  rw [hr]
  clear hr
  have hq:(v.kind==kd)=decide (v.kind=kd):=by rw [Bool.eq_iff_iff];simp
  go_enter Tryz.func116,Tryz.ntmps116
  go_wp2_with (go_at_call 56;refine (bj w0 g k p h _ _ HH.out).mono ?_;rintro e w1 ⟨he,h1,f1⟩;rw [hm] at he;subst he)
  go_end0
  exact ⟨rfl,h1,HF.out.trans f1⟩
 ·have hd:decide (v.kind=kd)=true:=by unfold Hp.mustB at hm;simp at hm;simpa using hm.1
  have hk:v.kind=kd:=of_decide_eq_true hd
  have bq:h.over=false:=by unfold Hp.mustB at hm;simp at hm;exact hm.2
  have hr:h.emit v kd={ h with sh:={ h.sh with out:=h.sh.out++[v.n] } }:=by unfold Hp.emit;rw [if_pos hm]
  rw [hr]
  have xV:h.must true=h:=rfl
  have ko:h.mustB true=true:=by unfold Hp.mustB;rw [bq];rfl
  subst hk
  clear hr hd hm bq
  go_enter Tryz.func116,Tryz.ntmps116
  go_wp2_with (go_at_call 56;refine (bj w0 g k p h true _ HH.out).mono ?_;rintro e w1 ⟨he,h1,f1⟩;rw [ko] at he;subst he;have b1:=HV.out.keep k f1;have HB:Hid (aQ w1 w.heap.size v):=b1;have r1:=b1.c1;have tl:=af b1.blk;clear b1;obtain ⟨vo,vx,hv,H⟩:=h1;have HA:Hid (cC w0 g w1 p h vo vx hv):=H;have c9:=H.cells.c9;have f9:=H.free 9;have vh:=af H.blk;have hb1:=H.base;clear H)
  have HO:Hid (w1.ownsRow w0.heap.size 2 1 vx h.sh.out.length (h.sh.out.map (Value.int .i64))):=HA.out.out
  go_region_law ((refine step_append_lies _ (by rfl) _ _ _ (by rfl) w0.heap.size 2 i0 _ 1 8 Tryz.underlying26 ta sd tf th rfl (by omega) vx h.sh.out.length (h.sh.out.map (Value.int .i64)) (by rfl) ((HO.out.alloc _).drew) ⟨w1.heap.size,0,none⟩ 1 1 [int i64 v.n] (by rfl) (by rfl) (World.news_of_block (cs:=#[int i64 v.n]) (t:=2) (fr:=(0,0)) (heap_alloc_new w1 _)) (by simp [Value.oneCell']) (by omega) (by unfold maxLen;omega) (by omega) (by simp;omega) (w1.heap.size+1) (by simp) ?_;intro gg cap w2 lD bK hat hlt;have mI:=df bK ((HO.out.alloc _).drew) (HA.out.cf (((Cf.refl _ _ w1).alloc hb1 _).drew)).blk k.i;have q9:w2.cell? ⟨p,9,none⟩=some vx:=(aa mI).trans rfl;have z9:=ay mI 9;have dA:=df bK ((HO.out.alloc _).drew) (HB.out.keep k (((Fr.refl w0.heap.size _ w1).alloc hb1 _).drew)).blk (by decide);have q1:w2.cell? ⟨w.heap.size,1,none⟩=some (int i64 v.n):=(aa dA).trans rfl;clear mI dA))
  all_goals go_wp2
  all_goals
   go_end0
   have hh:=cC.outs (HA.out.cf (((Cf.refl _ _ w1).alloc hb1 _).drew)) k bK lD
   exact ⟨rfl,⟨vo,_,hv,hh.1⟩,((HF.out.trans f1).trans (((Fr.refl _ _ w1).alloc hb1 _).drew)).trans hh.2⟩
theorem qD (l k:List ph):cK (l++k)=cK l++cK k:=by
 induction l with
 | nil=>rfl
 | cons x l ih=>simp [cK,ih]
theorem EI (l:List ph):(cK l).length=l.length*4:=by
 induction l with
 | nil=>rfl
 | cons x l ih=>simp [cK,ih];omega
theorem lE:∀(l:List Ob) (hv:List Value) (o:Ob) (v:Value),hv.length=l.length->dv (l++[o]) (hv++[v])=dv l hv++[int i64 o.cls,v]
 | [],[],o,v,_=>rfl
 | [],_::_,_,_,h=>by simp at h
 | _::_,[],_,_,h=>by simp at h
 | a::l,b::hv,o,v,h=>by simp [dv,lE l hv o v (by simpa using h)]
def dF (cs:List Cl) (c q:Nat):List ph:=(List.range q).flatMap (iw cs c)
def dG (cs:List Cl) (d k:Nat):List ph:=(List.range k).map (fun j=>⟨(d:Nat),(j:Nat),jc (nth cL (nth cd cs d).fields j)⟩)
theorem Lg (cs:List Cl) (c:Nat):dF cs c 0=[]:=rfl
theorem qE {cs:List Cl} {c q:Nat} (h:fI cs c q=false):dF cs c (q+1)=dF cs c q:=by
 unfold dF;rw [List.range_succ,List.flatMap_append];simp [iw,h]
theorem sr {cs:List Cl} {c q:Nat} (h:fI cs c q=true):dF cs c (q+1)=dF cs c q++dG cs q (nth cd cs q).fields.length:=by
 unfold dF dG;rw [List.range_succ,List.flatMap_append];simp [iw,h]
section
variable (cs:List Cl) (d:Nat)
theorem rN:dG cs d 0=[]:=rfl
theorem rO (k:Nat):dG cs d (k+1)=dG cs d k++[⟨(d:Nat),(k:Nat),jc (nth cL (nth cd cs d).fields k)⟩]:=by
 unfold dG;rw [List.range_succ,List.map_append];rfl
theorem kS (k:Nat):(dG cs d k).length=k:=by simp [dG]
end
theorem sw {cs:List Cl} (hf:∀d,d<cs.length->(nth cd cs d).fields.length≤6) (c:Nat):∀q,q≤cs.length->(dF cs c q).length≤6*q
 | 0,_=>by simp [dF]
 | q+1,h=>by
  have h1:=sw hf c q (by omega)
  have h2:=hf q (by omega)
  cases hb:fI cs c q
  ·rw [qE hb];omega
  ·rw [sr hb,List.length_append,kS];omega
theorem yD (cs:List Cl) (c:Nat):dz cs c=dF cs c cs.length:=rfl
theorem tE {w w':World} (hb:Bl w w') {base:Nat} {e:TypeId} {size n:Nat} {v:Value} {xs:List Value} (ho:w.ownsRow base e size v n xs):w'.ownsRow base e size v n xs:=by
 refine ⟨ho.1,?_⟩
 rcases ho.2 with h0|⟨gb,cap,cur,h1,h2,h3,h4⟩
 ·exact Or.inl h0
 ·exact Or.inr ⟨gb,cap,cur,h1,h2,(hb.block gb (af h3)).trans h3,h4⟩
theorem cC.old {w0 w w':World} {g:Ad} {p:Nat} {h:Hp} {vo vx:Value} {hv:List Value} (H:cC w0 g w p h vo vx hv) (hb:Bl w w'):cC w0 g w' p h vo vx hv :=
 ⟨H.own,(hb.block p (af H.blk)).trans H.blk,Bl.trans H.bl hb,tE hb H.out,⟨H.obs.len,tE hb H.obs.row,fun i hi=>tE hb (H.obs.held i hi),H.obs.apart⟩⟩
theorem Fr.old {B:Nat} {T:TypeId} {w w':World} (hB:B≤w.heap.size) (hb:Bl w w'):Fr B T w w' :=
 ⟨Below.mono hb hB,fun b _ _ _ e _=>(hb.block b (af e)).trans e⟩
theorem EJ {w:World} {base mn:Nat} {e:TypeId} {size n:Nat} {v:Value} {xs:List Value} (ho:w.ownsRow base e size v n xs) (hb:mn≤base):w.ownsRow mn e size v n xs:=by
 refine ⟨ho.1,?_⟩
 rcases ho.2 with h0|⟨gb,cap,cur,h1,h2,h3,h4⟩
 ·exact Or.inl h0
 ·exact Or.inr ⟨gb,cap,cur,h1,by omega,h3,h4⟩
theorem jQ {α:Type} {d:α} {l k:List α} {i:Nat} (h:i<l.length):nth d (l++k) i=nth d l i:=by
 simp [nth,List.getD,List.getElem?_append_left h]
theorem jR {α:Type} {d x:α} {l:List α}:nth d (l++[x]) l.length=x:=by simp [nth,List.getD]
theorem cC.objsAdd {w0 w w2:World} {g:Ad} {p:Nat} {h:Hp} {vo vx:Value} {hv:List Value} (H:cC w0 g w p h vo vx hv) (k:Tk g.T) (hg:w.grownBy w2 vo.ownBlock) {o:Ob} {u v':Value} {S:Nat}
  (ho:w2.ownsRow w0.heap.size 123 2 v' (h.objs.length+1) (dv h.objs hv++[int i64 o.cls,u]))
  (hu:w.ownsRow S 220 4 u o.held.length (cK o.held)) (hS:w0.heap.size≤S) (hlt:∀i,i<h.objs.length->∀b,(nth hv0 hv i).ownBlock=some b->b<S) :
  cC w0 g (w2.setCell ⟨p,2,none⟩ v') p { h with objs:=h.objs++[o] } v' vx (hv++[u])/\Fr w0.heap.size g.T w (w2.setCell ⟨p,2,none⟩ v'):=by
 have hp:w2.heap[p]?=some (.cells (wI g h vo vx) g.T (0,0)):=df hg H.obs.row H.blk k.o
 have hbl:=mF hg H.obs.row H.base
 refine ⟨⟨H.own,by rw [ax hp];rfl,Below.setCell (Below.trans H.bl hbl) H.own _,de (jV hg H.obs.row H.out (by decide)) hp k.i _,?_,?_,?_,?_⟩,?_⟩
 ·simp [H.obs.len]
 ·have:=de (i:=2) ho hp k.o v'
  rw [lE _ _ _ _ H.obs.len]
  simpa using this
 ·intro i hi
  simp only [List.length_append,List.length_singleton] at hi
  by_cases hl:i<h.objs.length
  ·rw [jQ hl,jQ (by rw [H.obs.len];exact hl)]
   exact de (jV hg H.obs.row (H.obs.held i hl) (by decide)) hp k.h _
  ·obtain rfl:i=h.objs.length:=by omega
   rw [jR]
   have e:nth hv0 (hv++[u]) h.objs.length=u:=by rw [<-H.obs.len];exact jR
   rw [e]
   exact de (jV hg H.obs.row (EJ hu hS) (by decide)) hp k.h _
 ·have key:∀i,i<h.objs.length->(nth hv0 (hv++[u]) i)=nth hv0 hv i:=fun i hi=>jQ (by rw [H.obs.len];exact hi)
  have e:nth hv0 (hv++[u]) h.objs.length=u:=by rw [<-H.obs.len];exact jR
  intro i j hi hj Wh
  simp only [List.length_append,List.length_singleton] at hi hj
  by_cases hl:i<h.objs.length
  ·rw [key i hl]
   by_cases zU:j<h.objs.length
   ·rw [key j zU];exact H.obs.apart i j hl zU Wh
   ·obtain rfl:j=h.objs.length:=by omega
    rw [e]
    cases Lh:(nth hv0 hv i).ownBlock with
    | none=>exact Or.inl rfl
    | some b =>
     right
     intro hc
     have h1:=hlt i hl b Lh
     have h2:=(hu.lt b hc.symm).1
     omega
  ·obtain rfl:i=h.objs.length:=by omega
   rw [e,key j (by omega)]
   cases Lh:u.ownBlock with
   | none=>exact Or.inl rfl
   | some b =>
    right
    intro hc
    have h1:=hlt j (by omega) b hc.symm
    have h2:=(hu.lt b Lh).1
    omega
 ·refine Fr.set ⟨hbl,fun b cs t f e n=>df hg H.obs.row e fun ht=>n (ht▸.inr (.inl rfl))⟩ hp (.inl rfl) H.own _
theorem I7:(Tryz.prog.info? 220).map (fun i=>(i.zero,i.size,i.bytes))=some (some (.agg #[int i64 0,int i64 0,int i64 0,int i64 0]),4,32):=by kernel_rfl
theorem I8:(Tryz.prog.info? 123).map (fun i=>(i.zero,i.size,i.bytes))=some (some (.agg #[int i64 0,.slice none 0 0]),2,32):=by kernel_rfl
abbrev iq:Obj:=.cells #[int i64 0,int i64 0] 62
structure Mk (w wr:World) (c:Int) (u:Value) (l:List ph):Prop where
 bl:Bl w wr
 res:aQ wr w.heap.size ag
 box:wr.heap[w.heap.size+1]?=some (.cells #[int i64 c,u] 123 (0,0))
 row:wr.ownsRow (w.heap.size+2) 220 4 u l.length (cK l)
section
variable {w wr:World} {c:Int} {u:Value} {l:List ph}
theorem Mk.lt (h:Mk w wr c u l):w.heap.size+1<wr.heap.size:=af h.box
theorem Mk.alloc (h:Mk w wr c u l) (o:Obj):Mk w (wr.alloc o) c u l :=
 ⟨h.bl.alloc o,⟨(Below.heap_alloc _ _ _ (af h.res.blk)).trans h.res.blk⟩,(Below.heap_alloc _ _ _ h.lt).trans h.box,h.row.alloc o⟩
theorem Mk.far (h:Mk w wr c u l) {b i:Nat} {cs:Array Value} {t:TypeId} {f:Nat×Nat} (hb:wr.heap[b]?=some (.cells cs t f)) (ht:t≠220) (h2:w.heap.size+1<b) (v:Value):Mk w (wr.setCell ⟨b,i,none⟩ v) c u l :=
 ⟨h.bl.setCell (by show w.heap.size≤b;omega) v,⟨by rw [aA (by omega)];exact h.res.blk⟩,by rw [aA (by omega)];exact h.box,de h.row hb ht v⟩
end
theorem Mk.more {w wr w2:World} {c:Int} {u u':Value} {l:List ph} {x:ph} (h:Mk w wr c u l) (hg:wr.grownBy w2 u.ownBlock)
  (ho:w2.ownsRow (w.heap.size+2) 220 4 u' (l.length+1) (cK l++cK [x])):Mk w (w2.setCell ⟨w.heap.size+1,1,none⟩ u') c u' (l++[x]):=by
 have hx:=df hg h.row h.box (by decide)
 refine ⟨?_,⟨by rw [aA (by omega)];exact df hg h.row h.res.blk (by decide)⟩,by rw [ax hx];rfl,?_⟩
 ·have hb:Bl w w2:=Below.trans h.bl (Below.mono (mF hg h.row h.lt) (by omega))
  exact hb.setCell (by show w.heap.size≤w.heap.size+1;omega) _
 ·have:=de (i:=1) ho hx (by decide) u'
  rw [qD]
  simpa using this
theorem sx (w6:World) (o o':Obj) (a b c d:Value) (t:TypeId):∀(j:Nat) (u:Value),[a,b,c,d][j]?=some u->(((w6.alloc o).alloc o').alloc (.cells #[a,b,c,d] t)).cell? ((⟨w6.heap.size+1+1,0,none⟩:Addr).add j)=some u:=by
 have h2:((w6.alloc o).alloc o').heap.size=w6.heap.size+1+1:=by rw [World.size_alloc,World.size_alloc]
 intro j u hj
 have hb:=aD ((w6.alloc o).alloc o') #[a,b,c,d] t
 rw [h2] at hb
 rw [show ((⟨w6.heap.size+1+1,0,none⟩:Addr).add j)=⟨w6.heap.size+1+1,j,none⟩ from by simp [Addr.add];intro h;exact h.symm,aa hb]
 simpa using hj
theorem Mk.start (w:World) (c:Int):Mk w ((w.alloc iq).alloc (.cells #[int i64 c,.slice none 0 0] 123)) c (.slice none 0 0) []:=by
 have h1:(w.alloc iq).heap.size=w.heap.size+1:=World.size_alloc ..
 refine ⟨((Bl.refl w).alloc _).alloc _,⟨?_⟩,?_,World.ownsRow_nil _ _ _ _⟩
 ·rw [Below.heap_alloc _ _ _ (by omega)];exact aD _ _ _
 ·rw [<-h1];exact aD _ _ _
theorem tF (w0:World) (g:Ad) (k:Tk g.T) (p:Nat) (h:Hp) (c:Int) (w:World) (hH:Hs w0 g w p h) (hA:cg w0 g.A h.file.classes) (ht:Tree h.file.classes) (hc:0≤c/\c<h.file.classes.length)
  (hcl:h.file.classes.length≤12) (hf:∀d,d<h.file.classes.length->(nth cd h.file.classes d).fields.length≤6) :
  Calls Tryz.prog 171 #[.pointer (some ⟨p,0,none⟩),int i64 c] w fun e w'=>e=.returned (iA h.newV)/\Hs w0 g w' p (h.new c)/\Fr w0.heap.size g.T w w':=by
 obtain ⟨i0,ta,sd,tf,th⟩:=info_parts I7
 obtain ⟨i1,NX,Wi,Wj,Wk⟩:=info_parts I8
 have cH:=hH.base
 obtain ⟨vo,vx,hv,H⟩:=hH
 have HA:Hid (cC w0 g w p h vo vx hv):=H
 have Hy:=af H.blk
 have RZ:Hid (Bl w (w.alloc iq)):=(Bl.refl w).alloc _
 have ea:Hid (aQ (w.alloc iq) w.heap.size ag):=aQ.new w ag
 have c2:=(H.old RZ.out).cells.c2
 have HT:Hid (Tree h.file.classes):=ht
 have HC:Hid (cg w g.A h.file.classes):=hA.bl H.bl
 have tG:Hid (∀q,q≤h.file.classes.length->(dF h.file.classes c.toNat q).length≤6*q):=sw hf c.toNat
 have Wl:Hid (∀d,d<h.file.classes.length->(nth cd h.file.classes d).fields.length≤6):=hf
 clear H hA ht hf
 by_cases zZ:100≤h.objs.length
 ·have e0:h.full=true:=decide_eq_true zZ
  have e1:h.newV=ag:=by unfold Hp.newV;rw [if_pos e0]
  have e2:h.new c=h.fin 4:=by unfold Hp.new;rw [if_pos e0]
  rw [e1,e2]
  clear e0 e1 e2
  obtain ⟨gb,cap,mW,-,yC,-⟩:=kf HA.out.obs (by omega)
  rw [mW] at c2
  unfold maxLen at yC
  go_enter Tryz.func171,Tryz.ntmps171
  go_wp2_with (go_at_call 110;refine (nM w0 g k p h 4 _ ⟨vo,vx,hv,HA.out.old RZ.out⟩).mono ?_;rintro e w1 ⟨rfl,h1,f1⟩;have b1:=ea.out.keep k f1;have r0:=b1.c0;have r1:=b1.c1;have r2:=b1.fr 0;have r3:=b1.fr 1;have j6:Hid (aQ w1 w.heap.size ag):=b1;clear b1)
  (try simp only [Exit.inBlock,Exit.then])
  refine bodyPost_ret (results_cell_row rfl _ _ w.heap.size _ _ _ _ rfl (j6.out.set ag).blk Tryz.underlying62 rfl bk) rfl ?_
  exact ⟨rfl,h1.cf (j6.out.cf k cH _ _),((((Fr.old cH RZ.out).trans f1).new (Nat.le_refl _) cH _).new (Nat.le_refl _) cH _)⟩
 ·have e0:h.full=false:=decide_eq_false zZ
  have e1:h.newV=⟨3,(h.objs.length:Nat)⟩:=by unfold Hp.newV;rw [if_neg (by rw [e0];decide)]
  have e2:h.new c={ h with objs:=h.objs++[⟨c,dz h.file.classes c.toNat⟩] }:=by unfold Hp.new;rw [if_neg (by rw [e0];decide)]
  rw [e1,e2,yD]
  clear e0 e1 e2
  obtain ⟨A0,yE,rfl⟩:∃A0 yE,vo=.slice A0 h.objs.length yE:=by
   rcases HA.out.obs.row.2 with ⟨e,e'⟩|⟨gb,cap,cur,e,-⟩
   ·exact ⟨none,0,by rw [e,e']⟩
   ·exact ⟨_,cap,e⟩
  have dl:decide ((100:Int)≤(h.objs.length:Int))=false:=decide_eq_false (by omega)
  go_enter Tryz.func171,Tryz.ntmps171
  go_wp2
  go_loopw [6] (fun i wr=>∃(q:Nat) (u:Value),q≤h.file.classes.length/\i=int i64 q/\Hid (Mk w wr c u (dF h.file.classes c.toNat q))) (fun i _=>h.file.classes.length-(intOf i).toNat)
  case atStart=>exact ⟨0,.slice none 0 0,Nat.zero_le _,rfl,Mk.start w c⟩
  case round =>
   obtain ⟨q,u,hq,rfl,hM⟩:=hrel
   obtain ⟨w5,kR⟩:∃w5,w5=wr:=⟨wr,rfl⟩
   subst kR
   clear c2
   have c0:=(HA.out.old hM.out.bl).cells.c0
   by_cases eQ:q<h.file.classes.length
   ·have tH:=HC.out.bl hM.out.bl
    have QI:jU h.file.classes c (q:Int)=true:=decide_eq_true (by omega)
    cases hb:fI h.file.classes c.toNat q
    ·have Ru:Hid (Mk w w5 c u (dF h.file.classes c.toNat (q+1))):=by rw [qE hb];exact hM
     have MA:(jU h.file.classes c (q:Int)&&fI h.file.classes c.toNat (q:Int).toNat)=false:=by rw [QI,Int.toNat_natCast,hb];rfl
     clear QI hb hM
     have nY:Hid (cg w5 g.A h.file.classes):=tH
     clear tH
     go_wp2_with (go_at_call 112;refine (fP _ _ _ _ _ _ nY.out HT.out).mono ?_;rintro e w6 ⟨he,Dj⟩;rw [MA] at he;subst he;rw [Dj];clear Dj w6)
     go_roundw
     case rel=>exact ⟨q+1,u,by omega,by go_num,Ru⟩
     case measure=>simp [intOf];omega
    ·have Ue:Hid (dF h.file.classes c.toNat (q+1)=dF h.file.classes c.toNat q++dG h.file.classes q (nth cd h.file.classes q).fields.length):=sr hb
     have MA:(jU h.file.classes c (q:Int)&&fI h.file.classes c.toNat (q:Int).toNat)=true:=by rw [QI,Int.toNat_natCast,hb];rfl
     have nY:Hid (cg w5 g.A h.file.classes):=tH
     clear QI hb tH
     go_wp2_with (go_at_call 112;refine (fP _ _ _ _ _ _ nY.out HT.out).mono ?_;rintro e w6 ⟨he,Dj⟩;rw [MA] at he;subst he;rw [Dj];clear Dj w6)
     go_loopw [7] (fun i wr=>∃(j:Nat) (u:Value),j≤(nth cd h.file.classes q).fields.length/\i=int i64 j/\Hid (Mk w wr c u (dF h.file.classes c.toNat q++dG h.file.classes q j))) (fun i _=>(nth cd h.file.classes q).fields.length-(intOf i).toNat)
     case atStart=>exact ⟨0,u,Nat.zero_le _,rfl,by rw [rN,List.append_nil];exact hM⟩
     case round =>
      clear hM c0 nY
      obtain ⟨j,u,hj,rfl,hM⟩:=hrel
      rename World=>w6
      have c0:=(HA.out.old hM.out.bl).cells.c0
      have tH:=HC.out.bl hM.out.bl
      rcases tH.2 with h0|⟨b,off,NY,hcell⟩
      ·omega
      obtain ⟨-,-,A',c',jB,hty⟩:=hcell q eQ
      rw [NY] at c0
      have KK:=hty.1
      have Li:=tH.1
      unfold maxLen at KK Li
      by_cases NZ:j<(nth cd h.file.classes q).fields.length
      ·rcases hty.2 with h0|⟨b',gp,Uf,htc⟩
       ·omega
       obtain ⟨t1,t2,-,-⟩:=htc j NZ
       rw [Uf] at jB
       have hlen:=tG.out q (by omega)
       have Wm:=Wl.out q eQ
       have Lj:=hM.out.lt
       have YI:(dF h.file.classes c.toNat q++dG h.file.classes q j).length≤78:=by rw [List.length_append,kS];omega
       have Ug:Hid (dG h.file.classes q (j+1)=dG h.file.classes q j++[⟨(q:Nat),(j:Nat),jc (nth cL (nth cd h.file.classes q).fields j)⟩]):=rO _ _ _
       have YJ:(0:Int)≤(j:Int):=by omega
       have YK:(j:Int)<((nth cd h.file.classes q).fields.length:Int):=by omega
       have mL:(q:Int)<(h.file.classes.length:Int):=by omega
       generalize hT:nth cL (nth cd h.file.classes q).fields j=t at *
       generalize hL:dF h.file.classes c.toNat q++dG h.file.classes q j=L at *
       have zQ:Hid (dF h.file.classes c.toNat q++dG h.file.classes q j=L):=hL
       have hne:w.heap.size≠w6.heap.size:=by omega
       have Wn:∀o o',((w6.alloc o).alloc o').cell? ⟨w.heap.size+1,1,none⟩=some u:=fun o o'=>by rw [aa ((hM.out.alloc o).alloc o').box];rfl
       clear hcell hty tH htc hT hL Uf NY
       by_cases sU:t.kind=3
       ·have O0:Hid (jc t=⟨3,-1⟩):=by unfold jc;rw [if_pos sU,sU];rfl
        rw [sU] at t1
        clear sU
        have M4:Hid (Mk w (((w6.alloc (.cells #[int i64 3,int i64 t.cls] 45)).alloc (.cells #[int i64 3,int i64 (-1)] 62)).alloc (.cells #[int i64 (q:Int),int i64 (j:Int),int i64 3,int i64 (-1)] 220)) c u L):=((hM.out.alloc _).alloc _).alloc _
        have R0:Hid (∀(i:Nat) (x:Value),[Value.int .i64 (q:Int),int i64 (j:Int),int i64 3,int i64 (-1)][i]?=some x->(((w6.alloc (.cells #[int i64 3,int i64 t.cls] 45)).alloc (.cells #[int i64 3,int i64 (-1)] 62)).alloc (.cells #[int i64 (q:Int),int i64 (j:Int),int i64 3,int i64 (-1)] 220)).cell? ((⟨w6.heap.size+1+1,0,none⟩:Addr).add i)=some x):=sx w6 _ _ _ _ _ _ _
        clear hM
        go_wp2_with (at_builtin;refine wpList_append_lies _ rfl (.tmp 74) (.tmp 79) 121 rfl (w.heap.size+2) 220 i0 _ 4 32 Tryz.underlying121 ta sd tf th rfl (by omega) u L.length (cK L) (by rfl) (by exact M4.out.row) ⟨w6.heap.size+1+1,0,none⟩ 1 1 [int i64 (q:Int),int i64 (j:Int),int i64 3,int i64 (-1)] (by rfl) (by rfl) (by exact R0.out) (by simp [Value.oneCell']) (by omega) (by unfold maxLen;omega) (by omega) (by simp;omega) (w6.heap.size+1+1+1) (by simp) ?_;intro gg cap w7 lD bK hat hlt;have MB:=df bK M4.out.row M4.out.box (by decide);have q7:w7.cell? ⟨w.heap.size+1,1,none⟩=some u:=(aa MB).trans rfl;have z7:=ay MB 1;clear MB)
        go_roundw
        case rel=>exact ⟨j+1,_,by omega,by go_num,by
         rw [Ug.out,<-List.append_assoc,zQ.out]
         have:=M4.out.more (x:=⟨(q:Int),(j:Int),⟨3,(-1)⟩⟩) bK lD
         rw [O0.out]
         exact this⟩
        case measure=>simp [intOf];omega
       ·have O0:Hid (jc t=⟨t.kind,0⟩):=by unfold jc;rw [if_neg sU];rfl
        have k3:(t.kind==3)=false:=by simpa using sU
        clear sU
        have M4:Hid (Mk w (((w6.alloc (.cells #[int i64 t.kind,int i64 t.cls] 45)).alloc (.cells #[int i64 t.kind,int i64 0] 62)).alloc (.cells #[int i64 (q:Int),int i64 (j:Int),int i64 t.kind,int i64 0] 220)) c u L):=((hM.out.alloc _).alloc _).alloc _
        have R0:Hid (∀(i:Nat) (x:Value),[Value.int .i64 (q:Int),int i64 (j:Int),int i64 t.kind,int i64 0][i]?=some x->(((w6.alloc (.cells #[int i64 t.kind,int i64 t.cls] 45)).alloc (.cells #[int i64 t.kind,int i64 0] 62)).alloc (.cells #[int i64 (q:Int),int i64 (j:Int),int i64 t.kind,int i64 0] 220)).cell? ((⟨w6.heap.size+1+1,0,none⟩:Addr).add i)=some x):=sx w6 _ _ _ _ _ _ _
        clear hM
        go_wp2_with (at_builtin;refine wpList_append_lies _ rfl (.tmp 74) (.tmp 79) 121 rfl (w.heap.size+2) 220 i0 _ 4 32 Tryz.underlying121 ta sd tf th rfl (by omega) u L.length (cK L) (by rfl) (by exact M4.out.row) ⟨w6.heap.size+1+1,0,none⟩ 1 1 [int i64 (q:Int),int i64 (j:Int),int i64 t.kind,int i64 0] (by rfl) (by rfl) (by exact R0.out) (by simp [Value.oneCell']) (by omega) (by unfold maxLen;omega) (by omega) (by simp;omega) (w6.heap.size+1+1+1) (by simp) ?_;intro gg cap w7 lD bK hat hlt;have MB:=df bK M4.out.row M4.out.box (by decide);have q7:w7.cell? ⟨w.heap.size+1,1,none⟩=some u:=(aa MB).trans rfl;have z7:=ay MB 1;clear MB)
        go_roundw
        case rel=>exact ⟨j+1,_,by omega,by go_num,by
         rw [Ug.out,<-List.append_assoc,zQ.out]
         have:=M4.out.more (x:=⟨(q:Int),(j:Int),⟨t.kind,0⟩⟩) bK lD
         rw [O0.out]
         exact this⟩
        case measure=>simp [intOf];omega
      ·obtain rfl:j=(nth cd h.file.classes q).fields.length:=by omega
       have Ru:Hid (Mk w w6 c u (dF h.file.classes c.toNat (q+1))):=by rw [Ue.out];exact hM
       clear hM hcell hty tH Ue
       go_wp2
       go_roundw
       case rel=>exact ⟨q+1,u,by omega,by go_num,Ru⟩
       case measure=>simp [intOf];omega
   ·obtain rfl:q=h.file.classes.length:=by omega
    have c2:=(HA.out.old hM.out.bl).cells.c2
    have f2:=(HA.out.old hM.out.bl).free 2
    have O1:Hid (w5.ownsRow w0.heap.size 123 2 (.slice A0 h.objs.length yE) h.objs.length (dv h.objs hv)):=(HA.out.old hM.out.bl).obs.row
    have x0:w5.cell? ⟨w.heap.size+1,0,none⟩=some (int i64 c):=by rw [aa hM.out.box];rfl
    have x1:w5.cell? ⟨w.heap.size+1,1,none⟩=some u:=by rw [aa hM.out.box];rfl
    have YL:=hM.out.lt
    have R4:u.oneCell'=true:=by
     rcases hM.out.row.2 with ⟨rfl,-⟩|⟨gb,cap,cur,rfl,-⟩<;>rfl
    have R5:w0.heap.size≤w5.heap.size:=by omega
    have Wo:p<w5.heap.size:=by omega
    have YM:∀o,(w5.alloc o).cell? ⟨p,2,none⟩=some (.slice A0 h.objs.length yE):=fun o=>((Bl.refl w5).alloc o).cell c2
    have Es:w.heap.size≠p:=by omega
    have BG:p≠w.heap.size:=by omega
    have MC:Hid (Bl w (w5.alloc (.cells #[int i64 c,u] 123)).drew):=(hM.out.bl.alloc _).drew
    have R6:Hid ((w5.alloc (.cells #[int i64 c,u] 123)).drew.ownsRow w0.heap.size 123 2 (.slice A0 h.objs.length yE) h.objs.length (dv h.objs hv)):=(O1.out.alloc _).drew
    have Wp:Hid (aQ (w5.alloc (.cells #[int i64 c,u] 123)).drew w.heap.size ag):=⟨(hM.out.alloc _).res.blk⟩
    have Wq:Hid ((w5.alloc (.cells #[int i64 c,u] 123)).drew.ownsRow (w.heap.size+2) 220 4 u (dF h.file.classes c.toNat h.file.classes.length).length (cK (dF h.file.classes c.toNat h.file.classes.length))):=(hM.out.row.alloc _).drew
    have Wr:Hid (∀i,i<h.objs.length->∀b,(nth hv0 hv i).ownBlock=some b->b<w.heap.size+2):=fun i hi b hb=>by have:=((HA.out.obs.held i hi).lt b hb).2;omega
    clear hM O1
    go_wp2
    go_region_law ((refine step_append_lies _ (by rfl) _ _ _ (by rfl) w0.heap.size 123 i1 _ 2 32 Tryz.underlying71 NX Wi Wj Wk rfl (by omega) (.slice A0 h.objs.length yE) h.objs.length (dv h.objs hv) (by rfl) (by exact R6.out) ⟨w5.heap.size,0,none⟩ 1 1 [int i64 c,u] (by rfl) (by rfl) (World.news_of_block (cs:=#[int i64 c,u]) (t:=123) (fr:=(0,0)) (heap_alloc_new w5 _)) (by simp [R4];rfl) (by omega) (by unfold maxLen;omega) (by omega) (by simp;omega) (w5.heap.size+1) (by simp) ?_;intro gg cap w7 lD bK hat hlt;have mI:=df bK R6.out (HA.out.old MC.out).blk k.o;have q2:w7.cell? ⟨p,2,none⟩=some (.slice A0 h.objs.length yE):=(aa mI).trans rfl;have z2:=ay mI 2;have qt:=df bK R6.out Wp.out.blk (by decide);have s0:w7.cell? ⟨w.heap.size,0,none⟩=some (int i64 0):=(aa qt).trans rfl;have s1:w7.cell? ⟨w.heap.size,1,none⟩=some (int i64 0):=(aa qt).trans rfl;have s2:=ay qt 0;have s3:=ay qt 1;have Ws:Hid (aQ w7 w.heap.size ag):=⟨qt⟩;clear mI qt))
    all_goals go_wp2
    all_goals
     (try simp only [Exit.inBlock,Exit.then])
     have hh:=cC.objsAdd (HA.out.old MC.out) k bK (o:=⟨c,dF h.file.classes c.toNat h.file.classes.length⟩) lD Wq.out (by omega) Wr.out
     have Uh:aQ (w7.setCell ⟨p,2,none⟩ (.slice (some ⟨gg,0,none⟩) (h.objs.length+1) cap)) w.heap.size ag:=⟨by rw [aA Es];exact Ws.out.blk⟩
     refine bodyPost_ret (results_cell_row rfl _ _ w.heap.size _ _ _ _ rfl (Uh.set ⟨3,(h.objs.length:Nat)⟩).blk Tryz.underlying62 rfl bk) rfl ?_
     exact ⟨rfl,⟨_,vx,_,hh.1.cf (Uh.cf k cH _ _)⟩,((((Fr.old cH MC.out).trans hh.2).new (Nat.le_refl _) cH _).new (Nat.le_refl _) cH _)⟩
structure Cw (w0:World) (g:Ad) (h:Hp):Prop where
 k:Tk g.T
 cls:cg w0 g.A h.file.classes
 tree:Tree h.file.classes
 ge:4≤h.file.classes.length
 le:h.file.classes.length≤12
 fl:∀d,d<h.file.classes.length->(nth cd h.file.classes d).fields.length≤6
section
variable (w0:World) (g:Ad) (p:Nat) (h:Hp)
theorem kg (c:Int) (w:World) (hH:Hs w0 g w p h) (C:Cw w0 g h) (hc:0≤c/\c<4) :
  Calls Tryz.prog 167 #[.pointer (some ⟨p,0,none⟩),int i64 c] w fun e w'=>e=.returned (.tuple #[])/\Hs w0 g w' p (h.raise c)/\Fr w0.heap.size g.T w w':=by
 have HH:Hid (Hs w0 g w p h):=hH
 have HC:Hid (Cw w0 g h):=C
 have hlen:=C.ge
 clear hH C
 generalize hV:h.newV=v
 have hr:h.raise c=if (h.new c).over=true then h.new c else { h.new c with thrown:=v.n }:=by unfold Hp.raise;rw [hV]
 rw [hr]
 cases ho:(h.new c).over
 ·rw [if_neg (by decide)]
  clear hr
  go_enter Tryz.func167,Tryz.ntmps167
  go_wp2_with (go_at_call 171;refine (tF w0 g HC.out.k p h c _ HH.out HC.out.cls HC.out.tree (by omega) HC.out.le HC.out.fl).mono ?_;rintro e w1 ⟨he,h1,f1⟩;rw [hV] at he;subst he;have hb1:=h1.base;obtain ⟨vo,vx,hv,H⟩:=h1.cf ((Cf.refl _ _ w1).alloc hb1 (cS v));have c12:=H.cells.c12;have f13:=H.free 13;rw [ho] at c12;have c13:=H.cells.c13;have HA:Hid (cC w0 g (w1.alloc (cS v)) p (h.new c) vo vx hv):=H;have vh:=af H.blk;clear H h1)
  go_end0
  exact ⟨rfl,⟨vo,vx,hv,HA.out.set HC.out.k { h.new c with thrown:=v.n } rfl rfl rfl⟩,(f1.alloc hb1 _).trans (HA.out.frSet 13 _)⟩
 ·rw [if_pos rfl]
  clear hr
  go_enter Tryz.func167,Tryz.ntmps167
  go_wp2_with (go_at_call 171;refine (tF w0 g HC.out.k p h c _ HH.out HC.out.cls HC.out.tree (by omega) HC.out.le HC.out.fl).mono ?_;rintro e w1 ⟨he,h1,f1⟩;rw [hV] at he;subst he;have hb1:=h1.base;obtain ⟨vo,vx,hv,H⟩:=h1.cf ((Cf.refl _ _ w1).alloc hb1 (cS v));have c12:=H.cells.c12;rw [ho] at c12;have HA:Hid (cC w0 g (w1.alloc (cS v)) p (h.new c) vo vx hv):=H;clear H h1)
  go_end0
  exact ⟨rfl,⟨vo,vx,hv,HA.out⟩,f1.alloc hb1 _⟩
theorem BR (v:Va) (w:World) (hH:Hs w0 g w p h) (C:Cw w0 g h) :
  Calls Tryz.prog 115 #[.pointer (some ⟨p,0,none⟩),iA v] w fun e w'=>e=.returned (.tuple #[])/\Hs w0 g w' p (h.throw v)/\Fr w0.heap.size g.T w w':=by
 have cH:=hH.base
 have HF:Hid (Fr w0.heap.size g.T w (w.alloc (cS v))):=(Fr.refl _ _ w).alloc cH _
 have HH:Hid (Hs w0 g (w.alloc (cS v)) p h):=hH.cf ((Cf.refl _ _ w).alloc cH _)
 have HV:Hid (aQ (w.alloc (cS v)) w.heap.size v):=aQ.new w v
 have HC:Hid (Cw w0 g h):=C
 have hk:(v.kind==3)=isRef v:=by unfold isRef;rw [Bool.eq_iff_iff];simp
 clear hH C
 cases hm:h.mustB (isRef v)
 ·have hr:h.throw v=h.must (isRef v):=by unfold Hp.throw;rw [if_neg (by rw [hm];decide)]
  rw [hr]
  clear hr
  go_enter Tryz.func115,Tryz.ntmps115
  go_wp2_with (go_at_call 56;refine (bj w0 g HC.out.k p h _ _ HH.out).mono ?_;rintro e w1 ⟨he,h1,f1⟩;rw [hm] at he;subst he)
  (try simp only [Exit.inBlock,Exit.then])
  first|exact bodyPost_ret (results_none rfl _ _ _) rfl ⟨rfl,h1,HF.out.trans f1⟩|(go_end0;exact ⟨rfl,h1,HF.out.trans f1⟩)
 ·obtain ⟨hb,bq,xV⟩:=dX hm
  by_cases hn:v.n<0
  ·have hr:h.throw v=h.raise 1:=by unfold Hp.throw;rw [if_pos hm,if_pos hn]
   rw [hr]
   clear hr bq hb
   have rP:Hid (h.must (isRef v)=h):=xV
   clear xV
   go_enter Tryz.func115,Tryz.ntmps115
   go_wp2_with (first
    | (go_at_call 56;refine (bj w0 g HC.out.k p h _ _ HH.out).mono ?_;rintro e w1 ⟨he,h1,f1⟩;rw [hm] at he;subst he;rw [rP.out] at h1;have r1:=(HV.out.keep HC.out.k f1).c1)
    | (go_at_call 167;refine (kg w0 g p h 1 _ h1 HC.out (by omega)).mono ?_;rintro e w2 ⟨rfl,h2,f2⟩))
   (try simp only [Exit.inBlock,Exit.then])
   first|exact bodyPost_ret (results_none rfl _ _ _) rfl ⟨rfl,h2,(HF.out.trans f1).trans f2⟩|(go_end0;exact ⟨rfl,h2,(HF.out.trans f1).trans f2⟩)
  ·have hr:h.throw v={ h with thrown:=v.n }:=by unfold Hp.throw;rw [if_pos hm,if_neg hn]
   rw [hr]
   clear hr bq hb
   have rP:Hid (h.must (isRef v)=h):=xV
   clear xV
   go_enter Tryz.func115,Tryz.ntmps115
   go_wp2_with (go_at_call 56;refine (bj w0 g HC.out.k p h _ _ HH.out).mono ?_;rintro e w1 ⟨he,h1,f1⟩;rw [hm] at he;subst he;rw [rP.out] at h1;have r1:=(HV.out.keep HC.out.k f1).c1;obtain ⟨vo,vx,hv,H⟩:=h1;have f13:=H.free 13;have c13:=H.cells.c13;have HA:Hid (cC w0 g w1 p h vo vx hv):=H;clear H)
   (try simp only [Exit.inBlock,Exit.then])
   first|exact bodyPost_ret (results_none rfl _ _ _) rfl ⟨rfl,⟨vo,vx,hv,HA.out.set HC.out.k { h with thrown:=v.n } rfl rfl rfl⟩,(HF.out.trans f1).trans (HA.out.frSet 13 _)⟩|(go_end0;exact ⟨rfl,⟨vo,vx,hv,HA.out.set HC.out.k { h with thrown:=v.n } rfl rfl rfl⟩,(HF.out.trans f1).trans (HA.out.frSet 13 _)⟩)
end
theorem EK {P:Nat->Prop} {q:Nat} (h:∀j,j<q->P j) (hq:P q):∀j,j<q+1->P j:=fun j hj=>by
 by_cases hj':j<q
 ·exact h j hj'
 ·have:j=q:=by omega
  subst this;exact hq
def od (c k:Int) (x:ph):Bool:=decide (x.cls=c/\x.fld=k)
theorem tI {l:List ph} {c k:Int} {q:Nat} (hq:q<l.length) (h:∀j,j<q->od c k (nth cG l j)=false) (hx:od c k (nth cG l q)=true):fJ l c k=(q:Nat):=by
 have:l.findIdx? (fun x=>decide (x.cls=c/\x.fld=k))=some q:=by
  rw [List.findIdx?_eq_some_iff_getElem]
  refine ⟨hq,by rw [bP hq] at hx;exact hx,fun j hj=>?_⟩
  have:=h j hj
  rw [bP (by omega)] at this
  unfold od at this
  rw [this];decide
 unfold fJ;rw [this]
theorem wM {l:List ph} {c k:Int} (h:∀j,j<l.length->od c k (nth cG l j)=false):fJ l c k=-1:=by
 have:l.findIdx? (fun x=>decide (x.cls=c/\x.fld=k))=none:=by
  rw [List.findIdx?_eq_none_iff]
  intro x hx
  obtain ⟨j,hj,rfl⟩:=List.getElem_of_mem hx
  have:=h j hj
  rw [bP hj] at this
  exact this
 unfold fJ;rw [this]
theorem wN:∀(l:List ph) (j:Nat),j<l.length->(cK l)[j*4]?=some (int i64 (nth cG l j).cls)/\(cK l)[j*4+1]?=some (int i64 (nth cG l j).fld)/\(cK l)[j*4+2]?=some (int i64 (nth cG l j).v.kind)/\(cK l)[j*4+3]?=some (int i64 (nth cG l j).v.n)
 | [],j,h=>by simp at h
 | x::l,0,_=>by simp [cK,nth]
 | x::l,j+1,h=>by
  have:=wN l j (by simpa using h)
  have e:(j+1)*4=j*4+1+1+1+1:=by omega
  rw [e]
  simpa [cK,nth] using this
theorem mM {w0 w:World} {g:Ad} {p:Nat} {h:Hp} {vo vx:Value} {hv:List Value} (H:cC w0 g w p h vo vx hv) {n:Nat} (hn:n<h.objs.length) :
  ∃gb cap U uc,vo=.slice (some ⟨gb,0,none⟩) h.objs.length cap/\h.objs.length≤maxLen/\w.cell? ⟨gb,n*2,none⟩=some (int i64 (nth cA h.objs n).cls)/\w.cell? ⟨gb,n*2+1,none⟩=some (.slice U (nth cA h.objs n).held.length uc)
   /\ (nth hv0 hv n)=.slice U (nth cA h.objs n).held.length uc/\(nth cA h.objs n).held.length≤maxLen/\((nth cA h.objs n).held.length=0∨∃hb,U=some ⟨hb,0,none⟩/\(∀i,w.frozen? ⟨hb,i,none⟩=false)/\∀j,j<(nth cA h.objs n).held.length ->
    w.cell? ⟨hb,j*4,none⟩=some (int i64 (nth cG (nth cA h.objs n).held j).cls)/\w.cell? ⟨hb,j*4+1,none⟩=some (int i64 (nth cG (nth cA h.objs n).held j).fld)
    /\ w.cell? ⟨hb,j*4+2,none⟩=some (int i64 (nth cG (nth cA h.objs n).held j).v.kind)/\w.cell? ⟨hb,j*4+3,none⟩=some (int i64 (nth cG (nth cA h.objs n).held j).v.n)):=by
 obtain ⟨gb,cap,mW,-,hm,hc⟩:=kf H.obs (by omega)
 have hh:=H.obs.held n hn
 obtain ⟨c1,c2⟩:=hc n hn
 rcases hh.2 with ⟨e,e0⟩|⟨hb,uc,cur,e,h2,h3,h4,h5,h6,h7⟩
 ·rw [e] at c2
  exact ⟨gb,cap,none,0,mW,hm,c1,by rw [c2,e0],by rw [e,e0],by rw [e0];exact Nat.zero_le _,Or.inl e0⟩
 ·rw [e] at c2
  refine ⟨gb,cap,_,uc,mW,hm,c1,c2,e,by omega,Or.inr ⟨hb,rfl,fun i=>ay h3 i,fun j hj=>?_⟩⟩
  have hx:=wN _ j hj
  have key:∀i,i<(nth cA h.objs n).held.length*4->w.cell? ⟨hb,i,none⟩=(cK (nth cA h.objs n).held)[i]?:=fun i hi=>by
   rw [aa h3,<-h7,List.getElem?_take,if_pos hi];simp
  exact ⟨(key _ (by omega)).trans hx.1,(key _ (by omega)).trans hx.2.1,(key _ (by omega)).trans hx.2.2.1,(key _ (by omega)).trans hx.2.2.2⟩
theorem nN (w0:World) (g:Ad) (p:Nat) (h:Hp) (r:Va) (c f:Int) (w:World) (hH:Hs w0 g w p h) (C:Cw w0 g h) (yF:r.kind=3->r.n<h.objs.length) :
  Calls Tryz.prog 168 #[.pointer (some ⟨p,0,none⟩),iA r,int i64 c,int i64 f] w fun e w'=>e=.returned (int i64 (h.findN r c f))/\Hs w0 g w' p (h.findH r c)/\Fr w0.heap.size g.T w w':=by
 have cH:=hH.base
 have HF:Hid (Fr w0.heap.size g.T w (w.alloc (cS r))):=(Fr.refl _ _ w).alloc cH _
 have HH:Hid (Hs w0 g (w.alloc (cS r)) p h):=hH.cf ((Cf.refl _ _ w).alloc cH _)
 have HV:Hid (aQ (w.alloc (cS r)) w.heap.size r):=aQ.new w r
 have HC:Hid (Cw w0 g h):=C
 have xW:Hid (r.kind=3->r.n<h.objs.length):=yF
 clear hH C yF
 obtain ⟨O,hO⟩:∃O,h.of r ⟨3,c⟩=O:=⟨_,rfl⟩
 cases hm:h.mustB O
 ·have e1:h.findN r c f=-1:=by unfold Hp.findN;rw [hO,if_neg (by rw [hm];decide)]
  have e2:h.findH r c=h.must O:=by unfold Hp.findH;rw [hO,if_neg (by rw [hm];decide)]
  rw [e1,e2]
  clear e1 e2
  go_enter Tryz.func168,Tryz.ntmps168
  go_wp2_with (first
   | (go_at_call 58;refine (jm w0 g p h r ⟨3,c⟩ _ HH.out HC.out.cls HC.out.tree xW.out).mono ?_;rintro e w1 ⟨he,h1,f1,-⟩;rw [hO] at he;subst he)
   | (go_at_call 56;refine (bj w0 g HC.out.k p h O _ h1).mono ?_;rintro e w2 ⟨he,h2,f2⟩;rw [hm] at he;subst he))
  go_ret
  exact ⟨rfl,h2,(HF.out.trans f1).trans f2⟩
 ·obtain ⟨rfl,bq,xV⟩:=dX hm
  have hrk:=mD hO
  have Nu:=xW.out hrk
  have rP:Hid (h.must true=h):=xV
  clear xV bq
  by_cases hn:r.n<0
  ·have e1:h.findN r c f=-1:=by unfold Hp.findN;rw [hO,if_pos hm,if_pos hn]
   have e2:h.findH r c=h.raise 1:=by unfold Hp.findH;rw [hO,if_pos hm,if_pos hn]
   rw [e1,e2]
   clear e1 e2 hrk
   go_enter Tryz.func168,Tryz.ntmps168
   go_wp2_with (first
    | (go_at_call 58;refine (jm w0 g p h r ⟨3,c⟩ _ HH.out HC.out.cls HC.out.tree xW.out).mono ?_;rintro e w1 ⟨he,h1,f1,-⟩;rw [hO] at he;subst he)
    | (go_at_call 56;refine (bj w0 g HC.out.k p h true _ h1).mono ?_;rintro e w2 ⟨he,h2,f2⟩;rw [hm] at he;subst he;rw [rP.out] at h2;have r1:=((HV.out.keep HC.out.k f1).keep HC.out.k f2).c1)
    | (go_at_call 167;refine (kg w0 g p h 1 _ h2 HC.out (by omega)).mono ?_;rintro e w3 ⟨rfl,h3,f3⟩))
   go_ret
   exact ⟨rfl,h3,((HF.out.trans f1).trans f2).trans f3⟩
  ·have e1:h.findN r c f=fJ (nth cA h.objs r.n.toNat).held c f:=by unfold Hp.findN;rw [hO,if_pos hm,if_neg hn];rfl
   have e2:h.findH r c=h:=by unfold Hp.findH;rw [hO,if_pos hm,if_neg hn]
   rw [e1,e2]
   clear e1 e2 hrk
   obtain ⟨rk,rn⟩:=r
   dsimp only at *
   obtain ⟨n,rfl⟩:∃n:Nat,rn=n:=⟨rn.toNat,by omega⟩
   rw [Int.toNat_natCast]
   have kq:n<h.objs.length:=by omega
   have kp:(0:Int)≤(n:Int):=by omega
   have kb:(n:Int)<(h.objs.length:Int):=by omega
   have Ui:Hid (∀q,q<(nth cA h.objs n).held.length->(∀j,j<q->od c f (nth cG (nth cA h.objs n).held j)=false)->od c f (nth cG (nth cA h.objs n).held q)=true->fJ (nth cA h.objs n).held c f=(q:Nat)):=fun q=>tI
   have Uj:Hid ((∀j,j<(nth cA h.objs n).held.length->od c f (nth cG (nth cA h.objs n).held j)=false)->fJ (nth cA h.objs n).held c f=-1):=wM
   obtain ⟨R,hR⟩:∃R,fJ (nth cA h.objs n).held c f=R:=⟨_,rfl⟩
   rw [hR] at Ui Uj ⊢
   clear hR hn
   go_enter Tryz.func168,Tryz.ntmps168
   go_wp2_with (first
    | (go_at_call 58;refine (jm w0 g p h ⟨rk,n⟩ ⟨3,c⟩ _ HH.out HC.out.cls HC.out.tree xW.out).mono ?_;rintro e w1 ⟨he,h1,f1,-⟩;rw [hO] at he;subst he)
    | (go_at_call 56;refine (bj w0 g HC.out.k p h true _ h1).mono ?_;rintro e w2 ⟨he,h2,f2⟩;rw [hm] at he;subst he;rw [rP.out] at h2;have r1:=((HV.out.keep HC.out.k f1).keep HC.out.k f2).c1;obtain ⟨vo,vx,hv,H⟩:=h2;have HA:Hid (cC w0 g w2 p h vo vx hv):=H;obtain ⟨gb,cap,U,uc,mW,yC,o1,o2,hu,O3,wO⟩:=mM H kq;have c2:=H.cells.c2;rw [mW] at c2;clear H mW hu;unfold maxLen at yC O3))
   go_quiet (fail)
   go_wp2
   go_loop [10] (fun i=>∃q:Nat,q≤(nth cA h.objs n).held.length/\i=int i64 q/\Hid (∀j,j<q->od c f (nth cG (nth cA h.objs n).held j)=false)) (fun i=>(nth cA h.objs n).held.length-(intOf i).toNat)
   case atStart=>exact ⟨0,Nat.zero_le _,rfl,fun j hj=>absurd hj (Nat.not_lt_zero _)⟩
   case round =>
    obtain ⟨q,hq,rfl,mE⟩:=hrel
    by_cases eQ:q<(nth cA h.objs n).held.length
    ·rcases wO with h0|⟨hb,rfl,-,hcell⟩
     ·omega
     obtain ⟨x0,x1,-,-⟩:=hcell q eQ
     have HX:=Ui.out q eQ mE.out
     have Wt:Hid (od c f (nth cG (nth cA h.objs n).held q)=true->R=(q:Nat)):=HX
     clear hcell HX
     have O4:od c f (nth cG (nth cA h.objs n).held q)=decide ((nth cG (nth cA h.objs n).held q).cls=c/\(nth cG (nth cA h.objs n).held q).fld=f):=rfl
     have MD:Hid (od c f (nth cG (nth cA h.objs n).held q)=decide ((nth cG (nth cA h.objs n).held q).cls=c/\(nth cG (nth cA h.objs n).held q).fld=f)):=O4
     clear O4
     by_cases a1:(nth cG (nth cA h.objs n).held q).cls=c
     ·have d1:((nth cG (nth cA h.objs n).held q).cls==c)=true:=by simpa using a1
      by_cases a2:(nth cG (nth cA h.objs n).held q).fld=f
      ·have d2:((nth cG (nth cA h.objs n).held q).fld==f)=true:=by simpa using a2
       have R7:Hid (R=(q:Nat)):=Wt.out (by rw [MD.out,decide_eq_true ⟨a1,a2⟩])
       clear a1 a2
       go_wp2
       go_ret
       exact ⟨lR R7.out.symm,⟨vo,vx,hv,HA.out.drewN _⟩,(((HF.out.trans f1).trans f2)).drewN _⟩
      ·have d2:((nth cG (nth cA h.objs n).held q).fld==f)=false:=by simpa using a2
       have HN:Hid (od c f (nth cG (nth cA h.objs n).held q)=false):=by rw [MD.out,decide_eq_false (fun z=>a2 z.2)];rfl
       clear a1 a2
       go_wp2
       go_round
       case rel=>exact ⟨q+1,by omega,by go_num,EK mE.out HN.out⟩
       case measure=>simp [intOf];omega
     ·have d1:((nth cG (nth cA h.objs n).held q).cls==c)=false:=by simpa using a1
      have HN:Hid (od c f (nth cG (nth cA h.objs n).held q)=false):=by rw [MD.out,decide_eq_false (fun z=>a1 z.1)];rfl
      clear a1
      go_wp2
      go_round
      case rel=>exact ⟨q+1,by omega,by go_num,EK mE.out HN.out⟩
      case measure=>simp [intOf];omega
    ·obtain rfl:q=(nth cA h.objs n).held.length:=by omega
     have R7:Hid (R=-1):=Uj.out mE.out
     go_wp2
     go_ret
     exact ⟨lR R7.out.symm,⟨vo,vx,hv,HA.out.drewN _⟩,(((HF.out.trans f1).trans f2)).drewN _⟩
theorem wP {h:Hp} {r:Va} {c f:Int} (yF:r.kind=3->r.n<h.objs.length) (hp:¬h.findN r c f<0) :
  h.findH r c=h/\r.kind=3/\∃n q:Nat,r.n=n/\n<h.objs.length/\h.findN r c f=q/\q<(nth cA h.objs n).held.length:=by
 unfold Hp.findN at hp
 by_cases hm:h.mustB (h.of r ⟨3,c⟩)=true
 ·rw [if_pos hm] at hp
  by_cases hn:r.n<0
  ·rw [if_pos hn] at hp;omega
  ·rw [if_neg hn] at hp
   have hk:=mD (dX hm).1
   have hl:=yF hk
   rcases rY (h.obj r.n).held c f with h1|⟨q,hq,h1⟩
   ·rw [h1] at hp;omega
   ·refine ⟨by unfold Hp.findH;rw [if_pos hm,if_neg hn],hk,r.n.toNat,q,by omega,by omega,by unfold Hp.findN;rw [if_pos hm,if_neg hn];exact h1,hq⟩
 ·rw [if_neg hm] at hp;omega
theorem iP (w:World) (v u:Va):aQ ((w.alloc (cS v)).alloc (cS u)) w.heap.size v/\aQ ((w.alloc (cS v)).alloc (cS u)) (w.heap.size+1) u:=by
 have h1:(w.alloc (cS v)).heap.size=w.heap.size+1:=World.size_alloc ..
 refine ⟨⟨?_⟩,⟨?_⟩⟩
 ·rw [Below.heap_alloc _ _ _ (by omega)];exact aD _ _ _
 ·rw [<-h1];exact aD _ _ _
theorem I9 (w0:World) (g:Ad) (p:Nat) (h:Hp) (r:Va) (c f:Int) (w:World) (hH:Hs w0 g w p h) (C:Cw w0 g h) (yF:r.kind=3->r.n<h.objs.length) :
  Calls Tryz.prog 172 #[.pointer (some ⟨p,0,none⟩),iA r,int i64 c,int i64 f] w fun e w'=>e=.returned (iA (h.getV r c f))/\Hs w0 g w' p (h.findH r c)/\Fr w0.heap.size g.T w w':=by
 have cH:=hH.base
 have HF:Hid (Fr w0.heap.size g.T w ((w.alloc (cS r)).alloc iq)):=((Fr.refl _ _ w).alloc cH _).alloc (by simp;omega) _
 have HH:Hid (Hs w0 g ((w.alloc (cS r)).alloc iq) p h):=hH.cf (((Cf.refl _ _ w).alloc cH _).alloc (by simp;omega) _)
 have HV:Hid (aQ ((w.alloc (cS r)).alloc iq) w.heap.size r):=(iP w r ag).1
 have HR:Hid (aQ ((w.alloc (cS r)).alloc iq) (w.heap.size+1) ag):=(iP w r ag).2
 have HC:Hid (Cw w0 g h):=C
 have xW:Hid (r.kind=3->r.n<h.objs.length):=yF
 clear hH C
 have ez:w0.heap.size≤w.heap.size+1:=by omega
 have gB:w.heap.size≤w.heap.size+1:=by omega
 by_cases n7:h.findN r c f<0
 ·have e1:h.getV r c f=ag:=by unfold Hp.getV;rw [if_pos n7]
  rw [e1]
  clear e1 yF
  obtain ⟨N,hN⟩:∃N,h.findN r c f=N:=⟨_,rfl⟩
  rw [hN] at n7
  go_enter Tryz.func172,Tryz.ntmps172
  go_wp2_with (go_at_call 168;refine (nN w0 g p h r c f _ HH.out HC.out xW.out).mono ?_;rintro e w1 ⟨he,h1,f1⟩;rw [hN] at he;subst he;have b1:=HR.out.keep HC.out.k f1;have r0:=b1.c0;have r1:=b1.c1;have r2:=b1.fr 0;have r3:=b1.fr 1;have j6:Hid (aQ w1 (w.heap.size+1) ag):=b1;clear b1)
  (try simp only [Exit.inBlock,Exit.then])
  refine bodyPost_ret (results_cell_row rfl _ _ (w.heap.size+1) _ _ _ _ rfl (j6.out.set ag).blk Tryz.underlying62 rfl bk) rfl ?_
  exact ⟨rfl,h1.cf (j6.out.cf HC.out.k ez _ _),(((HF.out.trans f1).new gB ez _).new gB ez _)⟩
 ·obtain ⟨e2,hk,n,q,Nu,kq,ME,eQ⟩:=wP yF n7
  have e1:h.getV r c f=(nth cG (nth cA h.objs n).held q).v:=by unfold Hp.getV Hp.obj;rw [if_neg n7,ME,Nu];rfl
  rw [e1,e2]
  have Mt:Hid (h.findH r c=h):=e2
  have EL:Hid (h.findN r c f=q):=ME
  obtain ⟨rk,rn⟩:=r
  dsimp only at *
  subst Nu
  clear e1 e2 ME n7 yF hk
  have kp:(0:Int)≤(n:Int):=by omega
  have kb:(n:Int)<(h.objs.length:Int):=by omega
  have cU:(0:Int)≤(q:Int):=by omega
  have mL:(q:Int)<((nth cA h.objs n).held.length:Int):=by omega
  go_enter Tryz.func172,Tryz.ntmps172
  go_wp2_with (go_at_call 168;refine (nN w0 g p h ⟨rk,n⟩ c f _ HH.out HC.out xW.out).mono ?_;rintro e w1 ⟨he,h1,f1⟩;rw [EL.out] at he;subst he;rw [Mt.out] at h1;have b1:=HR.out.keep HC.out.k f1;have r0:=b1.c0;have r1:=b1.c1;have r2:=b1.fr 0;have r3:=b1.fr 1;have j6:Hid (aQ w1 (w.heap.size+1) ag):=b1;clear b1;have x1:=(HV.out.keep HC.out.k f1).c1;obtain ⟨vo,vx,hv,H⟩:=h1;have HA:Hid (cC w0 g w1 p h vo vx hv):=H;obtain ⟨gb,cap,U,uc,mW,yC,o1,o2,hu,O3,wO⟩:=mM H kq;have c2:=H.cells.c2;rw [mW] at c2;clear H mW hu;unfold maxLen at yC O3)
  rcases wO with h0|⟨hb,rfl,-,hcell⟩
  ·omega
  obtain ⟨-,-,y2,y3⟩:=hcell q eQ
  clear hcell o1
  go_region
  all_goals go_wp2
  all_goals
   (try simp only [Exit.inBlock,Exit.then])
   refine bodyPost_ret (results_cell_row rfl _ _ (w.heap.size+1) _ _ _ _ rfl (j6.out.set (nth cG (nth cA h.objs n).held q).v).blk Tryz.underlying62 rfl bk) rfl ?_
   exact ⟨rfl,⟨vo,vx,hv,HA.out.cf ((j6.out.cf HC.out.k ez _ _).drew)⟩,(((HF.out.trans f1).new gB ez _).new gB ez _).drew⟩
theorem o5:∀(l:List ph) (q:Nat) (v:Va),q<l.length->cK (l.set q { nth cG l q with v:=v })=((cK l).set (q*4+2) (int i64 v.kind)).set (q*4+3) (int i64 v.n)
 | [],q,v,h=>by simp at h
 | x::l,0,v,_=>by simp [cK,nth]
 | x::l,q+1,v,h=>by
  have:=o5 l q v (by simpa using h)
  have e2:(q+1)*4+2=q*4+2+1+1+1+1:=by omega
  have e3:(q+1)*4+3=q*4+3+1+1+1+1:=by omega
  have en:nth cG (x::l) (q+1)=nth cG l q:=by simp [nth]
  rw [e2,e3,en]
  simp [cK,this]
theorem o6:∀(l:List Ob) (hv:List Value) (n:Nat) (o:Ob),o.cls=(nth cA l n).cls->dv (l.set n o) hv=dv l hv
 | [],hv,n,o,_=>by simp
 | x::l,[],n,o,_=>by cases n<;>simp [dv]
 | x::l,v::hv,0,o,h=>by simp [nth] at h;simp [dv,h]
 | x::l,v::hv,n+1,o,h=>by
  have en:nth cA (x::l) (n+1)=nth cA l n:=by simp [nth]
  rw [en] at h
  simp [dv,o6 l hv n o h]
theorem sy {w:World} {base:Nat} {e:TypeId} {size n:Nat} {v:Value} {xs:List Value} (ho:w.ownsRow base e size v n xs) {b i:Nat} (hb:v.ownBlock≠some b) (u:Value):(w.setCell ⟨b,i,none⟩ u).ownsRow base e size v n xs:=by
 refine ⟨ho.1,?_⟩
 rcases ho.2 with h0|⟨gb,cap,cur,h1,h2,h3,h4⟩
 ·exact Or.inl h0
 ·refine Or.inr ⟨gb,cap,cur,h1,h2,?_,h4⟩
  rw [aA]
  ·exact h3
  ·rintro rfl;apply hb;rw [h1];rfl
theorem cC.heldSet {w0 w:World} {g:Ad} {p:Nat} {h:Hp} {vo vx:Value} {hv:List Value} (H:cC w0 g w p h vo vx hv) (k:Tk g.T) {n q hb uc:Nat} (hn:n<h.objs.length) (hq:q<(nth cA h.objs n).held.length)
  (hu:nth hv0 hv n=.slice (some ⟨hb,0,none⟩) (nth cA h.objs n).held.length uc) (v:Va) :
  cC w0 g ((w.setCell ⟨hb,q*4+2,none⟩ (int i64 v.kind)).setCell ⟨hb,q*4+3,none⟩ (int i64 v.n)) p (h.setV n q v) vo vx hv
  /\ Fr w0.heap.size g.T w ((w.setCell ⟨hb,q*4+2,none⟩ (int i64 v.kind)).setCell ⟨hb,q*4+3,none⟩ (int i64 v.n)):=by
 have hh:=H.obs.held n hn
 rw [hu] at hh
 have R8:∃cur,w.heap[hb]?=some (.cells cur 220 (0,0))/\w0.heap.size≤hb:=by
  rcases hh.2 with ⟨e,-⟩|⟨gb,cap,cur,e,h2,h3,h4⟩
  ·simp at e
  ·simp at e;obtain ⟨rfl,-⟩:=e;exact ⟨cur,h3,h2⟩
 obtain ⟨cur,EM,hB⟩:=R8
 have EN:=ax (i:=q*4+2) EM (int i64 v.kind)
 have hT:ig g.T 220:=.inr (.inr (.inl rfl))
 refine ⟨⟨H.own,?_,Below.setCell (Below.setCell H.bl hB _) hB _,?_,?_,?_,?_,?_⟩,((Fr.refl _ _ w).set EM hT hB _).set EN hT hB _⟩
 ·have hne:p≠hb:=by rintro rfl;have:=H.blk;rw [EM] at this;simp at this;exact k.h this.2.symm
  rw [aA hne,aA hne];exact H.blk
 ·exact de (de H.out EM (by decide) _) EN (by decide) _
 ·simp [Hp.setV,H.obs.len]
 ·have e:dv (h.setV n q v).objs hv=dv h.objs hv:=o6 _ _ _ _ rfl
  rw [e]
  have hl:(h.setV n q v).objs.length=h.objs.length:=by simp [Hp.setV]
  rw [hl]
  exact de (de H.obs.row EM (by decide) _) EN (by decide) _
 ·intro i hi
  have hl:(h.setV n q v).objs.length=h.objs.length:=by simp [Hp.setV]
  rw [hl] at hi
  by_cases oQ:n=i
  ·subst oQ
   have e:(nth cA (h.setV n q v).objs n).held=(nth cA h.objs n).held.set q { nth cG (nth cA h.objs n).held q with v:=v }:=by unfold Hp.setV;rw [fe hn]
   rw [e,hu,o5 _ _ _ hq]
   have s1:=hh.stored (q*4+2) (int i64 v.kind)
   have s2:=s1.1.stored (q*4+3) (int i64 v.n)
   simpa using s2.1
  ·have e:nth cA (h.setV n q v).objs i=nth cA h.objs i:=by unfold Hp.setV;exact dY oQ
   rw [e]
   have ha:(nth hv0 hv i).ownBlock≠some hb:=by
    have:=H.obs.apart i n hi hn (Ne.symm oQ)
    rw [hu] at this
    rcases this with h1|h1
    ·rw [h1];simp
    ·exact h1
   exact sy (sy (H.obs.held i hi) ha _) ha _
 ·have hl:(h.setV n q v).objs.length=h.objs.length:=by simp [Hp.setV]
  rw [hl]
  exact H.obs.apart
theorem wQ {w:World} {A:Option Addr} {cs:List Cl} (h:cg w A cs) {c f:Nat} (hc:c<cs.length) (hf:f<(nth cd cs c).fields.length) :
  ∃b off F fo uc,A=some ⟨b,off,none⟩/\w.cell? ⟨b,off+c*2+1,none⟩=some (.slice (some ⟨F,fo,none⟩) (nth cd cs c).fields.length uc)/\cs.length≤maxLen/\(nth cd cs c).fields.length≤maxLen
   /\ w.cell? ⟨F,fo+f*2,none⟩=some (int i64 (nth cL (nth cd cs c).fields f).kind)/\w.cell? ⟨F,fo+f*2+1,none⟩=some (int i64 (nth cL (nth cd cs c).fields f).cls):=by
 rcases h.2 with h0|⟨b,off,rfl,hcell⟩
 ·omega
 obtain ⟨-,-,A',uc,jB,hty⟩:=hcell c hc
 rcases hty.2 with h0|⟨F,fo,rfl,htc⟩
 ·omega
 exact ⟨b,off,F,fo,uc,rfl,jB,h.1,hty.1,(htc f hf).1,(htc f hf).2.1⟩
theorem EO (h:Hp) (e:Int):(h.fin e).file=h.file/\(h.fin e).input=h.input:=by unfold Hp.fin;split<;>exact ⟨rfl,rfl⟩
theorem og (h:Hp) (b:Bool):(h.must b).file=h.file/\(h.must b).input=h.input:=by
 unfold Hp.must;split
 ·exact ⟨rfl,rfl⟩
 ·exact EO h 6
section
variable {w0 w:World} {g:Ad} {p:Nat} {h:Hp}
theorem Hs.bl (H:Hs w0 g w p h):Bl w0 w:=by
 obtain ⟨vo,vx,hv,H⟩:=H
 exact H.bl
theorem Hs.c0 {h':Hp} (H:Hs w0 g w p h') (he:h'.file=h.file):w.cell? ⟨p,0,none⟩=some (.slice g.A h.file.classes.length g.a):=by
 obtain ⟨vo,vx,hv,H⟩:=H
 rw [<-he];exact H.cells.c0
end
theorem Ja (w0:World) (g:Ad) (p:Nat) (h:Hp) (r:Va) (c f:Nat) (v:Va) (w:World) (hH:Hs w0 g w p h) (C:Cw w0 g h) (yF:r.kind=3->r.n<h.objs.length) (kV:v.kind=3->v.n<h.objs.length)
  (hc:c<h.file.classes.length) (hf:f<(nth cd h.file.classes c).fields.length) :
  Calls Tryz.prog 117 #[.pointer (some ⟨p,0,none⟩),iA r,int i64 (c:Int),int i64 (f:Int),iA v] w fun e w'=>e=.returned (.tuple #[])/\Hs w0 g w' p (h.put r c f v)/\Fr w0.heap.size g.T w w':=by
 have cH:=hH.base
 have HF:Hid (Fr w0.heap.size g.T w ((w.alloc (cS r)).alloc (cS v))):=((Fr.refl _ _ w).alloc cH _).alloc (by simp;omega) _
 have HH:Hid (Hs w0 g ((w.alloc (cS r)).alloc (cS v)) p h):=hH.cf (((Cf.refl _ _ w).alloc cH _).alloc (by simp;omega) _)
 have HV:Hid (aQ ((w.alloc (cS r)).alloc (cS v)) w.heap.size r):=(iP w r v).1
 have HU:Hid (aQ ((w.alloc (cS r)).alloc (cS v)) (w.heap.size+1) v):=(iP w r v).2
 have HC:Hid (Cw w0 g h):=C
 have xW:Hid (r.kind=3->r.n<h.objs.length):=yF
 have Lk:Hid (v.kind=3->v.n<h.objs.length):=kV
 have MF:Bl w0 ((w.alloc (cS r)).alloc (cS v)):=HH.out.bl
 obtain ⟨b,off,F,fo,uc,NY,y0,Li,KK,y1,y2⟩:=wQ C.cls hc hf
 have vA:Hid (w0.cell? ⟨b,off+c*2+1,none⟩=some (.slice (some ⟨F,fo,none⟩) (nth cd h.file.classes c).fields.length uc)):=y0
 have rJ:Hid (w0.cell? ⟨F,fo+f*2,none⟩=some (int i64 (nth cL (nth cd h.file.classes c).fields f).kind)):=y1
 have Dk:Hid (w0.cell? ⟨F,fo+f*2+1,none⟩=some (int i64 (nth cL (nth cd h.file.classes c).fields f).cls)):=y2
 replace y0:=MF.cell y0
 replace y1:=MF.cell y1
 replace y2:=MF.cell y2
 unfold maxLen at Li KK
 have c0:((w.alloc (cS r)).alloc (cS v)).cell? ⟨p,0,none⟩=some (.slice (some ⟨b,off,none⟩) h.file.classes.length g.a):=by rw [HH.out.c0 rfl,NY]
 have u0:=HU.out.c0
 have u1:=HU.out.c1
 have hc0:(0:Int)≤(c:Int):=by omega
 have EC:(c:Int)<(h.file.classes.length:Int):=by omega
 have LZ:(0:Int)≤(f:Int):=by omega
 have Hb:(f:Int)<((nth cd h.file.classes c).fields.length:Int):=by omega
 clear hH C yF kV
 have Uk:dW h.file.classes (c:Int) (f:Int)=nth cL (nth cd h.file.classes c).fields f:=by unfold dW;rw [Int.toNat_natCast,Int.toNat_natCast]
 generalize hT:nth cL (nth cd h.file.classes c).fields f=t at *
 obtain ⟨O,hO⟩:∃O,h.of v t=O:=⟨_,rfl⟩
 have HO:Hid (h.of v t=O):=hO
 have R9:Hid (g.A=some ⟨b,off,none⟩):=NY
 clear hT NY
 have O5:h.put r c f v=if h.mustB O=true then (if h.findN r c f<0 then h.findH r c else (h.findH r c).setV r.n.toNat (h.findN r c f).toNat v) else h.must O:=by
  unfold Hp.put;rw [Uk,hO]
 rw [O5]
 clear O5 Uk hO
 cases hm:h.mustB O
 ·rw [if_neg (by decide)]
  go_enter Tryz.func117,Tryz.ntmps117
  go_wp2
  go_region_held3 (fun w'=>w'.cell? ⟨p,0,none⟩=some (.slice (some ⟨b,off,none⟩) h.file.classes.length g.a)/\w'.cell? ⟨w.heap.size+1,0,none⟩=some (int i64 v.kind)/\w'.cell? ⟨w.heap.size+1,1,none⟩=some (int i64 v.n)/\w'.cell? ⟨b,off+c*2+1,none⟩=some (.slice (some ⟨F,fo,none⟩) (nth cd h.file.classes c).fields.length uc)/\w'.cell? ⟨F,fo+f*2,none⟩=some (int i64 t.kind)/\w'.cell? ⟨F,fo+f*2+1,none⟩=some (int i64 t.cls))
   (go_keep)
   (first
    | (go_at_call 58;refine (jm w0 g p h v t _ (by first|exact HH.out.cf (Cf.drew (Cf.refl _ _ _))|exact HH.out) HC.out.cls HC.out.tree Lk.out).mono ?_;rintro e w1 ⟨he,h1,f1,b1⟩;rw [HO.out] at he;subst he;have e0:=b1.cell c0;have e1:=b1.cell u0;have e2:=b1.cell u1;have e3:=b1.cell y0;have e4:=b1.cell y1;have e5:=b1.cell y2)
    | (go_at_call 56;refine (bj w0 g HC.out.k p h O _ h1).mono ?_;rintro e w2 ⟨he,h2,f2⟩;rw [hm] at he;subst he;have a0:=h2.c0 (og h O).1;rw [R9.out] at a0;have bu:=(HU.out.keep HC.out.k (Fr.trans (Fr.drew (Fr.refl _ _ _)) f1)).keep HC.out.k f2;have a1:=bu.c0;have a2:=bu.c1;clear bu;have a3:=h2.bl.cell vA.out;have a4:=h2.bl.cell rJ.out;have a5:=h2.bl.cell Dk.out))
  go_wp2
  (try simp only [Exit.inBlock,Exit.then])
  first|exact bodyPost_ret (results_none rfl _ _ _) rfl ⟨rfl,h2,(HF.out.drew.trans f1).trans f2⟩|(go_end0;exact ⟨rfl,h2,(HF.out.drew.trans f1).trans f2⟩)
 ·obtain ⟨rfl,bq,xV⟩:=dX hm
  have rP:Hid (h.must true=h):=xV
  clear xV bq
  rw [if_pos rfl]
  by_cases n7:h.findN r c f<0
  ·rw [if_pos n7]
   obtain ⟨N,hN⟩:∃N,h.findN r c f=N:=⟨_,rfl⟩
   have HN:Hid (h.findN r c f=N):=hN
   rw [hN] at n7
   clear hN
   go_enter Tryz.func117,Tryz.ntmps117
   go_wp2
   go_region_held3 (fun w'=>w'.cell? ⟨p,0,none⟩=some (.slice (some ⟨b,off,none⟩) h.file.classes.length g.a)/\w'.cell? ⟨w.heap.size+1,0,none⟩=some (int i64 v.kind)/\w'.cell? ⟨w.heap.size+1,1,none⟩=some (int i64 v.n)/\w'.cell? ⟨b,off+c*2+1,none⟩=some (.slice (some ⟨F,fo,none⟩) (nth cd h.file.classes c).fields.length uc)/\w'.cell? ⟨F,fo+f*2,none⟩=some (int i64 t.kind)/\w'.cell? ⟨F,fo+f*2+1,none⟩=some (int i64 t.cls))
    (go_keep)
    (first
     | (go_at_call 58;refine (jm w0 g p h v t _ (by first|exact HH.out.cf (Cf.drew (Cf.refl _ _ _))|exact HH.out) HC.out.cls HC.out.tree Lk.out).mono ?_;rintro e w1 ⟨he,h1,f1,b1⟩;rw [HO.out] at he;subst he;have e0:=b1.cell c0;have e1:=b1.cell u0;have e2:=b1.cell u1;have e3:=b1.cell y0;have e4:=b1.cell y1;have e5:=b1.cell y2)
     | (go_at_call 56;refine (bj w0 g HC.out.k p h true _ h1).mono ?_;rintro e w2 ⟨he,h2,f2⟩;rw [hm] at he;subst he;have a0:=h2.c0 (og h true).1;rw [R9.out] at a0;have bu:=(HU.out.keep HC.out.k (Fr.trans (Fr.drew (Fr.refl _ _ _)) f1)).keep HC.out.k f2;have a1:=bu.c0;have a2:=bu.c1;clear bu;have a3:=h2.bl.cell vA.out;have a4:=h2.bl.cell rJ.out;have a5:=h2.bl.cell Dk.out))
   rw [rP.out] at h2
   have x0:=((HV.out.keep HC.out.k (Fr.trans (Fr.drew (Fr.refl _ _ _)) f1)).keep HC.out.k f2).c0
   have x1:=((HV.out.keep HC.out.k (Fr.trans (Fr.drew (Fr.refl _ _ _)) f1)).keep HC.out.k f2).c1
   go_wp2_with (go_at_call 168;refine (nN w0 g p h r c f _ h2 HC.out xW.out).mono ?_;rintro e w3 ⟨he,h3,f3⟩;rw [HN.out] at he;subst he)
   go_end0
   exact ⟨rfl,h3,((HF.out.drew.trans f1).trans f2).trans f3⟩
  ·rw [if_neg n7]
   obtain ⟨e2,hk,n,q,Nu,kq,ME,eQ⟩:=wP xW.out n7
   rw [e2,Nu,ME,Int.toNat_natCast,Int.toNat_natCast]
   have Mt:Hid (h.findH r c=h):=e2
   have EL:Hid (h.findN r c f=q):=ME
   obtain ⟨rk,rn⟩:=r
   dsimp only at *
   subst Nu
   clear e2 ME n7 hk
   have kp:(0:Int)≤(n:Int):=by omega
   have kb:(n:Int)<(h.objs.length:Int):=by omega
   have cU:(0:Int)≤(q:Int):=by omega
   have mL:(q:Int)<((nth cA h.objs n).held.length:Int):=by omega
   go_enter Tryz.func117,Tryz.ntmps117
   go_wp2
   go_region_held3 (fun w'=>w'.cell? ⟨p,0,none⟩=some (.slice (some ⟨b,off,none⟩) h.file.classes.length g.a)/\w'.cell? ⟨w.heap.size+1,0,none⟩=some (int i64 v.kind)/\w'.cell? ⟨w.heap.size+1,1,none⟩=some (int i64 v.n)/\w'.cell? ⟨b,off+c*2+1,none⟩=some (.slice (some ⟨F,fo,none⟩) (nth cd h.file.classes c).fields.length uc)/\w'.cell? ⟨F,fo+f*2,none⟩=some (int i64 t.kind)/\w'.cell? ⟨F,fo+f*2+1,none⟩=some (int i64 t.cls))
    (go_keep)
    (first
     | (go_at_call 58;refine (jm w0 g p h v t _ (by first|exact HH.out.cf (Cf.drew (Cf.refl _ _ _))|exact HH.out) HC.out.cls HC.out.tree Lk.out).mono ?_;rintro e w1 ⟨he,h1,f1,b1⟩;rw [HO.out] at he;subst he;have e0:=b1.cell c0;have e1:=b1.cell u0;have e2:=b1.cell u1;have e3:=b1.cell y0;have e4:=b1.cell y1;have e5:=b1.cell y2)
     | (go_at_call 56;refine (bj w0 g HC.out.k p h true _ h1).mono ?_;rintro e w2 ⟨he,h2,f2⟩;rw [hm] at he;subst he;have a0:=h2.c0 (og h true).1;rw [R9.out] at a0;have bu:=(HU.out.keep HC.out.k (Fr.trans (Fr.drew (Fr.refl _ _ _)) f1)).keep HC.out.k f2;have a1:=bu.c0;have a2:=bu.c1;clear bu;have a3:=h2.bl.cell vA.out;have a4:=h2.bl.cell rJ.out;have a5:=h2.bl.cell Dk.out))
   rw [rP.out] at h2
   have x0:=((HV.out.keep HC.out.k (Fr.trans (Fr.drew (Fr.refl _ _ _)) f1)).keep HC.out.k f2).c0
   have x1:=((HV.out.keep HC.out.k (Fr.trans (Fr.drew (Fr.refl _ _ _)) f1)).keep HC.out.k f2).c1
   have Sa:Hid (aQ w2 w.heap.size ⟨rk,n⟩):=(HV.out.keep HC.out.k (Fr.trans (Fr.drew (Fr.refl _ _ _)) f1)).keep HC.out.k f2
   have Ul:Hid (aQ w2 (w.heap.size+1) v):=(HU.out.keep HC.out.k (Fr.trans (Fr.drew (Fr.refl _ _ _)) f1)).keep HC.out.k f2
   go_wp2_with (go_at_call 168;refine (nN w0 g p h ⟨rk,n⟩ c f _ h2 HC.out xW.out).mono ?_;rintro e w3 ⟨he,h3,f3⟩;rw [EL.out] at he;subst he;rw [Mt.out] at h3;have k1:=(Sa.out.keep HC.out.k f3).c1;have k2:=(Ul.out.keep HC.out.k f3).c0;have k3:=(Ul.out.keep HC.out.k f3).c1;obtain ⟨vo,vx,hv,H⟩:=h3;have HA:Hid (cC w0 g w3 p h vo vx hv):=H;obtain ⟨gb,cap,U,uc',mW,yC,o1,o2,hu,O3,wO⟩:=mM H kq;have c2:=H.cells.c2;rw [mW] at c2;clear H mW;have Wv:Hid (nth hv0 hv n=.slice U (nth cA h.objs n).held.length uc'):=hu;clear hu;unfold maxLen at yC O3)
   rcases wO with h0|⟨hb,rfl,QJ,hcell⟩
   ·omega
   obtain ⟨-,-,YN,YO⟩:=hcell q eQ
   have z2:=QJ (q*4+2)
   have z3:=QJ (q*4+3)
   clear hcell o1 QJ
   go_region
   all_goals go_wp2
   all_goals
    go_end0
    have hh:=HA.out.heldSet HC.out.k kq eQ Wv.out v
    exact ⟨rfl,⟨vo,vx,hv,hh.1.cf (Cf.drew (Cf.refl _ _ _))⟩,((((HF.out.drew.trans f1).trans f2).trans f3).trans hh.2).drew⟩
section
variable (w0:World) (g:Ad) (p:Nat) (h:Hp)
theorem dh (w:World) (hH:Hs w0 g w p h) :
  Calls Tryz.prog 56 #[.pointer (some ⟨p,0,none⟩),.bool true] w fun e w'=>e=.returned (.bool (!h.over))/\w'=w:=by
 obtain ⟨vo,vx,hv,H⟩:=hH
 have c12:=H.cells.c12
 clear H
 go_enter Tryz.func56,Tryz.ntmps56
 go_wp2
 go_ret
 exact ⟨rfl,rfl⟩
theorem EP (v:Va) (c:Int) (w:World) (hH:Hs w0 g w p h) (C:Cw w0 g h) (kV:v.kind=3->v.n<h.objs.length) :
  Calls Tryz.prog 145 #[.pointer (some ⟨p,0,none⟩),iA v,int i64 c] w fun e w'=>e=.returned (.tuple #[])/\Hs w0 g w' p (h.cast v c)/\Fr w0.heap.size g.T w w':=by
 have cH:=hH.base
 have HF:Hid (Fr w0.heap.size g.T w (w.alloc (cS v))):=(Fr.refl _ _ w).alloc cH _
 have HH:Hid (Hs w0 g (w.alloc (cS v)) p h):=hH.cf ((Cf.refl _ _ w).alloc cH _)
 have HV:Hid (aQ (w.alloc (cS v)) w.heap.size v):=aQ.new w v
 have HC:Hid (Cw w0 g h):=C
 have Lk:Hid (v.kind=3->v.n<h.objs.length):=kV
 have hk:(v.kind==3)=isRef v:=by unfold isRef;rw [Bool.eq_iff_iff];simp
 clear hH C kV
 cases hm:h.mustB (isRef v)
 ·have hr:h.cast v c=h.must (isRef v):=by unfold Hp.cast;rw [if_neg (by rw [hm];decide)]
  rw [hr]
  clear hr
  go_enter Tryz.func145,Tryz.ntmps145
  go_wp2_with (go_at_call 56;refine (bj w0 g HC.out.k p h _ _ HH.out).mono ?_;rintro e w1 ⟨he,h1,f1⟩;rw [hm] at he;subst he)
  go_end0
  exact ⟨rfl,h1,HF.out.trans f1⟩
 ·obtain ⟨hb,bq,xV⟩:=dX hm
  have rP:Hid (h.must (isRef v)=h):=xV
  clear xV hb bq
  cases hO:h.of v ⟨3,c⟩
  ·have hr:h.cast v c=h.raise 3:=by unfold Hp.cast;rw [if_pos hm,if_neg (by rw [hO];decide)]
   rw [hr]
   clear hr
   go_enter Tryz.func145,Tryz.ntmps145
   go_wp2_with (first
    | (go_at_call 56;refine (bj w0 g HC.out.k p h _ _ HH.out).mono ?_;rintro e w1 ⟨he,h1,f1⟩;rw [hm] at he;subst he;rw [rP.out] at h1;have r0:=(HV.out.keep HC.out.k f1).c0;have r1:=(HV.out.keep HC.out.k f1).c1)
    | (go_at_call 58;refine (jm w0 g p h v ⟨3,c⟩ _ h1 HC.out.cls HC.out.tree Lk.out).mono ?_;rintro e w2 ⟨he,h2,f2,-⟩;rw [hO] at he;subst he)
    | (go_at_call 167;refine (kg w0 g p h 3 _ h2 HC.out (by omega)).mono ?_;rintro e w3 ⟨rfl,h3,f3⟩))
   go_end0
   exact ⟨rfl,h3,((HF.out.trans f1).trans f2).trans f3⟩
  ·have hr:h.cast v c=h:=by unfold Hp.cast;rw [if_pos hm,if_pos hO]
   rw [hr]
   clear hr
   go_enter Tryz.func145,Tryz.ntmps145
   go_wp2_with (first
    | (go_at_call 56;refine (bj w0 g HC.out.k p h _ _ HH.out).mono ?_;rintro e w1 ⟨he,h1,f1⟩;rw [hm] at he;subst he;rw [rP.out] at h1;have r0:=(HV.out.keep HC.out.k f1).c0;have r1:=(HV.out.keep HC.out.k f1).c1)
    | (go_at_call 58;refine (jm w0 g p h v ⟨3,c⟩ _ h1 HC.out.cls HC.out.tree Lk.out).mono ?_;rintro e w2 ⟨he,h2,f2,-⟩;rw [hO] at he;subst he))
   go_end0
   exact ⟨rfl,h2,(HF.out.trans f1).trans f2⟩
end
def wR (w:World) (A:Option Addr) (l:List Va):Prop :=
 l.length≤maxLen/\(l.length=0∨∃b off,A=some ⟨b,off,none⟩/\∀i,i<l.length ->
  w.cell? ⟨b,off+i*2,none⟩=some (int i64 (nth ag l i).kind)/\w.cell? ⟨b,off+i*2+1,none⟩=some (int i64 (nth ag l i).n))
theorem zu (l:List Va):aP l≤2*l.length:=by
 induction l with
 | nil=>simp [aP]
 | cons t l ih=>simp only [aP,List.length_cons];split<;>omega
theorem BS (l:List Va) (k:Nat) (h:k<l.length):aP (l.take (k+1))=aP (l.take k)+(if (nth ag l k).kind=2 then 2 else 1):=by
 induction l generalizing k with
 | nil=>simp at h
 | cons t l ih =>
  cases k with
  | zero=>simp [aP,nth]
  | succ k =>
   have:=ih k (by simpa using h)
   have e:nth ag (t::l) (k+1)=nth ag l k:=by simp [nth]
   rw [e,List.take_succ_cons,List.take_succ_cons,aP,aP,this];omega
theorem ER (A:Option Addr) (c:Nat) (l:List Va) (w:World) (hl:wR w A l) (hb:l.length≤1000000) :
  Calls Tryz.prog 54 #[.slice A l.length c] w fun e w'=>e=.returned (int i64 (aP l:Nat))/\w'=w:=by
 obtain ⟨hm,hl⟩:=hl
 clear hm
 have HS:Hid (∀k,k<l.length->aP (l.take (k+1))=aP (l.take k)+(if (nth ag l k).kind=2 then 2 else 1)):=BS l
 have HB:Hid (∀k,aP (l.take k)≤2*k):=fun k=>by have:=zu (l.take k);have:=List.length_take_le k l;omega
 go_enter Tryz.func54,Tryz.ntmps54
 go_wp2
 go_loop [3,4] (fun n i=>∃k:Nat,k≤l.length/\i=int i64 k/\n=int i64 ((l.length:Int)+((aP (l.take k):Nat):Int)-k)) (fun _ i=>l.length-(intOf i).toNat)
 case atStart=>exact ⟨0,Nat.zero_le _,rfl,by simp [aP]⟩
 case round =>
  obtain ⟨k,hk,rfl,rfl⟩:=hrel
  have h2:=HB.out k
  by_cases hlt:k<l.length
  ·rcases hl with h0|⟨b,off,rfl,hcell⟩
   ·omega
   have ht:=(hcell k hlt).1
   have hs:=HS.out k hlt
   clear hcell
   by_cases mr:(nth ag l k).kind=2
   ·rw [if_pos mr] at hs
    rw [mr] at ht
    have Ih:Hid (aP (l.take (k+1))=aP (l.take k)+2):=hs
    clear hs mr
    go_wp2
    go_round
    case rel=>exact ⟨k+1,by omega,by go_num,by rw [Ih.out];go_num⟩
    case measure=>simp [intOf];omega
   ·rw [if_neg mr] at hs
    have Ih:Hid (aP (l.take (k+1))=aP (l.take k)+1):=hs
    have Rr:((nth ag l k).kind==2)=false:=by simpa using mr
    clear hs mr
    go_wp2
    go_round
    case rel=>exact ⟨k+1,by omega,by go_num,by rw [Ih.out];go_num⟩
    case measure=>simp [intOf];omega
  ·obtain rfl:k=l.length:=by omega
   rw [List.take_length] at *
   go_wp2
   go_ret
   exact ⟨lR (by omega),rfl⟩
structure cv (w:World) (b:Nat) (l:List Va):Prop where
 blk:w.heap[b]?=some (.cells (aL l).toArray 62 (0,0))
 len:l.length≤maxLen
section
variable {w:World} {b:Nat} {l:List Va}
theorem cv.c0 (h:cv w b l) {i:Nat} (hi:i<l.length):w.cell? ⟨b,i*2,none⟩=some (int i64 (nth ag l i).kind):=by
 rw [aa h.blk];simpa using (fL l i hi).1
theorem cv.c1 (h:cv w b l) {i:Nat} (hi:i<l.length):w.cell? ⟨b,i*2+1,none⟩=some (int i64 (nth ag l i).n):=by
 rw [aa h.blk];simpa using (fL l i hi).2
theorem cv.fr (h:cv w b l) (i:Nat):w.frozen? ⟨b,i,none⟩=false:=ay h.blk i
theorem cv.set (h:cv w b l) {i:Nat} (hi:i<l.length) (v:Va):cv ((w.setCell ⟨b,i*2,none⟩ (int i64 v.kind)).setCell ⟨b,i*2+1,none⟩ (int i64 v.n)) b (l.set i v) :=
 ⟨by rw [ax (ax h.blk _),ku l i v hi];simp,by rw [List.length_set];exact h.len⟩
theorem cv.vas (h:cv w b l):wR w (some ⟨b,0,none⟩) l :=
 ⟨h.len,Or.inr ⟨b,0,rfl,fun i hi=>by rw [Nat.zero_add];exact ⟨h.c0 hi,h.c1 hi⟩⟩⟩
end
structure eM (b:Nat) (w w':World):Prop where
 os:w'.os=w.os
 tape:w'.tape=w.tape
 output:w'.output=w.output
 size:w.heap.size≤w'.heap.size
 block:∀k,k<w.heap.size->k≠b->w'.heap[k]?=w.heap[k]?
theorem eM.refl (b:Nat) (w:World):eM b w w:=⟨rfl,rfl,rfl,Nat.le_refl _,fun _ _ _=>rfl⟩
theorem eM.trans {b:Nat} {x y z:World} (h:eM b x y) (k:eM b y z):eM b x z :=
 ⟨k.os.trans h.os,k.tape.trans h.tape,k.output.trans h.output,Nat.le_trans h.size k.size,fun i hi hb=>(k.block i (Nat.lt_of_lt_of_le hi h.size) hb).trans (h.block i hi hb)⟩
section
variable {b:Nat} {a w:World}
theorem eM.alloc (h:eM b a w) (o:Obj):eM b a (w.alloc o) :=
 h.trans ⟨rfl,rfl,rfl,by simp,fun k hk _=>Below.heap_alloc _ _ _ hk⟩
theorem eM.set (h:eM b a w) (i:Nat) (v:Value):eM b a (w.setCell ⟨b,i,none⟩ v) :=
 h.trans ⟨rfl,rfl,rfl,by simp [World.setCell],fun k hk hb=>aA hb v⟩
theorem eM.drew (h:eM b a w):eM b a w.drew:=⟨h.os,h.tape,h.output,h.size,h.block⟩
end
theorem qF (b:Nat) (l:List Va) (a c:Nat) (w:World) (hL:cv w b l) (ha:a<l.length) (h9:(nth ag l a).kind=9->1≤a) (h2:(nth ag l a).kind=2->a+1<l.length) :
  Calls Tryz.prog 111 #[.slice (some ⟨b,0,none⟩) l.length c,int i64 (a:Int)] w fun e w'=>e=.returned (.tuple #[])/\cv w' b (cE l a)/\eM b w w':=by
 have HL:Hid (cv w b l):=hL
 have hm:=hL.len
 unfold maxLen at hm
 have c0:=hL.c0 ha
 have c1:=hL.c1 ha
 have fz:=hL.fr
 have ha0:(0:Int)≤(a:Int):=by omega
 have Hz:(a:Int)<(l.length:Int):=by omega
 clear hL
 by_cases k9:(nth ag l a).kind=9
 ·have h1:=h9 k9
  have e:cE l a=(l.set (a-1) ag).set a ag:=by unfold cE;rw [if_pos k9]
  rw [e]
  obtain ⟨a',rfl⟩:∃a',a=a'+1:=⟨a-1,by omega⟩
  have zU:a'<l.length:=by omega
  have d0:=HL.out.c0 zU
  have d1:=HL.out.c1 zU
  rw [k9] at c0
  clear e h9 h2 k9
  go_enter Tryz.func111,Tryz.ntmps111
  go_wp2
  go_end0
  exact ⟨rfl,((HL.out.set zU ag).set (by rw [List.length_set];exact ha) ag),((((eM.refl b w).set _ _).set _ _).set _ _).set _ _⟩
 ·have n9:((nth ag l a).kind==9)=false:=by simpa using k9
  by_cases k2:(nth ag l a).kind=2
  ·have h1:=h2 k2
   have e:cE l a=(l.set (a+1) ag).set a ag:=by unfold cE;rw [if_neg k9,if_pos k2]
   rw [e]
   have d0:=HL.out.c0 h1
   have d1:=HL.out.c1 h1
   have hb1:((a:Int)+1)<(l.length:Int):=by omega
   rw [k2] at c0
   clear e h9 h2 k9 k2 n9
   go_enter Tryz.func111,Tryz.ntmps111
   go_wp2
   go_end0
   exact ⟨rfl,((HL.out.set h1 ag).set (by rw [List.length_set];exact ha) ag),((((eM.refl b w).set _ _).set _ _).set _ _).set _ _⟩
  ·have n2:((nth ag l a).kind==2)=false:=by simpa using k2
   have e:cE l a=l.set a ag:=by unfold cE;rw [if_neg k9,if_neg k2]
   rw [e]
   clear e h9 h2 k9 k2
   go_enter Tryz.func111,Tryz.ntmps111
   go_wp2
   go_end0
   exact ⟨rfl,HL.out.set ha ag,((eM.refl b w).set _ _).set _ _⟩
theorem BT (l:List Va) (a i:Nat) (hi:i<l.length):nth ag (cE l a) i=ag∨nth ag (cE l a) i=nth ag l i:=by
 have key:∀(m:List Va) (j:Nat),nth ag (m.set j ag) i=ag∨nth ag (m.set j ag) i=nth ag m i:=fun m j=>by
  by_cases hj:j=i
  ·subst hj
   by_cases hm:j<m.length
   ·exact Or.inl (fe hm)
   ·right;rw [List.set_eq_of_length_le (by omega)]
  ·exact Or.inr (dY hj)
 unfold cE
 split
 ·rcases key (l.set (a-1) ag) a with h|h
  ·exact Or.inl h
  ·rw [h];exact key l (a-1)
 ·split
  ·rcases key (l.set (a+1) ag) a with h|h
   ·exact Or.inl h
   ·rw [h];exact key l (a+1)
  ·exact key l a
theorem eM.box {b:Nat} {w w':World} (h:eM b w w') {c:Nat} {v:Va} (hv:aQ w c v) (hb:c≠b):aQ w' c v:=⟨(h.block c (af hv.blk) hb).trans hv.blk⟩
theorem sA (b:Nat) (l:List Va) (a c:Nat) (v:Va) (w:World) (hL:cv w b l) (hok:gZ l) (ha:a<l.length) (h2:v.kind=2->a+1<l.length) :
  Calls Tryz.prog 53 #[.slice (some ⟨b,0,none⟩) l.length c,int i64 (a:Int),iA v] w fun e w'=>e=.returned (.tuple #[])/\cv w' b (eu l a v)/\eM b w w':=by
 have hbl:=af hL.blk
 have HL:Hid (cv (w.alloc (cS v)) b l):=⟨(Below.heap_alloc _ _ _ hbl).trans hL.blk,hL.len⟩
 have HV:Hid (aQ (w.alloc (cS v)) w.heap.size v):=aQ.new w v
 have HO:Hid (eM b w (w.alloc (cS v))):=(eM.refl b w).alloc _
 have hm:=hL.len
 unfold maxLen at hm
 have hne:w.heap.size≠b:=by omega
 have Ww:b≠w.heap.size:=by omega
 have ha0:(0:Int)≤(a:Int):=by omega
 have Hz:(a:Int)<(l.length:Int):=by omega
 have H9:Hid ((nth ag l a).kind=9->1≤a):=hok.nine a ha
 have H2:Hid ((nth ag l a).kind=2->a+1<l.length):=hok.two a ha
 have hlen:=fS l a
 have oh:Hid ((cE l a).length=l.length):=hlen
 clear hL
 by_cases k2:v.kind=2
 ·have mX:=h2 k2
  have e:eu l a v=(((cE (cE l a) (a+1)).set (a+1) ⟨9,0⟩).set a v):=by unfold eu;rw [if_pos k2]
  rw [e]
  have Wx:Hid ((nth ag (cE l a) (a+1)).kind=2->a+1+1<(cE l a).length):=fun hk=>by
   rw [hlen]
   rcases BT l a (a+1) mX with h|h
   ·rw [h] at hk;exact absurd hk (by decide)
   ·rw [h] at hk;exact hok.two _ mX hk
  have Ll:(cE (cE l a) (a+1)).length=l.length:=by rw [fS,hlen]
  have sB:Hid ((cE (cE l a) (a+1)).length=l.length):=Ll
  have hb1:((a:Int)+1)<(l.length:Int):=by omega
  obtain ⟨vk,vn⟩:=v
  dsimp only at *
  subst k2
  clear e h2 hok hlen Ll
  go_enter Tryz.func53,Tryz.ntmps53
  go_wp2_with (first
   | (go_at_call_of 111 (Value.int IntKind.i64 (a:Int));refine (qF b l a c _ HL.out ha H9.out H2.out).mono ?_;rintro e w1 ⟨rfl,l1,o1⟩;have r0:=(o1.box HV.out hne).c0;have r1:=(o1.box HV.out hne).c1;have Um:Hid (aQ w1 w.heap.size ⟨2,vn⟩):=o1.box HV.out hne)
   | (go_at_call 111;rw [<-oh.out];refine (qF b (cE l a) (a+1) c _ l1 (by rw [oh.out];exact mX) (fun _=>by omega) Wx.out).mono ?_;rintro e w2 ⟨rfl,l2,o2⟩;have s0:=(o2.box Um.out hne).c0;have s1:=(o2.box Um.out hne).c1;have Wy:Hid (cv w2 b (cE (cE l a) (a+1))):=l2;have t0:=l2.c0 (i:=a+1) (by rw [sB.out];exact mX);have t1:=l2.c1 (i:=a+1) (by rw [sB.out];exact mX);have t2:=l2.c0 (i:=a) (by rw [sB.out];exact ha);have t3:=l2.c1 (i:=a) (by rw [sB.out];exact ha);have fz:=l2.fr;clear l2;have Bw:((a:Int)+1)<((cE l a).length:Int):=(by rw [oh.out];omega);have Wz:(a:Int)<((cE l a).length:Int):=(by rw [oh.out];omega);have YP:(cE l a).length≤2 ^ 63-1:=(by rw [oh.out];omega)))
  go_end0
  exact ⟨rfl,(Wy.out.set (by rw [sB.out];exact mX) ⟨9,0⟩).set (by rw [List.length_set,sB.out];exact ha) ⟨2,vn⟩,((((((HO.out.trans o1).trans o2).set _ _).set _ _).set _ _).set _ _)⟩
 ·have n2:(v.kind==2)=false:=by simpa using k2
  have e:eu l a v=(cE l a).set a v:=by unfold eu;rw [if_neg k2]
  rw [e]
  clear e h2 hok k2 hlen
  go_enter Tryz.func53,Tryz.ntmps53
  go_wp2_with (go_at_call 111;refine (qF b l a c _ HL.out ha H9.out H2.out).mono ?_;rintro e w1 ⟨rfl,l1,o1⟩;have r0:=(o1.box HV.out hne).c0;have r1:=(o1.box HV.out hne).c1;have WB:Hid (cv w1 b (cE l a)):=l1;have t2:=l1.c0 (i:=a) (by rw [oh.out];exact ha);have t3:=l1.c1 (i:=a) (by rw [oh.out];exact ha);have fz:=l1.fr;clear l1)
  go_end0
  exact ⟨rfl,WB.out.set (by rw [oh.out];exact ha) v,((HO.out.trans o1).set _ _).set _ _⟩
end Go.Proofs.YtimjmdfokicbkaaGreat
