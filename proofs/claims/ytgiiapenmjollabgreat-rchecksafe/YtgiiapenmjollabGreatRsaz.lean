import Derived.Test.YtgiiapenmjollabGreatRsay
namespace Go.Proofs.YtgiiapenmjollabGreat
set_option linter.all false
set_option maxHeartbeats 40000000
set_option maxRecDepth 100000
open Go.RowKit
theorem head_few4 {nc:Nat} {m:Me} {most:Int} (h:headB nc m most=true):m.params.length≤4∧m.hands.length≤8∧1≤m.code.length∧(m.code.length:Int)≤most :=
 Decidable.byContradiction fun hc=>by rw [head_few hc] at h;exact absurd h (by decide)
theorem FiBox.new (w:World) (nc nm:Nat) (A B:Option Addr) (x y:Nat):FiBox (w.alloc (fiO nc nm A B x y)) w.heap.size 0 nc nm A B x y:=⟨cell_of_new rfl,cell_of_new rfl⟩
structure SCells3 (w:World) (b:Nat) (nc nm:Nat) (A B:Option Addr) (x y:Nat) (m:Me) (P C K:Option Addr) (p c k:Nat) (i:In) (Q:Option Addr) (q:Nat):Prop where
 f0:w.cell? ⟨b,0,none⟩=some (.slice A nc x)
 f1:w.cell? ⟨b,1,none⟩=some (.slice B nm y)
 m:MeCells w (b+1) m P C K p c k
 i0:w.cell? ⟨b+1+1,0,none⟩=some (.int .i64 i.op)
 i1:w.cell? ⟨b+1+1,1,none⟩=some (.int .i64 i.a)
 i2:w.cell? ⟨b+1+1,2,none⟩=some (.int .i64 i.b)
 i3:w.cell? ⟨b+1+1,3,none⟩=some (.int .i64 i.c)
 i4:w.cell? ⟨b+1+1,4,none⟩=some (.int .i64 i.n)
 i5:w.cell? ⟨b+1+1,5,none⟩=some (.slice Q i.args.length q)
theorem SCells3.bl {w w':World} (h:Bl w w') {b nc nm:Nat} {A B:Option Addr} {x y:Nat} {m:Me} {P C K:Option Addr} {p c k:Nat} {i:In} {Q:Option Addr} {q:Nat}
  (hb:SCells3 w b nc nm A B x y m P C K p c k i Q q):SCells3 w' b nc nm A B x y m P C K p c k i Q q :=
 ⟨h.cell hb.f0,h.cell hb.f1,hb.m.bl h,h.cell hb.i0,h.cell hb.i1,h.cell hb.i2,h.cell hb.i3,h.cell hb.i4,h.cell hb.i5⟩
abbrev W3 (w:World) (nc nm:Nat) (A B:Option Addr) (x y:Nat) (m:Me) (P C K:Option Addr) (p c k:Nat) (i:In) (Q:Option Addr) (q:Nat):World :=
 ((w.alloc (fiO nc nm A B x y)).alloc (meO m P C K p c k)).alloc (inO i Q q)
theorem SCells3.new (w:World) (nc nm:Nat) (A B:Option Addr) (x y:Nat) (m:Me) (P C K:Option Addr) (p c k:Nat) (i:In) (Q:Option Addr) (q:Nat) :
  SCells3 (W3 w nc nm A B x y m P C K p c k i Q q) w.heap.size nc nm A B x y m P C K p c k i Q q:=by
 have h1:(w.alloc (fiO nc nm A B x y)).heap.size=w.heap.size+1:=World.size_alloc ..
 have h2:((w.alloc (fiO nc nm A B x y)).alloc (meO m P C K p c k)).heap.size=w.heap.size+1+1:=by rw [World.size_alloc,World.size_alloc]
 have b2:Bl (w.alloc (fiO nc nm A B x y)) (W3 w nc nm A B x y m P C K p c k i Q q):=((Bl.refl _).alloc _).alloc _
 have b3:Bl ((w.alloc (fiO nc nm A B x y)).alloc (meO m P C K p c k)) (W3 w nc nm A B x y m P C K p c k i Q q):=(Bl.refl _).alloc _
 have hm:=(MeCells.new (w.alloc (fiO nc nm A B x y)) m P C K p c k).bl b3
 rw [h1] at hm
 refine ⟨b2.cell (cell_of_new rfl),b2.cell (cell_of_new rfl),hm,?_,?_,?_,?_,?_,?_⟩<;>rw [←h2]<;>exact cell_of_new rfl
structure SCells2 (w:World) (b:Nat) (nc nm:Nat) (A B:Option Addr) (x y:Nat) (m:Me) (P C K:Option Addr) (p c k:Nat):Prop where
 f0:w.cell? ⟨b,0,none⟩=some (.slice A nc x)
 f1:w.cell? ⟨b,1,none⟩=some (.slice B nm y)
 m:MeCells w (b+1) m P C K p c k
theorem SCells2.bl {w w':World} (h:Bl w w') {b nc nm:Nat} {A B:Option Addr} {x y:Nat} {m:Me} {P C K:Option Addr} {p c k:Nat}
  (hb:SCells2 w b nc nm A B x y m P C K p c k):SCells2 w' b nc nm A B x y m P C K p c k:=⟨h.cell hb.f0,h.cell hb.f1,hb.m.bl h⟩
theorem SCells2.new (w:World) (nc nm:Nat) (A B:Option Addr) (x y:Nat) (m:Me) (P C K:Option Addr) (p c k:Nat) :
  SCells2 ((w.alloc (fiO nc nm A B x y)).alloc (meO m P C K p c k)) w.heap.size nc nm A B x y m P C K p c k:=by
 have b2:Bl (w.alloc (fiO nc nm A B x y)) ((w.alloc (fiO nc nm A B x y)).alloc (meO m P C K p c k)):=(Bl.refl _).alloc _
 have hm:=MeCells.new (w.alloc (fiO nc nm A B x y)) m P C K p c k
 rw [World.size_alloc] at hm
 exact ⟨b2.cell (cell_of_new rfl),b2.cell (cell_of_new rfl),hm⟩
end Go.Proofs.YtgiiapenmjollabGreat
