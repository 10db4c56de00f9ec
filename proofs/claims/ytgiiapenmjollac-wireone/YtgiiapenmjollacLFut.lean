/-
  A statement that leaves its order open, whose own operations only read, and whose calls keep what lay: one walk, in the order of the text, serves every order.
-/
import Derived.BigQuiet
import Derived.Test.YtgiiapenmjollacLData
namespace Go.Proofs.Ytgiiapenmjollac
open Go.RowKit

/-- A world in which all that lay in w lies as it lay. -/
structure Fut (w : World) where
  to : World
  is : Bl w to

theorem wp_region_fut {P : Program} {id : Nat} {Q : Exit → Act → World → Prop} {a : Act} {w : World} {l : List Oper} (hm : P.follows .mixedOrders = true) (hB : Region.lexB .any l.toArray = true)
    (h : Nonempty (Fut w) → wpQuiet P l.toArray (fun w' => ∃ x : Fut w, w' = x.to) (fun a' => ∀ w', (∃ x : Fut w, w' = x.to) → Q .normal a' w') l a) : (Code.region id l.toArray true).wp P Q a w :=
  wp_region_quiet (C := fun w' => ∃ x : Fut w, w' = x.to) hm hB ⟨⟨_, (Bl.refl w).drew⟩, rfl⟩ (by simpa using h ⟨⟨w, Bl.refl w⟩⟩)

/-- A call inside it. -/
theorem Calls.fut {P : Program} {f : FuncId} {args : Array Value} {w : World} {v : Value} (x : Fut w)
    (h : Calls P f args x.to fun e w' => e = .returned v ∧ Bl x.to w') : Calls P f args x.to fun e w'' => e = .returned v ∧ ∃ y : Fut w, w'' = y.to :=
  h.mono fun _ w'' ⟨he, hb⟩ => ⟨he, ⟨w'', x.is.trans hb⟩, rfl⟩
theorem Calls.fut_same {P : Program} {f : FuncId} {args : Array Value} {w : World} {v : Value} (x : Fut w)
    (h : Calls P f args x.to fun e w' => e = .returned v ∧ w' = x.to) : Calls P f args x.to fun e w'' => e = .returned v ∧ ∃ y : Fut w, w'' = y.to :=
  h.mono fun _ _ ⟨he, hb⟩ => ⟨he, x, hb⟩

theorem Calls.fut_eq {P : Program} {f : FuncId} {args : Array Value} {w : World} {v v' : Value} (x : Fut w)
    (h : Calls P f args x.to fun e w' => e = .returned v ∧ Bl x.to w') (hv : v = v') : Calls P f args x.to fun e w'' => e = .returned v' ∧ ∃ y : Fut w, w'' = y.to :=
  hv ▸ Calls.fut x h
theorem Calls.fut_same_eq {P : Program} {f : FuncId} {args : Array Value} {w : World} {v v' : Value} (x : Fut w)
    (h : Calls P f args x.to fun e w' => e = .returned v ∧ w' = x.to) (hv : v = v') : Calls P f args x.to fun e w'' => e = .returned v' ∧ ∃ y : Fut w, w'' = y.to :=
  hv ▸ Calls.fut_same x h

theorem fut_cell {w : World} {b o : Nat} {v : Value} (h : w.cell? ⟨b, o, none⟩ = some v) (x : Fut w) : x.to.cell? ⟨b, o, none⟩ = some v := x.is.cell h

end Go.Proofs.Ytgiiapenmjollac
