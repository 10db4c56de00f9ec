/-
  What the document says of a method's head, of either form.
-/
import Derived.Test.YtgiiapenmjollacLRefThree
namespace Go.Proofs.Ytgiiapenmjollac
open Go.RowKit

/-- A method's cells in a box. -/
def MeBox (w : World) (b off : Nat) (m : Me) (P C K : Option Addr) (p c k : Nat) : Prop :=
  w.cell? ⟨b, off, none⟩ = some (.slice P m.params.length p) ∧ w.cell? ⟨b, off + 1, none⟩ = some (.int .i64 m.ret.kind) ∧ w.cell? ⟨b, off + 2, none⟩ = some (.int .i64 m.ret.cls)
    ∧ w.cell? ⟨b, off + 3, none⟩ = some (.int .i64 m.stack) ∧ w.cell? ⟨b, off + 4, none⟩ = some (.int .i64 m.locs) ∧ w.cell? ⟨b, off + 5, none⟩ = some (.int .i64 m.regs)
    ∧ w.cell? ⟨b, off + 6, none⟩ = some (.slice C m.code.length c) ∧ w.cell? ⟨b, off + 7, none⟩ = some (.slice K m.hands.length k)
theorem MeBox.bl {w w' : World} (h : Bl w w') {b off : Nat} {m : Me} {P C K : Option Addr} {p c k : Nat} (hb : MeBox w b off m P C K p c k) : MeBox w' b off m P C K p c k :=
  ⟨h.cell hb.1, h.cell hb.2.1, h.cell hb.2.2.1, h.cell hb.2.2.2.1, h.cell hb.2.2.2.2.1, h.cell hb.2.2.2.2.2.1, h.cell hb.2.2.2.2.2.2.1, h.cell hb.2.2.2.2.2.2.2⟩

/-- A method as a value. -/
abbrev meV (m : Me) (P C K : Option Addr) (p c k : Nat) : Value :=
  .agg #[.slice P m.params.length p, .int .i64 m.ret.kind, .int .i64 m.ret.cls, .int .i64 m.stack, .int .i64 m.locs, .int .i64 m.regs, .slice C m.code.length c, .slice K m.hands.length k]
abbrev fiV (nc nm : Nat) (A B : Option Addr) (a b : Nat) : Value := .agg #[.slice A nc a, .slice B nm b]

/-- A file's cells in a box. -/
def FiBox (w : World) (b off : Nat) (nc nm : Nat) (A B : Option Addr) (x y : Nat) : Prop :=
  w.cell? ⟨b, off, none⟩ = some (.slice A nc x) ∧ w.cell? ⟨b, off + 1, none⟩ = some (.slice B nm y)
theorem FiBox.bl {w w' : World} (h : Bl w w') {b off nc nm : Nat} {A B : Option Addr} {x y : Nat} (hb : FiBox w b off nc nm A B x y) : FiBox w' b off nc nm A B x y := ⟨h.cell hb.1, h.cell hb.2⟩

end Go.Proofs.Ytgiiapenmjollac
