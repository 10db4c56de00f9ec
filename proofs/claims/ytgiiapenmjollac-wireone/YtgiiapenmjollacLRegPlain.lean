/-
  Which files on registers may be, over plain lists.
-/
import Derived.Test.YtgiiapenmjollacLFormPlain
namespace Go.Proofs.Ytgiiapenmjollac
open Go.RowKit

/-- May a number be a register's, of a kind? -/
def regB (regs n kind : Int) : Bool := decide (0 ≤ n ∧ n ≤ regs - (if kind = 2 then 2 else 1))
/-- Which of an instruction's three fields are registers, and of which kinds. -/
def kindsOf (op : Int) : Option (Int × Int × Int) :=
  if op = 1 then some (1, 0, 0)
  else if op = 2 then some (2, 0, 0)
  else if op = 3 then some (3, 0, 0)
  else if op = 4 then some (-1, -1, -1)
  else if op = 5 then some (1, 1, 1)
  else if op = 6 then some (2, 2, 2)
  else if op = 7 then some (2, 1, 0)
  else if op = 8 then some (1, 2, 0)
  else if op = 9 then some (1, 2, 2)
  else if op = 10 then some (-1, 0, 0)
  else if op = 11 then some (-1, -1, 1)
  else if op = 12 then some (-1, 0, 3)
  else if op = 13 then some (3, -1, 0)
  else if op = 14 then some (-1, 3, -1)
  else if op = 15 then some (-1, 3, -1)
  else if op = 16 then some (3, -1, 0)
  else if op = 17 then some (1, 3, -1)
  else if op = 18 then some (-1, 0, 0)
  else if op = 19 then some (-1, -1, 0)
  else if op = 20 then some (-1, 0, 0)
  else if op = 21 then some (3, 0, 0)
  else if op = 22 then some (3, 0, 0)
  else if op = 23 then some (-1, -1, 0)
  else if op = 24 then some (2, 0, 0)
  else none
/-- Is a field as its kind asks? -/
def rfldB (regs n kind : Int) : Bool := if kind = 0 then decide (n = 0) else if 0 < kind then regB regs n kind else true

/-- What else is asked of an instruction on registers. -/
def rrestB (cs : List Cl) (ms : List Me) (ncode : Nat) (regs ret : Int) (i : In) : Bool :=
  decide (i.op = 18 ∨ i.args.length = 0) &&
  (if i.op = 14 ∨ i.op = 15 then decide (0 ≤ i.c ∧ i.c < cs.length ∧ 0 ≤ i.n ∧ i.n < (nth cl0 cs i.c.toNat).fields.length) && regB regs i.a (nth ty0 (nth cl0 cs i.c.toNat).fields i.n.toNat).kind
  else if i.op = 1 then decide (-2147483648 ≤ i.n ∧ i.n ≤ 2147483647)
  else if i.op = 2 then true
  else if i.op = 5 ∨ i.op = 6 then decide (1 ≤ i.n ∧ i.n ≤ 8)
  else decide (i.n = 0) &&
    (if i.op = 4 then decide (1 ≤ i.c ∧ i.c ≤ 3) && regB regs i.a i.c && regB regs i.b i.c
    else if i.op = 10 ∨ i.op = 12 then decide (0 ≤ i.a ∧ i.a < ncode)
    else if i.op = 11 then decide (0 ≤ i.a ∧ i.a < ncode ∧ 1 ≤ i.b ∧ i.b ≤ 4)
    else if i.op = 13 ∨ i.op = 16 then decide (0 ≤ i.b ∧ i.b < cs.length)
    else if i.op = 17 then decide (0 ≤ i.c ∧ i.c < cs.length)
    else if i.op = 19 then decide (1 ≤ i.b ∧ i.b ≤ 3) && regB regs i.a i.b
    else if i.op = 23 then decide (1 ≤ i.b ∧ i.b ≤ 2) && regB regs i.a i.b
    else if i.op = 20 then (if ret = 0 then decide (i.a = 0) else regB regs i.a ret)
    else if i.op = 18 then decide (0 ≤ i.a ∧ i.a < ms.length ∧ i.args.length = (nth me0 ms i.a.toNat).params.length) &&
      (List.range i.args.length).all (fun k => regB regs (nth (0 : Int) i.args k) (nth ty0 (nth me0 ms i.a.toNat).params k).kind)
    else true))

/-- An instruction on registers. -/
def rinB (cs : List Cl) (ms : List Me) (ncode : Nat) (regs ret : Int) (i : In) : Bool :=
  match kindsOf i.op with
  | none => false
  | some (x, y, z) => rfldB regs i.a x && rfldB regs i.b y && rfldB regs i.c z && rrestB cs ms ncode regs ret i

/-- A method on registers. -/
def rmeB (cs : List Cl) (ms : List Me) (m : Me) : Bool :=
  headB cs.length m 2400 && decide (m.stack = 0 ∧ m.locs = 0 ∧ 1 ≤ m.regs ∧ m.regs ≤ 90 ∧ (slotsN m.params : Int) ≤ m.regs) && m.code.all (rinB cs ms m.code.length m.regs m.ret.kind)
/-- A file on registers. -/
def rfmayB (f : Fi) : Bool := mayB f.classes && decide (1 ≤ f.methods.length ∧ f.methods.length ≤ 8) && f.methods.all (rmeB f.classes f.methods)

end Go.Proofs.Ytgiiapenmjollac
