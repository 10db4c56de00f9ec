/-
  An instruction on a stack, field by field: plain facts.
-/
import Derived.Test.YtgiiapenmjollacLFormPlain
namespace Go.Proofs.Ytgiiapenmjollac
open Go.RowKit

def widI (k : Int) : Int := if k = 0 then 0 else if k = 2 then 2 else 1
theorem widI_bounds (k : Int) : 0 ≤ widI k ∧ widI k ≤ 2 := by unfold widI; split <;> (try split) <;> omega
/-- May its A be? -/
def aB (nc nm ncode : Nat) (locs : Int) (i : In) : Bool :=
  if i.op = 4 ∨ i.op = 5 then decide (0 ≤ i.a ∧ i.a ≤ locs - widI i.b)
  else if i.op = 6 ∨ i.op = 7 then decide (1 ≤ i.a ∧ i.a ≤ 8)
  else if i.op = 11 ∨ i.op = 12 ∨ i.op = 13 then decide (0 ≤ i.a ∧ i.a < ncode)
  else if i.op = 14 ∨ i.op = 15 ∨ i.op = 16 ∨ i.op = 17 ∨ i.op = 18 then decide (0 ≤ i.a ∧ i.a < nc)
  else if i.op = 19 then decide (0 ≤ i.a ∧ i.a < nm)
  else if i.op = 24 then decide (1 ≤ i.a ∧ i.a ≤ 2)
  else decide (i.a = 0)
/-- Has the class the field? -/
def fieldB (cs : List Cl) (c k : Int) : Bool := decide (0 ≤ c ∧ c < cs.length ∧ 0 ≤ k ∧ k < (nth cl0 cs c.toNat).fields.length)
/-- May its B be? -/
def bB (cs : List Cl) (i : In) : Bool :=
  if i.op = 4 ∨ i.op = 5 then decide (1 ≤ i.b ∧ i.b ≤ 3)
  else if i.op = 12 then decide (1 ≤ i.b ∧ i.b ≤ 4)
  else if i.op = 15 ∨ i.op = 16 then fieldB cs i.a i.b
  else decide (i.b = 0)
/-- May its N be? -/
def nB (i : In) : Bool :=
  if i.op = 1 then decide (-2147483648 ≤ i.n ∧ i.n ≤ 2147483647)
  else if i.op = 2 then true
  else decide (i.n = 0)

theorem sin_fields (cs : List Cl) (nm ncode : Nat) (locs : Int) (i : In) :
    sinB cs nm ncode locs i = (decide (1 ≤ i.op ∧ i.op ≤ 25) && (aB cs.length nm ncode locs i && (bB cs i && (decide (i.c = 0) && (nB i && decide (i.args.length = 0)))))) := by
  obtain ⟨op, a, b, c, n, args⟩ := i
  by_cases h : 1 ≤ op ∧ op ≤ 25
  · have : op = 1 ∨ op = 2 ∨ op = 3 ∨ op = 4 ∨ op = 5 ∨ op = 6 ∨ op = 7 ∨ op = 8 ∨ op = 9 ∨ op = 10 ∨ op = 11 ∨ op = 12 ∨ op = 13 ∨ op = 14 ∨ op = 15 ∨ op = 16 ∨ op = 17 ∨ op = 18 ∨ op = 19 ∨ op = 20 ∨ op = 21 ∨ op = 22 ∨ op = 23 ∨ op = 24 ∨ op = 25 := by omega
    rcases this with rfl | rfl | rfl | rfl | rfl | rfl | rfl | rfl | rfl | rfl | rfl | rfl | rfl | rfl | rfl | rfl | rfl | rfl | rfl | rfl | rfl | rfl | rfl | rfl | rfl
    all_goals
      unfold sinB aB bB nB fieldB widI
      dsimp only
      generalize args.length = L
      rw [Bool.eq_iff_iff]
      simp
      try (repeat' split) <;> omega
  · have e : decide (1 ≤ op ∧ op ≤ 25) = false := decide_eq_false h
    have e' : decide (1 ≤ (In.mk op a b c n args).op ∧ (In.mk op a b c n args).op ≤ 25) = false := e
    rw [e', Bool.false_and]
    unfold sinB
    dsimp only
    rw [if_neg (by omega), if_neg (by omega), if_neg (by omega), if_neg (by omega), if_neg (by omega), if_neg (by omega), if_neg (by omega), if_neg (by omega), if_neg (by omega), if_neg (by omega), if_neg (by omega)]
    simp

end Go.Proofs.Ytgiiapenmjollac
