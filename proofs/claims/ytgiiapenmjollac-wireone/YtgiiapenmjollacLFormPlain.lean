/-
  Which files on a stack may be, over plain lists.
-/
import Derived.Test.YtgiiapenmjollacLData
namespace Go.Proofs.Ytgiiapenmjollac
open Go.RowKit

/-- How many slots types take. -/
def slotsN : List Ty → Nat
  | [] => 0
  | t :: l => (if t.kind = 2 then 2 else 1) + slotsN l
def hdB (nc n : Nat) (h : Hd) : Bool := decide (0 ≤ h.fr ∧ h.fr < h.til ∧ h.til ≤ n ∧ 0 ≤ h.pc ∧ h.pc < n ∧ 0 ≤ h.cls ∧ h.cls < nc)
def retB (nc : Nat) (t : Ty) : Bool := decide (t.kind = 0 ∧ t.cls = 0) || tyB nc t
/-- What both forms have in common of a method. -/
def headB (nc : Nat) (m : Me) (most : Int) : Bool :=
  decide (m.params.length ≤ 4 ∧ m.hands.length ≤ 8 ∧ 1 ≤ m.code.length ∧ (m.code.length : Int) ≤ most) && m.params.all (tyB nc) && m.hands.all (hdB nc m.code.length) && retB nc m.ret

/-- An instruction on a stack. -/
def sinB (cs : List Cl) (nm ncode : Nat) (locs : Int) (i : In) : Bool :=
  decide (i.c = 0 ∧ i.args.length = 0) &&
  (if i.op = 1 then decide (i.a = 0 ∧ i.b = 0 ∧ -2147483648 ≤ i.n ∧ i.n ≤ 2147483647)
  else if i.op = 2 then decide (i.a = 0 ∧ i.b = 0)
  else decide (i.n = 0) &&
    (if i.op = 4 ∨ i.op = 5 then decide ((i.b = 2 ∧ 0 ≤ i.a ∧ i.a ≤ locs - 2) ∨ ((i.b = 1 ∨ i.b = 3) ∧ 0 ≤ i.a ∧ i.a < locs))
    else if i.op = 12 then decide (0 ≤ i.a ∧ i.a < ncode ∧ 1 ≤ i.b ∧ i.b ≤ 4)
    else if i.op = 15 ∨ i.op = 16 then decide (0 ≤ i.a ∧ i.a < cs.length ∧ 0 ≤ i.b ∧ i.b < (nth cl0 cs i.a.toNat).fields.length)
    else decide (i.b = 0) &&
      (if i.op = 3 ∨ i.op = 8 ∨ i.op = 9 ∨ i.op = 10 ∨ i.op = 20 ∨ i.op = 21 ∨ i.op = 22 ∨ i.op = 23 ∨ i.op = 25 then decide (i.a = 0)
      else if i.op = 6 ∨ i.op = 7 then decide (1 ≤ i.a ∧ i.a ≤ 8)
      else if i.op = 11 ∨ i.op = 13 then decide (0 ≤ i.a ∧ i.a < ncode)
      else if i.op = 14 ∨ i.op = 17 ∨ i.op = 18 then decide (0 ≤ i.a ∧ i.a < cs.length)
      else if i.op = 19 then decide (0 ≤ i.a ∧ i.a < nm)
      else if i.op = 24 then decide (1 ≤ i.a ∧ i.a ≤ 2)
      else false)))

/-- A method on a stack, among classes and so many methods. -/
def smeB (cs : List Cl) (nm : Nat) (m : Me) : Bool :=
  headB cs.length m 400 && decide (m.regs = 0 ∧ 0 ≤ m.stack ∧ m.stack ≤ 30 ∧ (slotsN m.params : Int) ≤ m.locs ∧ m.locs ≤ 60) && m.code.all (sinB cs nm m.code.length m.locs)
/-- A file on a stack. -/
def smayB (f : Fi) : Bool := mayB f.classes && decide (1 ≤ f.methods.length ∧ f.methods.length ≤ 8) && f.methods.all (smeB f.classes f.methods.length)

theorem all_bad {α : Type} {d : α} {p : α → Bool} {l : List α} {k : Nat} (hk : k < l.length) (h : p (nth d l k) = false) : l.all p = false := by
  rw [List.all_eq_false]
  exact ⟨nth d l k, nth_mem hk, by rw [h]; decide⟩
theorem all_good {α : Type} {d : α} {p : α → Bool} {l : List α} (h : ∀ k, k < l.length → p (nth d l k) = true) : l.all p = true := by
  rw [List.all_eq_true]
  intro x hx
  obtain ⟨k, hk, rfl⟩ := List.getElem_of_mem hx
  rw [← nth_get (d := d) hk]; exact h k hk

theorem slotsN_le (l : List Ty) : slotsN l ≤ 2 * l.length := by
  induction l with
  | nil => simp [slotsN]
  | cons t l ih => simp only [slotsN, List.length_cons]; split <;> omega
theorem slotsN_take (l : List Ty) (k : Nat) (h : k < l.length) : slotsN (l.take (k + 1)) = slotsN (l.take k) + (if (nth ty0 l k).kind = 2 then 2 else 1) := by
  induction l generalizing k with
  | nil => simp at h
  | cons t l ih =>
    cases k with
    | zero => simp [slotsN, nth]
    | succ k =>
      have := ih k (by simpa using h)
      have e : nth ty0 (t :: l) (k + 1) = nth ty0 l k := by simp [nth]
      rw [e, List.take_succ_cons, List.take_succ_cons, slotsN, slotsN, this]; omega

end Go.Proofs.Ytgiiapenmjollac
