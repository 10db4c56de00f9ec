/-
  Which classes stand above a class, as a plain list; what is below what, and which class both are below: plain facts.
-/
import Derived.Test.YtgiiapenmjollacLData
namespace Go.Proofs.Ytgiiapenmjollac
open Go.RowKit

/-- The number of the class above. -/
def par (l : List Cl) (c : Nat) : Nat := (nth cl0 l c).super.toNat
def upsF (l : List Cl) : Nat → Nat → List Nat
  | 0, _ => []
  | k + 1, c => c :: if c = 0 then [] else upsF l k (par l c)
/-- From a class up to class 0. -/
def ups (l : List Cl) (c : Nat) : List Nat := upsF l (c + 1) c

section
variable {l : List Cl}

/-- j is the greatest class that both are below. -/
def IsJoin (l : List Cl) (c d j : Nat) : Prop := j ∈ ups l c ∧ j ∈ ups l d ∧ ∀ x, x ∈ ups l c → x ∈ ups l d → x ≤ j
theorem IsJoin.one {c d i j : Nat} (h : IsJoin l c d i) (k : IsJoin l c d j) : i = j :=
  Nat.le_antisymm (k.2.2 _ h.1 h.2.1) (h.2.2 _ k.1 k.2.1)
theorem IsJoin.symm {c d i : Nat} (h : IsJoin l c d i) : IsJoin l d c i := ⟨h.2.1, h.1, fun x a b => h.2.2 x b a⟩
theorem most {j : Nat} : ∀ (L : List Nat) (a : Nat), a ≤ j → (∀ x ∈ L, x ≤ j) → (j = a ∨ j ∈ L) → L.foldl max a = j
  | [], a, _, _, h => by
    rcases h with h | h
    · exact h.symm
    · cases h
  | x :: L, a, ha, hL, h => by
    have hx := hL x (by simp)
    refine most L (max a x) (by omega) (fun y hy => hL y (List.mem_cons_of_mem _ hy)) ?_
    rcases h with h | h
    · left; omega
    · rcases List.mem_cons.1 h with h | h
      · left; omega
      · exact Or.inr h
end
end Go.Proofs.Ytgiiapenmjollac
