/-
  A row of bytes that a call builds: what it holds, what else lies stays.
-/
import Derived.Test.YtgiiapenmjollacChecked
import Derived.Test.YtgiiapenmjollacLWirePlain
import Derived.Deep.AppendLies
import Derived.Handy
namespace Go.Proofs.Ytgiiapenmjollac
open Go.RowKit

theorem hidW {p : Prop} (h : p) : Hid p := h
def bCs (l : List Int) : List Value := l.map (Value.int .u8)
theorem bCs_app (a b : List Int) : bCs (a ++ b) = bCs a ++ bCs b := by simp [bCs]
/-- The row v holds the bytes l; it lies beyond what lay in W0, and all that lay there lies. -/
structure Rw (W0 w : World) (v : Value) (l : List Int) : Prop where
  row : w.ownsRow W0.heap.size 5 1 v l.length (bCs l)
  bl : Bl W0 w
/-- All lies as it lay but the row; the row lies where it lay, or anew. -/
structure Out (w w' : World) (v v' : Value) : Prop where
  gr : w.grownBy w' v.ownBlock
  own : v'.ownBlock = v.ownBlock ∨ ∃ g, v'.ownBlock = some g ∧ w.heap.size ≤ g
def PQ (W0 w : World) (v : Value) (l : List Int) (e : Ending) (w' : World) : Prop := ∃ v', e = .returned v' ∧ Rw W0 w' v' l ∧ Out w w' v v'

theorem Rw.lt {W0 w : World} {v : Value} {l : List Int} (h : Rw W0 w v l) : ∀ g, v.ownBlock = some g → W0.heap.size ≤ g ∧ g < w.heap.size := h.row.lt
theorem Out.refl (w : World) (v : Value) : Out w w v v := ⟨⟨rfl, rfl, rfl, Nat.le_refl _, fun _ _ _ => rfl⟩, Or.inl rfl⟩
theorem Out.trans {a b c : World} {x y z : Value} (h : Out a b x y) (k : Out b c y z) : Out a c x z := by
  refine ⟨⟨k.gr.os.trans h.gr.os, k.gr.tape.trans h.gr.tape, k.gr.output.trans h.gr.output, Nat.le_trans h.gr.size k.gr.size, fun i hi hne => ?_⟩, ?_⟩
  · refine (k.gr.block i (Nat.lt_of_lt_of_le hi h.gr.size) ?_).trans (h.gr.block i hi hne)
    rcases h.own with e | ⟨g, e, hg⟩
    · rw [e]; exact hne
    · rw [e]; intro e2; injection e2 with e2; omega
  · rcases k.own with e | ⟨g, e, hg⟩
    · rw [e]; exact h.own
    · exact Or.inr ⟨g, e, Nat.le_trans h.gr.size hg⟩
theorem Out.alloc {a w : World} {x y : Value} (h : Out a w x y) (o : Obj) : Out a (w.alloc o) x y := h.trans ⟨World.grownBy_alloc w o _, Or.inl rfl⟩
theorem Out.drew {a w : World} {x y : Value} (h : Out a w x y) : Out a w.drew x y := h.trans ⟨⟨rfl, rfl, rfl, Nat.le_refl _, fun _ _ _ => rfl⟩, Or.inl rfl⟩
theorem Out.cell {w w' : World} {v v' : Value} (h : Out w w' v v') {p o : Nat} {x : Value} (hc : w.cell? ⟨p, o, none⟩ = some x) (hne : v.ownBlock ≠ some p) : w'.cell? ⟨p, o, none⟩ = some x :=
  h.gr.cell hc (fun e => hne e.symm)
theorem Rw.alloc {W0 w : World} {v : Value} {l : List Int} (h : Rw W0 w v l) (o : Obj) : Rw W0 (w.alloc o) v l := ⟨h.row.alloc o, h.bl.alloc o⟩
theorem Rw.drew {W0 w : World} {v : Value} {l : List Int} (h : Rw W0 w v l) : Rw W0 w.drew v l := ⟨⟨h.row.1, h.row.2⟩, h.bl.drew⟩
theorem Rw.far {W0 w : World} {v : Value} {l : List Int} (h : Rw W0 w v l) {p : Nat} (hp : w.heap.size ≤ p ∨ p < W0.heap.size) : v.ownBlock ≠ some p := by
  intro e
  have := h.lt p e
  omega
/-- Behind an append. -/
theorem Rw.grow {W0 w w1 : World} {v : Value} {l : List Int} {g cap : Nat} {a : List Int} {n : Nat} (h : Rw W0 w v l) (hn : n = l.length + a.length)
    (hown : w1.ownsRow W0.heap.size 5 1 (.slice (some ⟨g, 0, none⟩) n cap) n (bCs l ++ bCs a)) (hgr : w.grownBy w1 v.ownBlock) (hat : v.ownBlock = some g ∨ g = w.heap.size) :
    Rw W0 w1 (.slice (some ⟨g, 0, none⟩) n cap) (l ++ a) ∧ Out w w1 v (.slice (some ⟨g, 0, none⟩) n cap) := by
  refine ⟨⟨?_, ?_⟩, hgr, ?_⟩
  · rw [bCs_app, List.length_append, ← hn]; exact hown
  · refine ⟨hgr.os.trans h.bl.os, hgr.tape.trans h.bl.tape, hgr.output.trans h.bl.output, Nat.le_trans h.bl.size hgr.size, fun k hk => ?_⟩
    refine (hgr.block k (Nat.lt_of_lt_of_le hk h.bl.size) ?_).trans (h.bl.block k hk)
    intro e
    have := h.lt k e.symm
    omega
  · rcases hat with e | e
    · exact Or.inl e.symm
    · exact Or.inr ⟨g, rfl, by omega⟩

end Go.Proofs.Ytgiiapenmjollac
