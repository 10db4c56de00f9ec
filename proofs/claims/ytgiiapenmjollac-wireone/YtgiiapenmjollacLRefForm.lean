/-
  Which files on a stack may be, by the document: a contract.
-/
import Derived.Test.YtgiiapenmjollacLRefInsAll
import Derived.Test.YtgiiapenmjollacLHierPlain
namespace Go.Proofs.Ytgiiapenmjollac
open Go.RowKit
set_option linter.unusedVariables false
set_option linter.unusedSimpArgs false

theorem smay_cls {f : Fi} (h : mayB f.classes = false) : smayB f = false := by unfold smayB; rw [h]; rfl
theorem smay_many {f : Fi} (h : ¬ (1 ≤ f.methods.length ∧ f.methods.length ≤ 8)) : smayB f = false := by unfold smayB; rw [decide_eq_false h, Bool.and_false]; rfl
theorem smay_me {f : Fi} {q : Nat} (hq : q < f.methods.length) (h : smeB f.classes f.methods.length (nth me0 f.methods q) = false) : smayB f = false := by
  unfold smayB; rw [all_bad hq h, Bool.and_false]
theorem smay_good {f : Fi} (h0 : mayB f.classes = true) (h : 1 ≤ f.methods.length ∧ f.methods.length ≤ 8)
    (hi : ∀ q, q < f.methods.length → smeB f.classes f.methods.length (nth me0 f.methods q) = true) : smayB f = true := by
  unfold smayB; rw [h0, decide_eq_true h, all_good hi]; rfl
end Go.Proofs.Ytgiiapenmjollac
