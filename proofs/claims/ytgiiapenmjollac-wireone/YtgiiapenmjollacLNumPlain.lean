/-
  The plain arithmetic of ints and longs: what goes round at 32 and at 64 bits, a quotient and what is left over, and a number's bits, one by one.
-/
import Derived.WalkKit
namespace Go.Proofs.Ytgiiapenmjollac
open Go.RowKit (wrap32 wrap64)

theorem ret_i {k : IntKind} {a b : Int} (h : a = b) : Ending.returned (.int k a) = .returned (.int k b) := by rw [h]
theorem w64_w32 (a : Int) : wrap64 (wrap32 a) = wrap32 a := by unfold wrap64 wrap32; omega
/-! ### the document's own way to narrow -/
/-! ### a number's bits -/
/-! ### what the operations make -/
end Go.Proofs.Ytgiiapenmjollac
