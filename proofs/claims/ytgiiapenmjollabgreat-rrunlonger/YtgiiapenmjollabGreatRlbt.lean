/-
  RrunLonger: what the kernel is to reckon, as a text of its own (in one text with the rest it asks for more than 12 GB).
-/
import Derived.Test.YtgiiapenmjollabGreatRows
import Derived.ProofKit
import Derived.Carry
namespace Go.Proofs.YtgiiapenmjollabGreat
open Go.ChangeShapes Go.WideShapes Go.ChangeAt Go.RowKit
theorem rl_hfn : Tryz.pinned.checked.prog.funcNamed Rows.rrunLongerRow.func = some 3 := by kernel_rfl
theorem rl_closed : joinedFacts Tryz.pinned.checked.prog 3 Tryz.f3 Rows.rrunLongerSpec Rows.rrunLongerRow = true := by kernel_rfl
end Go.Proofs.YtgiiapenmjollabGreat
