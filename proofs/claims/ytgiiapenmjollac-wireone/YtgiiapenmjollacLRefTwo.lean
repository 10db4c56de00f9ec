/-
  What the document's own answers for classes are, each by a contract.
-/
import Derived.Test.YtgiiapenmjollacChecked
import Derived.Test.YtgiiapenmjollacLData
import Derived.Handy
namespace Go.Proofs.Ytgiiapenmjollac
open Go.RowKit

theorem ret_bool {x y : Bool} (h : x = y) : Ending.returned (.bool x) = .returned (.bool y) := by rw [h]

end Go.Proofs.Ytgiiapenmjollac
