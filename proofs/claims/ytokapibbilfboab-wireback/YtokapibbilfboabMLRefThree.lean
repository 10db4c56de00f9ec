/-
  What the document's own answers for classes are, each by a contract.
-/
import Derived.Test.YtokapibbilfboabChecked
import Derived.Test.YtokapibbilfboabMLWireGood
import Derived.Handy
import Derived.Test.YtokapibbilfboabMLFut
namespace Go.Proofs.Ytokapibbilfboab
open Go.RowKit

theorem ret_bool {x y : Bool} (h : x = y) : Ending.returned (.bool x) = .returned (.bool y) := by rw [h]

end Go.Proofs.Ytokapibbilfboab
namespace Go.Proofs.Ytokapibbilfboab
open Go.RowKit

end Go.Proofs.Ytokapibbilfboab
