/-
  No file may be on a stack and on registers, both: a plain fact.
-/
import Derived.Test.YtokapibbilfboacLRegPlain
namespace Go.Proofs.Ytokapibbilfboac
open Go.RowKit

end Go.Proofs.Ytokapibbilfboac
