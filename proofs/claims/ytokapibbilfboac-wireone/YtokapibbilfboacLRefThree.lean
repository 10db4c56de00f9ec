/-
  What the document's own answers for files on a stack are: small ones.
-/
import Derived.Test.YtokapibbilfboacChecked
import Derived.Test.YtokapibbilfboacLData
import Derived.Test.YtokapibbilfboacLRefTwo
import Derived.Test.YtokapibbilfboacLFormPlain
import Derived.Test.YtokapibbilfboacLFut
import Derived.Handy
namespace Go.Proofs.Ytokapibbilfboac
open Go.RowKit

end Go.Proofs.Ytokapibbilfboac
