/-
  What the document says of an instruction on a stack: the last ones, and all.
-/
import Derived.Test.YtgiiapenmjollacLRefIns
namespace Go.Proofs.Ytgiiapenmjollac
open Go.RowKit
set_option linter.unusedVariables false
set_option linter.unusedSimpArgs false

end Go.Proofs.Ytgiiapenmjollac
