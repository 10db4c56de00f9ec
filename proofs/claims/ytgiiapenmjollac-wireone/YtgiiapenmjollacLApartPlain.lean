/-
  No file may be on a stack and on registers, both: a plain fact.
-/
import Derived.Test.YtgiiapenmjollacLRegPlain
namespace Go.Proofs.Ytgiiapenmjollac
open Go.RowKit

end Go.Proofs.Ytgiiapenmjollac
