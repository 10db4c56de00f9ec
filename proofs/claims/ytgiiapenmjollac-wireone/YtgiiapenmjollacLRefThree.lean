/-
  What the document's own answers for files on a stack are: small ones.
-/
import Derived.Test.YtgiiapenmjollacChecked
import Derived.Test.YtgiiapenmjollacLData
import Derived.Test.YtgiiapenmjollacLRefTwo
import Derived.Test.YtgiiapenmjollacLFormPlain
import Derived.Test.YtgiiapenmjollacLFut
import Derived.Handy
namespace Go.Proofs.Ytgiiapenmjollac
open Go.RowKit

end Go.Proofs.Ytgiiapenmjollac
