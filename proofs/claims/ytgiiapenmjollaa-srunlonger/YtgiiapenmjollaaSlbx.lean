import Derived.Test.YtgiiapenmjollaaSlbv
namespace Go.Proofs.Ytgiiapenmjollaa
set_option linter.all false
set_option maxHeartbeats 40000000
open Go.RowKit

end Go.Proofs.Ytgiiapenmjollaa
