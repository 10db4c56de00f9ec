import Derived.Test.YtgiiapenmjollabGreatRlbh
namespace Go.Proofs.YtgiiapenmjollabGreat
set_option linter.all false
set_option maxHeartbeats 40000000
set_option maxRecDepth 100000
open Go.RowKit


end Go.Proofs.YtgiiapenmjollabGreat
