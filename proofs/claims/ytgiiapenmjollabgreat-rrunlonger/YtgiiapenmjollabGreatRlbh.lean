import Derived.Test.YtgiiapenmjollabGreatRlad
namespace Go.Proofs.YtgiiapenmjollabGreat
set_option linter.all false
set_option maxHeartbeats 40000000
set_option maxRecDepth 100000
open Go.RowKit
abbrev inV (i:In) (Q:Option Addr) (q:Nat):Value:=.agg #[.int .i64 i.op,.int .i64 i.a,.int .i64 i.b,.int .i64 i.c,.int .i64 i.n,.slice Q i.args.length q]
end Go.Proofs.YtgiiapenmjollabGreat
