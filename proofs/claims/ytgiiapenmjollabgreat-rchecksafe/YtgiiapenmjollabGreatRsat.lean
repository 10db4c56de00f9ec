import Derived.Test.YtgiiapenmjollabGreatRsac
namespace Go.Proofs.YtgiiapenmjollabGreat
set_option linter.all false
set_option maxHeartbeats 40000000
set_option maxRecDepth 100000
open Go.RowKit
def InBox (w:World) (b off:Nat) (i:In) (Q:Option Addr) (q:Nat):Prop :=
 w.cell? ⟨b,off,none⟩=some (.int .i64 i.op)∧w.cell? ⟨b,off+1,none⟩=some (.int .i64 i.a)∧w.cell? ⟨b,off+2,none⟩=some (.int .i64 i.b)
  ∧ w.cell? ⟨b,off+3,none⟩=some (.int .i64 i.c)∧w.cell? ⟨b,off+4,none⟩=some (.int .i64 i.n)∧w.cell? ⟨b,off+5,none⟩=some (.slice Q i.args.length q)
abbrev inV (i:In) (Q:Option Addr) (q:Nat):Value:=.agg #[.int .i64 i.op,.int .i64 i.a,.int .i64 i.b,.int .i64 i.c,.int .i64 i.n,.slice Q i.args.length q]
end Go.Proofs.YtgiiapenmjollabGreat
