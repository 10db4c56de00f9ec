/-
  What the document says of an instruction on a stack.
-/
import Derived.Test.YtgiiapenmjollacLRefHead
namespace Go.Proofs.Ytgiiapenmjollac
open Go.RowKit
set_option linter.unusedVariables false
set_option linter.unusedSimpArgs false

/-- An instruction as a value. -/
abbrev inV (i : In) (Q : Option Addr) (q : Nat) : Value := .agg #[.int .i64 i.op, .int .i64 i.a, .int .i64 i.b, .int .i64 i.c, .int .i64 i.n, .slice Q i.args.length q]

end Go.Proofs.Ytgiiapenmjollac
