import Derived.Test.YtfncnhlihmnkiabGreatRows
import Derived.ProofKit
import Derived.Carry
namespace Go.Proofs.YtfncnhlihmnkiabGreat
open Go.ChangeShapes Go.WideShapes Go.ChangeAt Go.RowKit
theorem ss_hfn:Tryz.pinned.checked.prog.funcNamed Rows.rcheckSafeRow.func=some 5:=by kernel_rfl
theorem ss_closed:joinedFacts Tryz.pinned.checked.prog 5 Tryz.f5 Rows.rcheckSafeSpec Rows.rcheckSafeRow=true:=by kernel_rfl
end Go.Proofs.YtfncnhlihmnkiabGreat
