/-
  What num.Narrow answers, by a contract.
-/
import Derived.Test.YtgiiapenmjollaaChecked
import Derived.Test.YtgiiapenmjollaaNumPlain
import Derived.WalkKit
import Derived.RowKit3
namespace Go.Proofs.Ytgiiapenmjollaa
open Go.RowKit (wrap32 wrap64)

theorem narrow_any (a : Int) (w : World) :
    Calls Try.prog 15 #[.int .i64 a] w fun e w' => e = .returned (.int .i64 (wrap32 a)) ∧ w' = w := by
  go_enter Try.func15, Try.ntmps15
  go_wp2
  go_ret
  exact ⟨ret_i (w64_w32 a), rfl⟩

end Go.Proofs.Ytgiiapenmjollaa
