/-
  What num.Narrow answers, by a contract.
-/
import Derived.Test.YtgiiapenmjollacChecked
import Derived.Test.YtgiiapenmjollacLNumPlain
import Derived.WalkKit
import Derived.RowKit3
namespace Go.Proofs.Ytgiiapenmjollac
open Go.RowKit (wrap32 wrap64)

theorem narrow_any (a : Int) (w : World) :
    Calls Try.prog 53 #[.int .i64 a] w fun e w' => e = .returned (.int .i64 (wrap32 a)) ∧ w' = w := by
  go_enter Try.func53, Try.ntmps53
  go_wp2
  go_ret
  exact ⟨ret_i (w64_w32 a), rfl⟩

end Go.Proofs.Ytgiiapenmjollac
