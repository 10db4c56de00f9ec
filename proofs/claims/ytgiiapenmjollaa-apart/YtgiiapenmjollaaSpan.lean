/-
  Package span: each function by a contract.
-/
import Derived.Test.YtgiiapenmjollaaChecked
import Derived.Test.YtgiiapenmjollaaData
import Derived.Test.YtgiiapenmjollaaRefTwo
import Derived.Handy
namespace Go.Proofs.Ytgiiapenmjollaa
open Go.RowKit

theorem numbers_any (x n : Int) (w : World) :
    Calls Try.prog 58 #[.int .i64 x, .int .i64 n] w fun e w' => e = .returned (.bool (decide (0 ≤ x ∧ x < n))) ∧ w' = w := by
  go_enter Try.func58, Try.ntmps58
  go_wp2
  all_goals
    go_ret
    refine ⟨ret_bool ?_, rfl⟩
    rw [Bool.eq_iff_iff]; simp; try omega

theorem span_any (n lo hi : Int) (w : World) :
    Calls Try.prog 37 #[.int .i64 n, .int .i64 lo, .int .i64 hi] w fun e w' => e = .returned (.bool (decide (lo ≤ n ∧ n ≤ hi))) ∧ w' = w := by
  go_enter Try.func37, Try.ntmps37
  go_wp2
  all_goals
    go_ret
    refine ⟨ret_bool ?_, rfl⟩
    rw [Bool.eq_iff_iff]; simp; try omega

end Go.Proofs.Ytgiiapenmjollaa
