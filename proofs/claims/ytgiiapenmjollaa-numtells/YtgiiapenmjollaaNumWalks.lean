/-
  What package num's functions answer, each by a contract: Narrow, Long, Int, Cmp, Holds.
-/
import Derived.Test.YtgiiapenmjollaaChecked
import Derived.Test.YtgiiapenmjollaaNumDoc
import Derived.Test.YtgiiapenmjollaaNumNarrow
import Derived.WalkKit
import Derived.RowKit3
namespace Go.Proofs.Ytgiiapenmjollaa
open Go.RowKit (wrap32 wrap64)

theorem quotient_any (a b : Int) (w : World) :
    Calls Try.prog 33 #[.int .i64 a, .int .i64 b] w fun e w' => e = .returned (.tuple #[.int .i64 (lngV 4 a b), .bool (lngB 4 b)]) ∧ w' = w := by
  by_cases h : b = 0
  · subst h
    go_enter Try.func33, Try.ntmps33
    go_wp2
    go_ret2
    exact ⟨ret_ib (by simp [lngV]) (by simp [lngB]), rfl⟩
  · go_enter Try.func33, Try.ntmps33
    go_wp2
    go_ret2
    exact ⟨ret_ib (by simp [lngV, h]) (by simp [lngB, h]), rfl⟩

theorem remainder_any (a b : Int) (w : World) :
    Calls Try.prog 34 #[.int .i64 a, .int .i64 b] w fun e w' => e = .returned (.tuple #[.int .i64 (lngV 5 a b), .bool (lngB 5 b)]) ∧ w' = w := by
  by_cases h : b = 0
  · subst h
    go_enter Try.func34, Try.ntmps34
    go_wp2
    go_ret2
    exact ⟨ret_ib (by simp [lngV]) (by simp [lngB]), rfl⟩
  · go_enter Try.func34, Try.ntmps34
    go_wp2
    go_ret2
    exact ⟨ret_ib (by simp [lngV, h]) (by simp [lngB, h]), rfl⟩

theorem long_any (op a b : Int) (w : World) :
    Calls Try.prog 12 #[.int .i64 op, .int .i64 a, .int .i64 b] w fun e w' => e = .returned (.tuple #[.int .i64 (lngV op a b), .bool (lngB op b)]) ∧ w' = w := by
  by_cases h1 : op = 1
  · subst h1
    go_enter Try.func12, Try.ntmps12
    go_wp2
    go_ret2
    exact ⟨ret_ib (by simp [lngV]) (by simp [lngB]), rfl⟩
  by_cases h2 : op = 2
  · subst h2
    go_enter Try.func12, Try.ntmps12
    go_wp2
    go_ret2
    exact ⟨ret_ib (by simp [lngV]) (by simp [lngB]), rfl⟩
  by_cases h3 : op = 3
  · subst h3
    go_enter Try.func12, Try.ntmps12
    go_wp2
    go_ret2
    exact ⟨ret_ib (by simp [lngV]) (by simp [lngB]), rfl⟩
  by_cases h4 : op = 4
  · subst h4
    go_enter Try.func12, Try.ntmps12
    go_wp2_with (go_at_call 33; refine (quotient_any _ _ _).mono ?_; rintro e w' ⟨rfl, rfl⟩)
    go_ret2
    exact ⟨rfl, rfl⟩
  by_cases h5 : op = 5
  · subst h5
    go_enter Try.func12, Try.ntmps12
    go_wp2_with (go_at_call 34; refine (remainder_any _ _ _).mono ?_; rintro e w' ⟨rfl, rfl⟩)
    go_ret2
    exact ⟨rfl, rfl⟩
  by_cases h6 : op = 6
  · subst h6
    go_enter Try.func12, Try.ntmps12
    go_wp2
    go_ret2
    exact ⟨ret_ib (lng_and a b).symm (by simp [lngB]), rfl⟩
  by_cases h7 : op = 7
  · subst h7
    go_enter Try.func12, Try.ntmps12
    go_wp2
    go_ret2
    exact ⟨ret_ib (lng_or a b).symm (by simp [lngB]), rfl⟩
  by_cases h8 : op = 8
  · subst h8
    go_enter Try.func12, Try.ntmps12
    go_wp2
    go_ret2
    exact ⟨ret_ib (lng_xor a b).symm (by simp [lngB]), rfl⟩
  have e1 : lngV op a b = 0 := by simp [lngV, h1, h2, h3, h4, h5, h6, h7, h8]
  have e2 : lngB op b = false := by simp only [lngB, decide_eq_false_iff_not]; omega
  rw [e1, e2]
  clear e1 e2
  go_enter Try.func12, Try.ntmps12
  go_wp2
  go_ret2
  exact ⟨rfl, rfl⟩

theorem int_any (op a b : Int) (w : World) :
    Calls Try.prog 11 #[.int .i64 op, .int .i64 a, .int .i64 b] w fun e w' => e = .returned (.tuple #[.int .i64 (wrap32 (lngV op (wrap32 a) (wrap32 b))), .bool (lngB op (wrap32 b))]) ∧ w' = w := by
  go_enter Try.func11, Try.ntmps11
  go_wp2_with (first | (go_at_call 15; refine (narrow_any _ _).mono ?_; rintro e w' ⟨rfl, rfl⟩) | (go_at_call 12; refine (long_any _ _ _ _).mono ?_; rintro e w' ⟨rfl, rfl⟩))
  go_ret2
  exact ⟨rfl, rfl⟩

theorem cmp_any (a b : Int) (w : World) :
    Calls Try.prog 16 #[.int .i64 a, .int .i64 b] w fun e w' => e = .returned (.int .i64 (cmpV a b)) ∧ w' = w := by
  unfold cmpV
  by_cases h : a < b
  · rw [if_pos h]
    go_enter Try.func16, Try.ntmps16
    go_wp2
    go_ret
    exact ⟨rfl, rfl⟩
  by_cases h' : b < a
  · rw [if_neg h, if_pos h']
    go_enter Try.func16, Try.ntmps16
    go_wp2
    go_ret
    exact ⟨rfl, rfl⟩
  · rw [if_neg h, if_neg h']
    go_enter Try.func16, Try.ntmps16
    go_wp2
    go_ret
    exact ⟨rfl, rfl⟩

end Go.Proofs.Ytgiiapenmjollaa
