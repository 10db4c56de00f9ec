/-
  Package rform: the numbers of an instruction that are no registers, by a contract.
-/
import Derived.Test.YtgiiapenmjollacLRformHold
import Derived.Test.YtgiiapenmjollacLSformIns
namespace Go.Proofs.Ytgiiapenmjollac
open Go.RowKit
set_option linter.unusedVariables false
set_option linter.unusedSimpArgs false

set_option maxRecDepth 100000 in
set_option maxHeartbeats 8000000 in
theorem pnum_any (i : In) (nc nm : Nat) (A B : Option Addr) (x y : Nat) (m : Me) (P C K : Option Addr) (p c k : Nat) (Q : Option Addr) (q : Nat) (w : World) (hnc : nc ≤ maxLen) (hcode : m.code.length ≤ maxLen) :
    Calls Try.prog 49 #[rmV m P C K p c k nc nm A B x y, riV i Q q] w fun e w' => e = .returned (.bool (pnumB nc m.code.length i)) ∧ Bl w w' := by
  obtain ⟨op, a, b, d, n, args⟩ := i
  unfold maxLen at hnc hcode
  have HAL : Hid (∀ o o', Bl w ((w.alloc o).alloc o')) := fun o o' => ((Bl.refl _).alloc _).alloc _
  have hop : op = 1 ∨ op = 5 ∨ op = 6 ∨ op = 10 ∨ op = 12 ∨ op = 11 ∨ op = 13 ∨ op = 16 ∨ op = 17 ∨ op = 23 ∨ (op ≠ 1 ∧ op ≠ 5 ∧ op ≠ 6 ∧ op ≠ 10 ∧ op ≠ 12 ∧ op ≠ 11 ∧ op ≠ 13 ∧ op ≠ 16 ∧ op ≠ 17 ∧ op ≠ 23) := by omega
  rcases hop with rfl | rfl | rfl | rfl | rfl | rfl | rfl | rfl | rfl | rfl | hop
  · have hb : pnumB nc m.code.length ⟨1, a, b, d, n, args⟩ = (n == wrap32 n) := by rw [narrow_eq]; rfl
    have y4 := fut_cell (rmi_i w m P C K p c k nc nm A B x y ⟨1, a, b, d, n, args⟩ Q q).i4
    dsimp only at y4
    rw [hb]
    obtain ⟨N, hN⟩ : ∃ N, wrap32 n = N := ⟨_, rfl⟩
    rw [hN]
    clear hb
    go_enter Try.func49, Try.ntmps49
    go_wp2
    refine wp_region_fut (by kernel_rfl) (by kernel_rfl) fun hne => ?_
    repeat (go_big_quiet_step ((go_at_call 53; exact Calls.fut_same_eq _ (narrow_any _ _) (congrArg (Value.int .i64) hN))))
    refine wpQuiet_nil ?_
    rintro _ ⟨⟨w2, hw2⟩, rfl⟩
    go_wp2
    go_ret
    exact ⟨ret_bool rfl, (HAL.out _ _).trans hw2⟩
  · go_enter Try.func49, Try.ntmps49
    go_wp2_with (first
      | (go_at_call 58; refine (spanL_any _ _ _ _).mono ?_; rintro e w1 ⟨rfl, rfl⟩)
      | (go_at_call 13; refine (span_any _ _ _ _).mono ?_; rintro e w1 ⟨rfl, rfl⟩)
      | (go_at_call 39; refine (numbers_any _ _ _).mono ?_; rintro e w1 ⟨rfl, rfl⟩))
    go_ret
    exact ⟨ret_bool (by simp [pnumB]), HAL.out _ _⟩
  · go_enter Try.func49, Try.ntmps49
    go_wp2_with (first
      | (go_at_call 58; refine (spanL_any _ _ _ _).mono ?_; rintro e w1 ⟨rfl, rfl⟩)
      | (go_at_call 13; refine (span_any _ _ _ _).mono ?_; rintro e w1 ⟨rfl, rfl⟩)
      | (go_at_call 39; refine (numbers_any _ _ _).mono ?_; rintro e w1 ⟨rfl, rfl⟩))
    go_ret
    exact ⟨ret_bool (by simp [pnumB]), HAL.out _ _⟩
  · go_enter Try.func49, Try.ntmps49
    go_wp2_with (first
      | (go_at_call 58; refine (spanL_any _ _ _ _).mono ?_; rintro e w1 ⟨rfl, rfl⟩)
      | (go_at_call 13; refine (span_any _ _ _ _).mono ?_; rintro e w1 ⟨rfl, rfl⟩)
      | (go_at_call 39; refine (numbers_any _ _ _).mono ?_; rintro e w1 ⟨rfl, rfl⟩))
    go_ret
    exact ⟨ret_bool (by simp [pnumB]), HAL.out _ _⟩
  · go_enter Try.func49, Try.ntmps49
    go_wp2_with (first
      | (go_at_call 58; refine (spanL_any _ _ _ _).mono ?_; rintro e w1 ⟨rfl, rfl⟩)
      | (go_at_call 13; refine (span_any _ _ _ _).mono ?_; rintro e w1 ⟨rfl, rfl⟩)
      | (go_at_call 39; refine (numbers_any _ _ _).mono ?_; rintro e w1 ⟨rfl, rfl⟩))
    go_ret
    exact ⟨ret_bool (by simp [pnumB]), HAL.out _ _⟩
  · have hb : pnumB nc m.code.length ⟨11, a, b, d, n, args⟩ = (decide (0 ≤ a ∧ a < (m.code.length : Int)) && decide (1 ≤ b ∧ b ≤ 4)) := rfl
    rw [hb]
    obtain ⟨R, hR⟩ : ∃ R, decide (0 ≤ a ∧ a < (m.code.length : Int)) = R := ⟨_, rfl⟩
    obtain ⟨S, hS⟩ : ∃ S, decide (1 ≤ b ∧ b ≤ 4) = S := ⟨_, rfl⟩
    rw [hR, hS]
    clear hb
    cases R
    all_goals
      go_enter Try.func49, Try.ntmps49
      go_wp2_with (first
        | (go_at_call 13; refine (span_any _ _ _ _).mono ?_; rintro e w1 ⟨he, hw1⟩; rw [hS] at he; subst he; rw [hw1]; clear hw1 w1)
        | (go_at_call 39; refine (numbers_any _ _ _).mono ?_; rintro e w1 ⟨he, hw1⟩; rw [hR] at he; subst he; rw [hw1]; clear hw1 w1))
      go_ret
      exact ⟨rfl, HAL.out _ _⟩
  · go_enter Try.func49, Try.ntmps49
    go_wp2_with (first
      | (go_at_call 58; refine (spanL_any _ _ _ _).mono ?_; rintro e w1 ⟨rfl, rfl⟩)
      | (go_at_call 13; refine (span_any _ _ _ _).mono ?_; rintro e w1 ⟨rfl, rfl⟩)
      | (go_at_call 39; refine (numbers_any _ _ _).mono ?_; rintro e w1 ⟨rfl, rfl⟩))
    go_ret
    exact ⟨ret_bool (by simp [pnumB]), HAL.out _ _⟩
  · go_enter Try.func49, Try.ntmps49
    go_wp2_with (first
      | (go_at_call 58; refine (spanL_any _ _ _ _).mono ?_; rintro e w1 ⟨rfl, rfl⟩)
      | (go_at_call 13; refine (span_any _ _ _ _).mono ?_; rintro e w1 ⟨rfl, rfl⟩)
      | (go_at_call 39; refine (numbers_any _ _ _).mono ?_; rintro e w1 ⟨rfl, rfl⟩))
    go_ret
    exact ⟨ret_bool (by simp [pnumB]), HAL.out _ _⟩
  · go_enter Try.func49, Try.ntmps49
    go_wp2_with (first
      | (go_at_call 58; refine (spanL_any _ _ _ _).mono ?_; rintro e w1 ⟨rfl, rfl⟩)
      | (go_at_call 13; refine (span_any _ _ _ _).mono ?_; rintro e w1 ⟨rfl, rfl⟩)
      | (go_at_call 39; refine (numbers_any _ _ _).mono ?_; rintro e w1 ⟨rfl, rfl⟩))
    go_ret
    exact ⟨ret_bool (by simp [pnumB]), HAL.out _ _⟩
  · have hb : pnumB nc m.code.length ⟨23, a, b, d, n, args⟩ = (b != 3) := by unfold pnumB; rw [Bool.eq_iff_iff]; simp
    rw [hb]
    clear hb
    go_enter Try.func49, Try.ntmps49
    go_wp2
    all_goals
      go_ret
      exact ⟨ret_bool (by simp [*]), HAL.out _ _⟩
  · obtain ⟨h1, h5, h6, h10, h12, h11, h13, h16, h17, h23⟩ := hop
    have z1 : (op == 1) = false := by simp; omega
    have z5 : (op == 5) = false := by simp; omega
    have z6 : (op == 6) = false := by simp; omega
    have z10 : (op == 10) = false := by simp; omega
    have z12 : (op == 12) = false := by simp; omega
    have z11 : (op == 11) = false := by simp; omega
    have z13 : (op == 13) = false := by simp; omega
    have z16 : (op == 16) = false := by simp; omega
    have z17 : (op == 17) = false := by simp; omega
    have z23 : (op == 23) = false := by simp; omega
    have hb : pnumB nc m.code.length ⟨op, a, b, d, n, args⟩ = true := by
      unfold pnumB; dsimp only; rw [if_neg (by omega), if_neg (by omega), if_neg (by omega), if_neg (by omega), if_neg (by omega), if_neg (by omega), if_neg (by omega)]
    rw [hb]
    clear hb h1 h5 h6 h10 h12 h11 h13 h16 h17 h23
    go_enter Try.func49, Try.ntmps49
    go_wp2
    go_ret
    exact ⟨rfl, HAL.out _ _⟩

end Go.Proofs.Ytgiiapenmjollac
