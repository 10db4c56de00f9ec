/-
  What the document's own answers for numbers are, each by a contract, said by the same plain functions as package num's; and what Holds answers by its closure.
-/
import Derived.Test.YtgkhjfcfglmpgaaNumWalks
namespace Go.Proofs.Ytgkhjfcfglmpgaa
open Go.RowKit

theorem bit_round (a : Int) (i : Nat) (hlo : -9223372036854775808 ≤ a) (hhi : a ≤ 9223372036854775807) :
    -9223372036854775808 ≤ a / 2 ^ i ∧ a / 2 ^ i ≤ 9223372036854775807 := by
  have hp : (0 : Int) < 2 ^ i := Int.pow_pos (by omega)
  constructor
  · rw [Int.le_ediv_iff_mul_le hp]
    have : (1 : Int) ≤ 2 ^ i := by omega
    have := Int.mul_le_mul_of_nonpos_left (a := (-9223372036854775808 : Int)) (by omega) this
    omega
  · by_cases h : 0 ≤ a
    · have := Int.ediv_le_self (2 ^ i) h; omega
    · have := Int.ediv_neg_of_neg_of_pos (by omega : a < 0) hp; omega

theorem bne_iff' (n : Int) : (n.tmod 2 != 0) = decide (n % 2 = 1) := by
  have := tmod2 n
  by_cases h : n % 2 = 1
  · have h' : n.tmod 2 ≠ 0 := by omega
    simp [h, h']
  · have h' : n.tmod 2 = 0 := by omega
    simp [h, h']

set_option maxHeartbeats 1000000 in
theorem bit_any (a : Int) (k : Nat) (w : World) (hlo : -9223372036854775808 ≤ a) (hhi : a ≤ 9223372036854775807) (hk : k ≤ 64) :
    Calls Try.prog 31 #[.int .i64 a, .int .i64 (k : Int)] w fun e w' => e = .returned (.bool (bitB a k)) ∧ w' = w := by
  go_enter Try.func31, Try.ntmps31
  go_wp2
  go_loop [0, 5] (fun n i => ∃ j : Nat, j ≤ k ∧ i = .int .i64 j ∧ n = .int .i64 (a / 2 ^ j)) (fun _ i => k - (intOf i).toNat)
  case atStart => exact ⟨0, Nat.zero_le _, rfl, by simp⟩
  case round =>
    obtain ⟨j, hj, rfl, rfl⟩ := hrel
    have hb := bit_round a j hlo hhi
    have hs := div_pow_succ a j
    have HS : Hid (a / 2 ^ (j + 1) = a / 2 ^ j / 2) := hs
    clear hs
    have hbit : Hid (bitB a j = decide (a / 2 ^ j % 2 = 1)) := rfl
    obtain ⟨n, hn⟩ : ∃ n, a / 2 ^ j = n := ⟨_, rfl⟩
    rw [hn] at hb HS hbit
    simp only [hn]
    have ht := tmod2 n
    have hh := half_even n
    by_cases hlt : j < k
    · by_cases hneg : n.tmod 2 < 0
      · have h2 := ht.2.1 hneg
        go_wp2
        go_round
        case rel => exact ⟨j + 1, by omega, by go_num, by rw [HS.out, ← hh, h2.2]⟩
        case measure => simp [intOf]; omega
      · go_wp2
        go_round
        case rel => exact ⟨j + 1, by omega, by go_num, by rw [HS.out, ← hh, ht.1 (by omega)]⟩
        case measure => simp [intOf]; omega
    · have : j = k := by omega
      subst this
      go_wp2
      go_ret
      exact ⟨ret_b (by rw [hbit.out, bne_iff' n]), rfl⟩

theorem bits_next (f : Nat → Bool) (j : Nat) : wrap64 (sumB f (j + 1) : Nat) = if f j = true then wrap64 (wrap64 (sumB f j : Nat) + wrap64 ((2 : Int) ^ j)) else wrap64 (sumB f j : Nat) := by
  by_cases h : f j = true
  · rw [if_pos h, w64_add]; simp [sumB, h]
  · rw [if_neg h]; simp [sumB, h]
theorem pow_step (j : Nat) : wrap64 (wrap64 ((2 : Int) ^ j) + wrap64 ((2 : Int) ^ j)) = wrap64 ((2 : Int) ^ (j + 1)) := by
  rw [w64_add, Int.pow_succ]; congr 1; omega

set_option maxHeartbeats 4000000 in
theorem bits_any (op a b : Int) (w : World) (ho : op = 6 ∨ op = 7 ∨ op = 8) (hlo : -9223372036854775808 ≤ a) (hhi : a ≤ 9223372036854775807) (hlo' : -9223372036854775808 ≤ b) (hhi' : b ≤ 9223372036854775807) :
    Calls Try.prog 23 #[.int .i64 op, .int .i64 a, .int .i64 b] w fun e w' => e = .returned (.int .i64 (wrap64 (sumB (fun i => opB op (bitB a i) (bitB b i)) 64 : Nat))) ∧ w' = w := by
  go_enter Try.func23, Try.ntmps23
  go_wp2
  go_loop [7, 8, 9] (fun n p i => ∃ j : Nat, j ≤ 64 ∧ i = .int .i64 j ∧ p = .int .i64 (wrap64 (2 ^ j)) ∧ n = .int .i64 (wrap64 (sumB (fun i => opB op (bitB a i) (bitB b i)) j : Nat))) (fun _ _ i => 64 - (intOf i).toNat)
  case atStart => exact ⟨0, Nat.zero_le _, rfl, by simp [wrap64], by simp [sumB, wrap64]⟩
  case round =>
    obtain ⟨j, hj, rfl, rfl, rfl⟩ := hrel
    have hps : Hid (wrap64 (wrap64 ((2 : Int) ^ j) + wrap64 ((2 : Int) ^ j)) = wrap64 ((2 : Int) ^ (j + 1))) := pow_step j
    have HT : Hid (wrap64 (sumB (fun i => opB op (bitB a i) (bitB b i)) (j + 1) : Nat) = if opB op (bitB a j) (bitB b j) = true then wrap64 (wrap64 (sumB (fun i => opB op (bitB a i) (bitB b i)) j : Nat) + wrap64 ((2 : Int) ^ j)) else wrap64 (sumB (fun i => opB op (bitB a i) (bitB b i)) j : Nat)) := bits_next (fun i => opB op (bitB a i) (bitB b i)) j
    by_cases hlt : j < 64
    · rcases ho with rfl | rfl | rfl <;> cases hx : bitB a j <;> cases hy : bitB b j
      all_goals
        go_wp2_with (go_at_call 31; refine (bit_any _ _ _ (by omega) (by omega) (by omega)).mono ?_; rintro e w' ⟨rfl, rfl⟩)
        go_round
        case rel => exact ⟨j + 1, by omega, by go_num, by rw [← hps.out], by rw [HT.out]; simp [opB, hx, hy]⟩
        case measure => simp [intOf]; omega
    · have : j = 64 := by omega
      subst this
      go_wp2
      go_ret
      exact ⟨rfl, rfl⟩

end Go.Proofs.Ytgkhjfcfglmpgaa
