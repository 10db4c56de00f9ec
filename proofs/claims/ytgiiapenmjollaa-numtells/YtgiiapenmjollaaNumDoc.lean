/-
  The document's own answers for numbers, each by a contract, said by plain functions.
-/
import Derived.Test.YtgiiapenmjollaaChecked
import Derived.Test.YtgiiapenmjollaaNumPlain
import Derived.WalkKit
import Derived.RowKit3
import Derived.Below
namespace Go.Proofs.Ytgiiapenmjollaa
open Go.RowKit

theorem ret_ib {k : IntKind} {a b : Int} {x y : Bool} (h : a = b) (h' : x = y) : Ending.returned (.tuple #[.int k a, .bool x]) = .returned (.tuple #[.int k b, .bool y]) := by rw [h, h']
theorem ret_b {x y : Bool} (h : x = y) : Ending.returned (.bool x) = .returned (.bool y) := by rw [h]

theorem rcmp_any (a b : Int) (w : World) :
    Calls Try.prog 19 #[.int .i64 a, .int .i64 b] w fun e w' => e = .returned (.int .i64 (cmpV a b)) ∧ w' = w := by
  unfold cmpV
  by_cases h : a < b
  · rw [if_pos h]
    go_enter Try.func19, Try.ntmps19
    go_wp2
    go_ret
    exact ⟨rfl, rfl⟩
  by_cases h' : b < a
  · rw [if_neg h, if_pos h']
    go_enter Try.func19, Try.ntmps19
    go_wp2
    go_ret
    exact ⟨rfl, rfl⟩
  · rw [if_neg h, if_neg h']
    go_enter Try.func19, Try.ntmps19
    go_wp2
    go_ret
    exact ⟨rfl, rfl⟩

theorem bit_round (a : Int) (i : Nat) (hlo : -9223372036854775808 ≤ a) (hhi : a ≤ 9223372036854775807) :
    -9223372036854775808 ≤ a / 2 ^ i ∧ a / 2 ^ i ≤ 9223372036854775807 := by
  have hp : (0 : Int) < 2 ^ i := Int.pow_pos (by omega)
  constructor
  · rw [Int.le_ediv_iff_mul_le hp]
    have : (1 : Int) ≤ 2 ^ i := by omega
    have := Int.mul_le_mul_of_nonpos_left (a := (-9223372036854775808 : Int)) (by omega) this
    omega
  · by_cases h : 0 ≤ a
    · have := Int.ediv_le_self (2 ^ i) h; omega
    · have := Int.ediv_neg_of_neg_of_pos (by omega : a < 0) hp; omega

theorem bne_iff' (n : Int) : (n.tmod 2 != 0) = decide (n % 2 = 1) := by
  have := tmod2 n
  by_cases h : n % 2 = 1
  · have h' : n.tmod 2 ≠ 0 := by omega
    simp [h, h']
  · have h' : n.tmod 2 = 0 := by omega
    simp [h, h']

set_option maxHeartbeats 1000000 in
theorem bit_any (a : Int) (k : Nat) (w : World) (hlo : -9223372036854775808 ≤ a) (hhi : a ≤ 9223372036854775807) (hk : k ≤ 64) :
    Calls Try.prog 56 #[.int .i64 a, .int .i64 (k : Int)] w fun e w' => e = .returned (.bool (bitB a k)) ∧ w' = w := by
  go_enter Try.func56, Try.ntmps56
  go_wp2
  go_loop [0, 5] (fun n i => ∃ j : Nat, j ≤ k ∧ i = .int .i64 j ∧ n = .int .i64 (a / 2 ^ j)) (fun _ i => k - (intOf i).toNat)
  case atStart => exact ⟨0, Nat.zero_le _, rfl, by simp⟩
  case round =>
    obtain ⟨j, hj, rfl, rfl⟩ := hrel
    have hb := bit_round a j hlo hhi
    have hs := div_pow_succ a j
    have HS : Hid (a / 2 ^ (j + 1) = a / 2 ^ j / 2) := hs
    clear hs
    have hbit : Hid (bitB a j = decide (a / 2 ^ j % 2 = 1)) := rfl
    obtain ⟨n, hn⟩ : ∃ n, a / 2 ^ j = n := ⟨_, rfl⟩
    rw [hn] at hb HS hbit
    simp only [hn]
    have ht := tmod2 n
    have hh := half_even n
    by_cases hlt : j < k
    · by_cases hneg : n.tmod 2 < 0
      · have h2 := ht.2.1 hneg
        go_wp2
        go_round
        case rel => exact ⟨j + 1, by omega, by go_num, by rw [HS.out, ← hh, h2.2]⟩
        case measure => simp [intOf]; omega
      · go_wp2
        go_round
        case rel => exact ⟨j + 1, by omega, by go_num, by rw [HS.out, ← hh, ht.1 (by omega)]⟩
        case measure => simp [intOf]; omega
    · have : j = k := by omega
      subst this
      go_wp2
      go_ret
      exact ⟨ret_b (by rw [hbit.out, bne_iff' n]), rfl⟩

theorem bits_next (f : Nat → Bool) (j : Nat) : wrap64 (sumB f (j + 1) : Nat) = if f j = true then wrap64 (wrap64 (sumB f j : Nat) + wrap64 ((2 : Int) ^ j)) else wrap64 (sumB f j : Nat) := by
  by_cases h : f j = true
  · rw [if_pos h, w64_add]; simp [sumB, h]
  · rw [if_neg h]; simp [sumB, h]
theorem pow_step (j : Nat) : wrap64 (wrap64 ((2 : Int) ^ j) + wrap64 ((2 : Int) ^ j)) = wrap64 ((2 : Int) ^ (j + 1)) := by
  rw [w64_add, Int.pow_succ]; congr 1; omega

set_option maxHeartbeats 4000000 in
theorem bits_any (op a b : Int) (w : World) (ho : op = 6 ∨ op = 7 ∨ op = 8) (hlo : -9223372036854775808 ≤ a) (hhi : a ≤ 9223372036854775807) (hlo' : -9223372036854775808 ≤ b) (hhi' : b ≤ 9223372036854775807) :
    Calls Try.prog 35 #[.int .i64 op, .int .i64 a, .int .i64 b] w fun e w' => e = .returned (.int .i64 (wrap64 (sumB (fun i => opB op (bitB a i) (bitB b i)) 64 : Nat))) ∧ w' = w := by
  go_enter Try.func35, Try.ntmps35
  go_wp2
  go_loop [7, 8, 9] (fun n p i => ∃ j : Nat, j ≤ 64 ∧ i = .int .i64 j ∧ p = .int .i64 (wrap64 (2 ^ j)) ∧ n = .int .i64 (wrap64 (sumB (fun i => opB op (bitB a i) (bitB b i)) j : Nat))) (fun _ _ i => 64 - (intOf i).toNat)
  case atStart => exact ⟨0, Nat.zero_le _, rfl, by simp [wrap64], by simp [sumB, wrap64]⟩
  case round =>
    obtain ⟨j, hj, rfl, rfl, rfl⟩ := hrel
    have hps : Hid (wrap64 (wrap64 ((2 : Int) ^ j) + wrap64 ((2 : Int) ^ j)) = wrap64 ((2 : Int) ^ (j + 1))) := pow_step j
    have HT : Hid (wrap64 (sumB (fun i => opB op (bitB a i) (bitB b i)) (j + 1) : Nat) = if opB op (bitB a j) (bitB b j) = true then wrap64 (wrap64 (sumB (fun i => opB op (bitB a i) (bitB b i)) j : Nat) + wrap64 ((2 : Int) ^ j)) else wrap64 (sumB (fun i => opB op (bitB a i) (bitB b i)) j : Nat)) := bits_next (fun i => opB op (bitB a i) (bitB b i)) j
    by_cases hlt : j < 64
    · rcases ho with rfl | rfl | rfl <;> cases hx : bitB a j <;> cases hy : bitB b j
      all_goals
        go_wp2_with (go_at_call 56; refine (bit_any _ _ _ (by omega) (by omega) (by omega)).mono ?_; rintro e w' ⟨rfl, rfl⟩)
        go_round
        case rel => exact ⟨j + 1, by omega, by go_num, by rw [← hps.out], by rw [HT.out]; simp [opB, hx, hy]⟩
        case measure => simp [intOf]; omega
    · have : j = 64 := by omega
      subst this
      go_wp2
      go_ret
      exact ⟨rfl, rfl⟩

set_option maxHeartbeats 1000000 in
theorem rnarrow_any (a : Int) (w : World) :
    Calls Try.prog 18 #[.int .i64 a] w fun e w' => e = .returned (.int .i64 (wrap32 a)) ∧ w' = w := by
  have h := ref_narrow a
  have hb := tmod32_bd a
  by_cases h1 : a.tmod 4294967296 < 0
  · by_cases h2 : a.tmod 4294967296 + 4294967296 ≥ 2147483648
    · have HE : Hid (wrap32 a = a.tmod 4294967296 + 4294967296 - 4294967296) := h.1 h1 h2
      clear h
      go_enter Try.func18, Try.ntmps18
      go_wp2
      go_ret
      exact ⟨ret_i (by rw [HE.out]; omega), rfl⟩
    · have HE : Hid (wrap32 a = a.tmod 4294967296 + 4294967296) := h.2.1 h1 (by omega)
      clear h
      go_enter Try.func18, Try.ntmps18
      go_wp2
      go_ret
      exact ⟨ret_i (by rw [HE.out]), rfl⟩
  · by_cases h2 : a.tmod 4294967296 ≥ 2147483648
    · have HE : Hid (wrap32 a = a.tmod 4294967296 - 4294967296) := h.2.2.1 (by omega) h2
      clear h
      go_enter Try.func18, Try.ntmps18
      go_wp2
      go_ret
      exact ⟨ret_i (by rw [HE.out]), rfl⟩
    · have HE : Hid (wrap32 a = a.tmod 4294967296) := h.2.2.2 (by omega) (by omega)
      clear h
      go_enter Try.func18, Try.ntmps18
      go_wp2
      go_ret
      exact ⟨ret_i (by rw [HE.out]), rfl⟩

theorem neg_one_quo (a : Int) : wrap64 (-a) = wrap64 (a.tdiv (-1)) := by
  congr 1; rw [Int.tdiv_neg, Int.tdiv_one]
theorem rem_by (a b : Int) (h : -9223372036854775808 ≤ a) (h' : a ≤ 9223372036854775807) : wrap64 (a - wrap64 (wrap64 (a.tdiv b) * b)) = a.tmod b := by
  have h1 := mul_tdiv_tmod a b
  have h2 := tmod_bd a b h h'
  rw [w64_mul]
  have h3 : a - a.tdiv b * b = a.tmod b := by omega
  have h4 : wrap64 (a - wrap64 (a.tdiv b * b)) = wrap64 (a - a.tdiv b * b) := by
    generalize a.tdiv b * b = x; unfold wrap64; omega
  rw [h4, h3, w64_in h2.1 h2.2]

set_option maxHeartbeats 2000000 in
theorem rlong_any (op a b : Int) (w : World) (hlo : -9223372036854775808 ≤ a) (hhi : a ≤ 9223372036854775807) (hlo' : -9223372036854775808 ≤ b) (hhi' : b ≤ 9223372036854775807) :
    Calls Try.prog 14 #[.int .i64 op, .int .i64 a, .int .i64 b] w fun e w' => e = .returned (.tuple #[.int .i64 (lngV op a b), .bool (lngB op b)]) ∧ w' = w := by
  by_cases h1 : op = 1
  · subst h1
    have HE : Hid (lngV 1 a b = wrap64 (a + b) ∧ lngB 1 b = true) := ⟨by simp [lngV], by simp [lngB]⟩
    clear hlo hhi hlo' hhi'
    go_enter Try.func14, Try.ntmps14
    go_wp2
    go_ret2
    exact ⟨ret_ib HE.out.1.symm HE.out.2.symm, rfl⟩
  by_cases h2 : op = 2
  · subst h2
    have HE : Hid (lngV 2 a b = wrap64 (a - b) ∧ lngB 2 b = true) := ⟨by simp [lngV], by simp [lngB]⟩
    clear hlo hhi hlo' hhi'
    go_enter Try.func14, Try.ntmps14
    go_wp2
    go_ret2
    exact ⟨ret_ib HE.out.1.symm HE.out.2.symm, rfl⟩
  by_cases h3 : op = 3
  · subst h3
    have HE : Hid (lngV 3 a b = wrap64 (a * b) ∧ lngB 3 b = true) := ⟨by simp [lngV], by simp [lngB]⟩
    clear hlo hhi hlo' hhi'
    go_enter Try.func14, Try.ntmps14
    go_wp2
    go_ret2
    exact ⟨ret_ib HE.out.1.symm HE.out.2.symm, rfl⟩
  by_cases hbits : op = 6 ∨ op = 7 ∨ op = 8
  · have HE : Hid (lngV op a b = wrap64 (sumB (fun i => opB op (bitB a i) (bitB b i)) 64 : Nat) ∧ lngB op b = true) :=
      ⟨by have h4 : ¬ op = 4 := by omega
          have h5 : ¬ op = 5 := by omega
          simp only [lngV, if_neg h1, if_neg h2, if_neg h3, if_neg h4, if_neg h5, if_pos hbits],
       by simp only [lngB, decide_eq_true_eq]; omega⟩
    have hc := fun w => bits_any op a b w hbits hlo hhi hlo' hhi'
    clear hlo hhi hlo' hhi'
    rcases hbits with rfl | rfl | rfl
    all_goals
      go_enter Try.func14, Try.ntmps14
      go_wp2_with (go_at_call 35; refine (hc _).mono ?_; rintro e w' ⟨rfl, rfl⟩)
      go_ret2
      exact ⟨ret_ib HE.out.1.symm HE.out.2.symm, rfl⟩
  by_cases h4 : op = 4
  · subst h4
    by_cases hb : b = 0
    · subst hb
      have HE : Hid (lngV 4 a 0 = 0 ∧ lngB 4 0 = false) := ⟨by simp [lngV], by simp [lngB]⟩
      clear hlo hhi hlo' hhi'
      go_enter Try.func14, Try.ntmps14
      go_wp2
      go_ret2
      exact ⟨ret_ib HE.out.1.symm HE.out.2.symm, rfl⟩
    · have HE : Hid (lngV 4 a b = wrap64 (a.tdiv b) ∧ lngB 4 b = true) := ⟨by simp [lngV, hb], by simp [lngB, hb]⟩
      clear hlo hhi hlo' hhi'
      by_cases hm : b = -1
      · subst hm
        go_enter Try.func14, Try.ntmps14
        go_wp2
        go_ret2
        exact ⟨ret_ib (by rw [HE.out.1]; exact neg_one_quo a) HE.out.2.symm, rfl⟩
      · go_enter Try.func14, Try.ntmps14
        go_wp2
        go_ret2
        exact ⟨ret_ib HE.out.1.symm HE.out.2.symm, rfl⟩
  by_cases h5 : op = 5
  · subst h5
    by_cases hb : b = 0
    · subst hb
      have HE : Hid (lngV 5 a 0 = 0 ∧ lngB 5 0 = false) := ⟨by simp [lngV], by simp [lngB]⟩
      clear hlo hhi hlo' hhi'
      go_enter Try.func14, Try.ntmps14
      go_wp2
      go_ret2
      exact ⟨ret_ib HE.out.1.symm HE.out.2.symm, rfl⟩
    · have HE : Hid (lngV 5 a b = a.tmod b ∧ lngB 5 b = true) := ⟨by simp [lngV, hb], by simp [lngB, hb]⟩
      have HR : Hid (wrap64 (a - wrap64 (wrap64 (a.tdiv b) * b)) = a.tmod b) := rem_by a b hlo hhi
      clear hlo hhi hlo' hhi'
      by_cases hm : b = -1
      · subst hm
        go_enter Try.func14, Try.ntmps14
        go_wp2
        go_ret2
        exact ⟨ret_ib (by rw [HE.out.1, ← HR.out, ← neg_one_quo, Int.mul_neg_one]) HE.out.2.symm, rfl⟩
      · go_enter Try.func14, Try.ntmps14
        go_wp2
        go_ret2
        exact ⟨ret_ib (by rw [HE.out.1, ← HR.out]) HE.out.2.symm, rfl⟩
  have e1 : lngV op a b = 0 := by
    simp only [lngV, if_neg h1, if_neg h2, if_neg h3, if_neg h4, if_neg h5, if_neg hbits]
  have e2 : lngB op b = false := by simp only [lngB, decide_eq_false_iff_not]; omega
  rw [e1, e2]
  clear e1 e2 hlo hhi hlo' hhi'
  have h6 : ¬ op = 6 := by omega
  have h7 : ¬ op = 7 := by omega
  have h8 : ¬ op = 8 := by omega
  clear hbits
  go_enter Try.func14, Try.ntmps14
  go_wp2
  go_ret2
  exact ⟨rfl, rfl⟩

theorem rint_any (op a b : Int) (w : World) :
    Calls Try.prog 13 #[.int .i64 op, .int .i64 a, .int .i64 b] w fun e w' => e = .returned (.tuple #[.int .i64 (wrap32 (lngV op (wrap32 a) (wrap32 b))), .bool (lngB op (wrap32 b))]) ∧ w' = w := by
  have ha := w32_bd a
  have hb := w32_bd b
  go_enter Try.func13, Try.ntmps13
  go_wp2_with (first | (go_at_call 18; refine (rnarrow_any _ _).mono ?_; rintro e w' ⟨rfl, rfl⟩) | (go_at_call 14; refine (rlong_any _ _ _ _ (by omega) (by omega) (by omega) (by omega)).mono ?_; rintro e w' ⟨rfl, rfl⟩))
  go_ret2
  exact ⟨rfl, rfl⟩

theorem hld1 (a : Int) : hldB 1 a = (a == 0) := by unfold hldB; by_cases h : a = 0 <;> simp [h]
theorem hld2 (a : Int) : hldB 2 a = decide (a < 0) := by unfold hldB; simp
theorem hld3 (a : Int) : hldB 3 a = (a != 0) := by unfold hldB; by_cases h : a = 0 <;> simp [h]
theorem hld4 (a : Int) : hldB 4 a = decide (0 < a) := by unfold hldB; simp
theorem hld0 (c a : Int) (h1 : ¬ c = 1) (h2 : ¬ c = 2) (h3 : ¬ c = 3) (h4 : ¬ c = 4) : hldB c a = false := by unfold hldB; simp [h1, h2, h3, h4]

theorem rholds_any (c a : Int) (w : World) :
    Calls Try.prog 20 #[.int .i64 c, .int .i64 a] w fun e w' => e = .returned (.bool (hldB c a)) ∧ w' = w := by
  by_cases h1 : c = 1
  · subst h1
    rw [hld1]
    go_enter Try.func20, Try.ntmps20
    go_wp2
    go_ret
    exact ⟨rfl, rfl⟩
  by_cases h2 : c = 2
  · subst h2
    rw [hld2]
    go_enter Try.func20, Try.ntmps20
    go_wp2
    go_ret
    exact ⟨rfl, rfl⟩
  by_cases h3 : c = 3
  · subst h3
    rw [hld3]
    go_enter Try.func20, Try.ntmps20
    go_wp2
    go_ret
    exact ⟨rfl, rfl⟩
  by_cases h4 : c = 4
  · subst h4
    rw [hld4]
    go_enter Try.func20, Try.ntmps20
    go_wp2
    go_ret
    exact ⟨rfl, rfl⟩
  rw [hld0 c a h1 h2 h3 h4]
  go_enter Try.func20, Try.ntmps20
  go_wp2
  go_ret
  exact ⟨rfl, rfl⟩

end Go.Proofs.Ytgiiapenmjollaa
