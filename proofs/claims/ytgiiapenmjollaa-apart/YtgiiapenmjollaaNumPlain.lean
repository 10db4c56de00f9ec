/-
  The plain arithmetic of ints and longs: what goes round at 32 and at 64 bits, a quotient and what is left over, and a number's bits, one by one.
-/
import Derived.WalkKit
namespace Go.Proofs.Ytgiiapenmjollaa
open Go.RowKit (wrap32 wrap64)

theorem ret_i {k : IntKind} {a b : Int} (h : a = b) : Ending.returned (.int k a) = .returned (.int k b) := by rw [h]
theorem w32_bd (a : Int) : -2147483648 ≤ wrap32 a ∧ wrap32 a ≤ 2147483647 := by unfold wrap32; omega
theorem w64_bd (a : Int) : -9223372036854775808 ≤ wrap64 a ∧ wrap64 a ≤ 9223372036854775807 := by unfold wrap64; omega
theorem w32_w32 (a : Int) : wrap32 (wrap32 a) = wrap32 a := by unfold wrap32; omega
theorem w64_w32 (a : Int) : wrap64 (wrap32 a) = wrap32 a := by unfold wrap64 wrap32; omega
theorem w64_w64 (a : Int) : wrap64 (wrap64 a) = wrap64 a := by unfold wrap64; omega
theorem w64_in {a : Int} (h : -9223372036854775808 ≤ a) (h' : a ≤ 9223372036854775807) : wrap64 a = a := by unfold wrap64; omega
theorem w64_add (a b : Int) : wrap64 (wrap64 a + wrap64 b) = wrap64 (a + b) := by unfold wrap64; omega
theorem w64_addl (a b : Int) : wrap64 (wrap64 a + b) = wrap64 (a + b) := by unfold wrap64; omega
theorem w64_congr {a b : Int} (k : Int) (h : a = b + 18446744073709551616 * k) : wrap64 a = wrap64 b := by unfold wrap64; omega
theorem w64_mul (a b : Int) : wrap64 (wrap64 a * b) = wrap64 (a * b) := by
  have h : wrap64 a = a + 18446744073709551616 * (-((a + 9223372036854775808) / 18446744073709551616)) := by unfold wrap64; omega
  rw [h, Int.add_mul, Int.mul_assoc]
  exact w64_congr _ rfl

theorem tdiv_zero' (a : Int) : a.tdiv 0 = 0 := Int.tdiv_zero a
theorem mul_tdiv_tmod (a b : Int) : a.tdiv b * b + a.tmod b = a := Int.tdiv_mul_add_tmod a b

/-- What is divided is what it comes to, times by what, and what is left over. -/
theorem div_back (a b : Int) (h : -9223372036854775808 ≤ a) (h' : a ≤ 9223372036854775807) :
    wrap64 (wrap64 (wrap64 (a.tdiv b) * b) + a.tmod b) = a := by
  rw [w64_mul, w64_addl, mul_tdiv_tmod, w64_in h h']

theorem tmod_sign (a b : Int) : a.tmod b = 0 ∨ (a.tmod b < 0 ↔ a < 0) := by
  rcases Int.lt_trichotomy a 0 with h | h | h
  · have h1 : 0 ≤ (-a).tmod b := Int.tmod_nonneg _ (by omega)
    rw [Int.neg_tmod] at h1
    omega
  · subst h; left; simp
  · have : 0 ≤ a.tmod b := Int.tmod_nonneg _ (by omega)
    omega

theorem tmod_bd (a b : Int) (h : -9223372036854775808 ≤ a) (h' : a ≤ 9223372036854775807) : -9223372036854775808 ≤ a.tmod b ∧ a.tmod b ≤ 9223372036854775807 := by
  have h1 := Int.natAbs_tmod a b
  have h2 : (a.tmod b).natAbs ≤ a.natAbs := by rw [h1]; exact Nat.mod_le _ _
  have := tmod_sign a b
  omega

theorem sub_narrow (a : Int) : (wrap64 (a - wrap32 a)).tmod 4294967296 = 0 := by
  have h : (4294967296 : Int) ∣ wrap64 (a - wrap32 a) := ⟨wrap64 (a - wrap32 a) / 4294967296, by unfold wrap64 wrap32; omega⟩
  exact Int.tmod_eq_zero_of_dvd h

/-! ### the document's own way to narrow -/
theorem ref_narrow (a : Int) :
    (a.tmod 4294967296 < 0 → a.tmod 4294967296 + 4294967296 ≥ 2147483648 → wrap32 a = a.tmod 4294967296 + 4294967296 - 4294967296)
    ∧ (a.tmod 4294967296 < 0 → a.tmod 4294967296 + 4294967296 < 2147483648 → wrap32 a = a.tmod 4294967296 + 4294967296)
    ∧ (0 ≤ a.tmod 4294967296 → a.tmod 4294967296 ≥ 2147483648 → wrap32 a = a.tmod 4294967296 - 4294967296)
    ∧ (0 ≤ a.tmod 4294967296 → a.tmod 4294967296 < 2147483648 → wrap32 a = a.tmod 4294967296) := by
  have h1 := mul_tdiv_tmod a 4294967296
  have h2 : a.tmod 4294967296 < 4294967296 := Int.tmod_lt_of_pos _ (by omega)
  have h3 : -4294967296 < a.tmod 4294967296 := by
    have := Int.lt_tmod_of_pos a (b := 4294967296) (by omega); omega
  unfold wrap32
  refine ⟨?_, ?_, ?_, ?_⟩ <;> intros <;> omega
theorem tmod32_bd (a : Int) : -4294967295 ≤ a.tmod 4294967296 ∧ a.tmod 4294967296 ≤ 4294967295 := by
  have h2 : a.tmod 4294967296 < 4294967296 := Int.tmod_lt_of_pos _ (by omega)
  have h3 : -4294967296 < a.tmod 4294967296 := by
    have := Int.lt_tmod_of_pos a (b := 4294967296) (by omega); omega
  omega

/-! ### a number's bits -/
def bitB (n : Int) (k : Nat) : Bool := decide (n / 2 ^ k % 2 = 1)

theorem tmod2 (n : Int) : (0 ≤ n.tmod 2 → n.tmod 2 = n % 2) ∧ (n.tmod 2 < 0 → n.tmod 2 + 2 = n % 2 ∧ n % 2 = 1) ∧ -1 ≤ n.tmod 2 ∧ n.tmod 2 ≤ 1 := by
  have h1 := mul_tdiv_tmod n 2
  have h2 : n.tmod 2 < 2 := Int.tmod_lt_of_pos _ (by omega)
  have h3 : -2 < n.tmod 2 := by
    have := Int.lt_tmod_of_pos n (b := 2) (by omega); omega
  omega

theorem half_even (n : Int) : (n - n % 2).tdiv 2 = n / 2 := by
  have : n - n % 2 = 2 * (n / 2) := by omega
  rw [this, Int.mul_tdiv_cancel_left _ (by omega)]

theorem div_pow_succ (a : Int) (k : Nat) : a / 2 ^ (k + 1) = a / 2 ^ k / 2 := by
  rw [Int.pow_succ, Int.ediv_ediv_of_nonneg (Int.le_of_lt (Int.pow_pos (by omega)))]

/-- The sum of the powers at which f holds, below k. -/
def sumB (f : Nat → Bool) : Nat → Nat
  | 0 => 0
  | k + 1 => sumB f k + if f k then 2 ^ k else 0

theorem sumB_congr {f g : Nat → Bool} : ∀ k, (∀ i, i < k → f i = g i) → sumB f k = sumB g k
  | 0, _ => rfl
  | k + 1, h => by
    have := sumB_congr k (fun i hi => h i (by omega))
    simp only [sumB]; rw [this, h k (by omega)]

theorem sumB_testBit (x : Nat) : ∀ k, sumB (fun i => x.testBit i) k = x % 2 ^ k
  | 0 => by simp [sumB, Nat.mod_one]
  | k + 1 => by
    simp only [sumB]
    rw [sumB_testBit x k, Nat.mod_pow_succ]
    have hb : x.testBit k = decide (x / 2 ^ k % 2 = 1) := Nat.testBit_eq_decide_div_mod_eq
    have : x / 2 ^ k % 2 < 2 := Nat.mod_lt _ (by omega)
    by_cases h : x / 2 ^ k % 2 = 1
    · simp [hb, h]
    · have : x / 2 ^ k % 2 = 0 := by omega
      simp [hb, this]

theorem pow_split (i : Nat) (h : i < 64) : (2 : Int) ^ 64 = 2 ^ i * (2 * 2 ^ (63 - i)) := by
  rw [← Int.mul_assoc, ← Int.pow_succ, ← Int.pow_add]; congr 1; omega

theorem testBit_ofInt (a : Int) (i : Nat) (h : i < 64) : (BitVec.ofInt 64 a).toNat.testBit i = bitB a i := by
  rw [BitVec.toNat_ofInt, Nat.testBit_eq_decide_div_mod_eq]
  unfold bitB
  have hm : (0 : Int) ≤ a % ((2 ^ 64 : Nat) : Int) := Int.emod_nonneg _ (by decide)
  have hc : (((a % ((2 ^ 64 : Nat) : Int)).toNat / 2 ^ i % 2 : Nat) : Int) = a / 2 ^ i % 2 := by
    rw [Int.natCast_emod, Int.natCast_ediv, Int.toNat_of_nonneg hm, Int.natCast_pow]
    have hp : (0 : Int) < 2 ^ i := Int.pow_pos (by omega)
    have he : a = a % ((2 ^ 64 : Nat) : Int) + 2 ^ i * (2 * 2 ^ (63 - i) * (a / ((2 ^ 64 : Nat) : Int))) := by
      have hs := pow_split i h
      have hd := Int.emod_add_mul_ediv a ((2 ^ 64 : Nat) : Int)
      rw [← Int.mul_assoc, ← hs]
      have e64 : (((2 ^ 64 : Nat) : Int)) = (2 : Int) ^ 64 := by decide
      rw [e64] at hd ⊢
      exact hd.symm
    conv => rhs; rw [he]
    rw [Int.add_mul_ediv_left _ _ (by omega), Int.mul_assoc]
    simp
  have : ((a % ((2 ^ 64 : Nat) : Int)).toNat / 2 ^ i % 2 = 1) ↔ (a / 2 ^ i % 2 = 1) := by omega
  exact decide_eq_decide.mpr this

/-- What the bits of two numbers make. -/
def opB (op : Int) (x y : Bool) : Bool := (decide (op = 6) && (x && y)) || (decide (op = 7) && (x || y)) || (decide (op = 8) && (x != y))

theorem bits_sum (f : Bool → Bool → Bool) (a b : Int) (r : BitVec 64)
    (h : ∀ i, i < 64 → r.toNat.testBit i = f ((BitVec.ofInt 64 a).toNat.testBit i) ((BitVec.ofInt 64 b).toNat.testBit i)) :
    IntKind.i64.wrap (r.toNat : Int) = wrap64 (sumB (fun i => f (bitB a i) (bitB b i)) 64 : Nat) := by
  have hs : sumB (fun i => f (bitB a i) (bitB b i)) 64 = r.toNat := by
    rw [← Nat.mod_eq_of_lt r.isLt, ← sumB_testBit]
    refine sumB_congr _ fun i hi => ?_
    rw [h i hi, testBit_ofInt _ _ hi, testBit_ofInt _ _ hi]
  rw [hs]; exact IntWalk.i64_left _

theorem bits_and (a b : Int) : bits .and .i64 a b = wrap64 (sumB (fun i => bitB a i && bitB b i) 64 : Nat) :=
  bits_sum (fun x y => x && y) a b _ fun i _ => by
    show (BitVec.ofInt 64 a &&& BitVec.ofInt 64 b).toNat.testBit i = _
    rw [BitVec.toNat_and, Nat.testBit_and]
theorem bits_or (a b : Int) : bits .or .i64 a b = wrap64 (sumB (fun i => bitB a i || bitB b i) 64 : Nat) :=
  bits_sum (fun x y => x || y) a b _ fun i _ => by
    show (BitVec.ofInt 64 a ||| BitVec.ofInt 64 b).toNat.testBit i = _
    rw [BitVec.toNat_or, Nat.testBit_or]
theorem bits_xor (a b : Int) : bits .xor .i64 a b = wrap64 (sumB (fun i => bitB a i != bitB b i) 64 : Nat) :=
  bits_sum (fun x y => x != y) a b _ fun i _ => by
    show (BitVec.ofInt 64 a ^^^ BitVec.ofInt 64 b).toNat.testBit i = _
    rw [BitVec.toNat_xor, Nat.testBit_xor]

/-! ### what the operations make -/
def lngV (op a b : Int) : Int :=
  if op = 1 then wrap64 (a + b) else if op = 2 then wrap64 (a - b) else if op = 3 then wrap64 (a * b)
  else if op = 4 then (if b = 0 then 0 else wrap64 (a.tdiv b)) else if op = 5 then (if b = 0 then 0 else a.tmod b)
  else if op = 6 ∨ op = 7 ∨ op = 8 then wrap64 (sumB (fun i => opB op (bitB a i) (bitB b i)) 64 : Nat) else 0
def lngB (op b : Int) : Bool := decide (1 ≤ op ∧ op ≤ 8 ∧ ¬ (b = 0 ∧ (op = 4 ∨ op = 5)))
def cmpV (a b : Int) : Int := if a < b then -1 else if b < a then 1 else 0
def hldB (c a : Int) : Bool := (decide (c = 1) && decide (a = 0)) || (decide (c = 2) && decide (a < 0)) || (decide (c = 3) && decide (a ≠ 0)) || (decide (c = 4) && decide (0 < a))

theorem lng_and (a b : Int) : lngV 6 a b = bits .and .i64 a b := by rw [bits_and]; simp [lngV, opB]
theorem lng_or (a b : Int) : lngV 7 a b = bits .or .i64 a b := by rw [bits_or]; simp [lngV, opB]
theorem lng_xor (a b : Int) : lngV 8 a b = bits .xor .i64 a b := by rw [bits_xor]; simp [lngV, opB]

end Go.Proofs.Ytgiiapenmjollaa
