/-
  What the document's own answers for files on a stack are: small ones.
-/
import Derived.Test.YtgiiapenmjollaaChecked
import Derived.Test.YtgiiapenmjollaaData
import Derived.Test.YtgiiapenmjollaaRefTwo
import Derived.Test.YtgiiapenmjollaaFormPlain
import Derived.Test.YtgiiapenmjollaaFut
import Derived.Handy
namespace Go.Proofs.Ytgiiapenmjollaa
open Go.RowKit

theorem within_any (n lo hi : Int) (w : World) :
    Calls Try.prog 47 #[.int .i64 n, .int .i64 lo, .int .i64 hi] w fun e w' => e = .returned (.bool (decide (lo ≤ n ∧ n ≤ hi))) ∧ w' = w := by
  go_enter Try.func47, Try.ntmps47
  go_wp2
  all_goals
    go_ret
    refine ⟨ret_bool ?_, rfl⟩
    rw [Bool.eq_iff_iff]; simp; try omega

set_option maxHeartbeats 2000000 in
theorem rslots_any (A : Option Addr) (c : Nat) (F : List Ty) (w : World) (hl : TysAt w A F) (hb : F.length ≤ 1000000) :
    Calls Try.prog 49 #[.slice A F.length c] w fun e w' => e = .returned (.int .i64 (slotsN F : Nat)) ∧ w' = w := by
  obtain ⟨hm, hl⟩ := hl
  clear hm
  have HS : Hid (∀ k, k < F.length → slotsN (F.take (k + 1)) = slotsN (F.take k) + (if (nth ty0 F k).kind = 2 then 2 else 1)) := slotsN_take F
  have HB : Hid (∀ k, slotsN (F.take k) ≤ 2 * k) := fun k => by have := slotsN_le (F.take k); have := List.length_take_le k F; omega
  go_enter Try.func49, Try.ntmps49
  go_wp2
  go_loop [3, 4] (fun n i => ∃ k : Nat, k ≤ F.length ∧ i = .int .i64 k ∧ n = .int .i64 ((F.length : Int) + ((slotsN (F.take k) : Nat) : Int) - k)) (fun _ i => F.length - (intOf i).toNat)
  case atStart => exact ⟨0, Nat.zero_le _, rfl, by simp [slotsN]⟩
  case round =>
    obtain ⟨k, hk, rfl, rfl⟩ := hrel
    have h2 := HB.out k
    by_cases hlt : k < F.length
    · rcases hl with h0 | ⟨b, off, rfl, hcell⟩
      · omega
      have ht := (hcell k hlt).1
      have hs := HS.out k hlt
      clear hcell
      by_cases hk2 : (nth ty0 F k).kind = 2
      · rw [if_pos hk2] at hs
        rw [hk2] at ht
        have HS' : Hid (slotsN (F.take (k + 1)) = slotsN (F.take k) + 2) := hs
        clear hs hk2
        go_wp2
        go_round
        case rel => exact ⟨k + 1, by omega, by go_num, by rw [HS'.out]; go_num⟩
        case measure => simp [intOf]; omega
      · rw [if_neg hk2] at hs
        have HS' : Hid (slotsN (F.take (k + 1)) = slotsN (F.take k) + 1) := hs
        have hk2' : ((nth ty0 F k).kind == 2) = false := by simpa using hk2
        clear hs hk2
        go_wp2
        go_round
        case rel => exact ⟨k + 1, by omega, by go_num, by rw [HS'.out]; go_num⟩
        case measure => simp [intOf]; omega
    · obtain rfl : k = F.length := by omega
      rw [List.take_length] at *
      go_wp2
      go_ret
      exact ⟨ret_int (by omega), rfl⟩

end Go.Proofs.Ytgiiapenmjollaa
