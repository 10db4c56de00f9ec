/-
  What the document says of classes: what both are below.
-/
import Derived.Test.YtgiiapenmjollaaHierRef
namespace Go.Proofs.Ytgiiapenmjollaa
open Go.RowKit

set_option maxHeartbeats 2000000 in
theorem rjoin_any (A : Option Addr) (c : Nat) (l : List Cl) (x y : Int) (w : World) (hl : ClsAt w A l) (ht : Tree l) :
    Calls Try.prog 26 #[.slice A l.length c, .int .i64 x, .int .i64 y] w fun e w' => e = .returned (.int .i64 (if clsI l x y = true then (joinN l x.toNat y.toNat : Nat) else -1)) ∧ w' = w := by
  have hm := hl.1
  unfold maxLen at hm
  by_cases hin : 0 ≤ x ∧ x < l.length ∧ 0 ≤ y ∧ y < l.length
  · have hI : clsI l x y = true := decide_eq_true hin
    rw [if_pos hI]
    clear hI
    obtain ⟨h1, h2, h3, h4⟩ := hin
    obtain ⟨u, rfl⟩ := Int.eq_ofNat_of_zero_le h1
    obtain ⟨d, rfl⟩ := Int.eq_ofNat_of_zero_le h3
    simp only [Int.toNat_natCast]
    have HT : Hid (Tree l) := ht
    have HL : Hid (ClsAt w A l) := hl
    have hu : u < l.length := by omega
    have hd : d < l.length := by omega
    clear ht hl
    have e1 : decide ((u : Int) < 0) = false := decide_eq_false (by omega)
    have e2 : decide ((d : Int) < 0) = false := decide_eq_false (by omega)
    have e3 : decide (l.length ≤ u) = false := decide_eq_false (by omega)
    have e4 : decide (l.length ≤ d) = false := decide_eq_false (by omega)
    go_enter Try.func26, Try.ntmps26
    go_wp2
    go_loop [7] (fun i => ∃ k : Nat, i = .int .i64 k ∧ k < l.length ∧ Hid (∀ z, z ∈ ups l u → z ∈ ups l d → z ≤ k)) (fun i => (intOf i).toNat)
    case atStart => exact ⟨l.length - 1, by go_num, by omega, fun z hz _ => by have := ups_le HT.out u hu z hz; omega⟩
    case round =>
      obtain ⟨k, rfl, hk, hb⟩ := hrel
      by_cases hlt : 0 < k
      · have hc1 : clsI l u k = true := decide_eq_true (by omega)
        have hc2 : clsI l d k = true := decide_eq_true (by omega)
        cases hB1 : belN l u k
        · have HN : Hid (k ∉ ups l u) := by intro h; rw [bel_iff.2 h] at hB1; exact absurd hB1 (by decide)
          go_wp2_with (go_at_call 25; refine (rbelow_any _ _ _ _ _ _ HL.out HT.out).mono ?_; rintro e w1 ⟨he, rfl⟩; simp only [Int.toNat_natCast, hc1, hB1, Bool.true_and] at he; subst he)
          go_round
          case rel => exact ⟨k - 1, by go_num, by omega, fun z hz hz' => by have := hb.out z hz hz'; have : z ≠ k := fun e => HN.out (e ▸ hz); omega⟩
          case measure => simp [intOf]; omega
        · cases hB2 : belN l d k
          · have HN : Hid (k ∉ ups l d) := by intro h; rw [bel_iff.2 h] at hB2; exact absurd hB2 (by decide)
            go_wp2_with (go_at_call 25; refine (rbelow_any _ _ _ _ _ _ HL.out HT.out).mono ?_; rintro e w1 ⟨he, rfl⟩; simp only [Int.toNat_natCast, hc1, hc2, hB1, hB2, Bool.true_and] at he; subst he)
            go_round
            case rel => exact ⟨k - 1, by go_num, by omega, fun z hz hz' => by have := hb.out z hz hz'; have : z ≠ k := fun e => HN.out (e ▸ hz'); omega⟩
            case measure => simp [intOf]; omega
          · have HJ : Hid (joinN l u d = k) := join_is ⟨bel_iff.1 hB1, bel_iff.1 hB2, hb.out⟩
            go_wp2_with (go_at_call 25; refine (rbelow_any _ _ _ _ _ _ HL.out HT.out).mono ?_; rintro e w1 ⟨he, rfl⟩; simp only [Int.toNat_natCast, hc1, hc2, hB1, hB2, Bool.true_and] at he; subst he)
            go_ret
            exact ⟨ret_int (by rw [HJ.out]), rfl⟩
      · obtain rfl : k = 0 := by omega
        have HJ : Hid (joinN l u d = 0) := join_is ⟨ups_root HT.out u hu, ups_root HT.out d hd, hb.out⟩
        go_wp2
        go_ret
        exact ⟨ret_int (by rw [HJ.out]; rfl), rfl⟩
  · have hI : ¬ clsI l x y = true := by unfold clsI; rw [decide_eq_true_eq]; exact hin
    rw [if_neg hI]
    clear hI hl ht
    go_enter Try.func26, Try.ntmps26
    go_wp2
    all_goals first
      | (go_ret; exact ⟨rfl, rfl⟩)
      | (exfalso; omega)

end Go.Proofs.Ytgiiapenmjollaa
