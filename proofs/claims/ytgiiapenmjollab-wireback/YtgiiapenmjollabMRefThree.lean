/-
  What the document's own answers for classes are, each by a contract.
-/
import Derived.Test.YtgiiapenmjollabChecked
import Derived.Test.YtgiiapenmjollabMWireGood
import Derived.Handy
import Derived.Test.YtgiiapenmjollabMFut
namespace Go.Proofs.Ytgiiapenmjollab
open Go.RowKit

theorem ret_int {x y : Int} (h : x = y) : Ending.returned (.int .i64 x) = .returned (.int .i64 y) := by rw [h]
theorem ret_bool {x y : Bool} (h : x = y) : Ending.returned (.bool x) = .returned (.bool y) := by rw [h]

theorem rtype_any (A : Option Addr) (n c : Nat) (k x : Int) (w : World) :
    Calls Try.prog 71 #[.slice A n c, .agg #[.int .i64 k, .int .i64 x]] w fun e w' => e = .returned (.bool (tyB n ⟨k, x⟩)) ∧ Bl w w' := by
  by_cases h3 : k = 3
  · subst h3
    go_enter Try.func71, Try.ntmps71
    go_wp2
    all_goals
      go_ret
      refine ⟨ret_bool ?_, (Bl.refl _).alloc _⟩
      unfold tyB
      rw [Bool.eq_iff_iff]; simp; omega
  · go_enter Try.func71, Try.ntmps71
    go_wp2
    all_goals
      go_ret
      refine ⟨ret_bool ?_, (Bl.refl _).alloc _⟩
      unfold tyB
      rw [Bool.eq_iff_iff]; simp; omega

set_option maxHeartbeats 4000000 in
theorem rmay_any (A : Option Addr) (c : Nat) (l : List Cl) (w : World) (hl : ClsAt w A l) :
    Calls Try.prog 40 #[.slice A l.length c] w fun e w' => e = .returned (.bool (mayB l)) ∧ Bl w w' := by
  obtain ⟨hm, hl⟩ := hl
  unfold maxLen at hm
  by_cases h4 : l.length < 4
  · have hb := may_few (Or.inl h4)
    rw [hb]
    clear hb hl
    go_enter Try.func40, Try.ntmps40
    go_wp2
    go_ret
    exact ⟨rfl, Bl.refl _⟩
  by_cases h12 : 12 < l.length
  · have hb := may_few (Or.inr (Or.inl h12))
    rw [hb]
    clear hb hl
    go_enter Try.func40, Try.ntmps40
    go_wp2
    go_ret
    exact ⟨rfl, Bl.refl _⟩
  rcases hl with hl | ⟨b, off, rfl, hc⟩
  · omega
  have hs0 := (hc 0 (by omega)).1
  rw [Nat.zero_mul, Nat.add_zero] at hs0
  by_cases h0 : (nth cl0 l 0).super = -1
  · rw [h0] at hs0
    have HB : Hid ((∀ i, i < l.length → clB l i = true) → mayB l = true) := fun h => may_good ⟨by omega, by omega, h0⟩ h
    go_enter Try.func40, Try.ntmps40
    go_wp2
    go_loopw [4] (fun i wr => ∃ k : Nat, k ≤ l.length ∧ i = .int .i64 k ∧ Hid (∀ j, j < k → clB l j = true) ∧ Hid (Bl w wr)) (fun i _ => l.length - (intOf i).toNat)
    case atStart => exact ⟨0, Nat.zero_le _, rfl, fun j hj => absurd hj (Nat.not_lt_zero _), Bl.refl _⟩
    case round =>
      obtain ⟨k, hk, rfl, hgood, hg⟩ := hrel
      clear hs0 h0
      by_cases hlt : k < l.length
      · obtain ⟨hsup, hsb, A', c', hfl, hty⟩ := hc k hlt
        replace hsup := Bl.cell hg.out hsup
        replace hfl := Bl.cell hg.out hfl
        replace hty := TysAt.bl hg.out hty
        have HBAD : Hid (¬ ((k = 0 ∨ (0 ≤ (nth cl0 l k).super ∧ (nth cl0 l k).super < k)) ∧ (nth cl0 l k).fields.length ≤ 6) → mayB l = false) := fun h => may_cl hlt (cl_bad h)
        have HTY : Hid (∀ q, q < (nth cl0 l k).fields.length → tyB l.length (nth ty0 (nth cl0 l k).fields q) = false → mayB l = false) := fun q hq h => may_cl hlt (cl_ty hq h)
        have HOK : Hid (((k = 0 ∨ (0 ≤ (nth cl0 l k).super ∧ (nth cl0 l k).super < k)) ∧ (nth cl0 l k).fields.length ≤ 6) → (∀ q, q < (nth cl0 l k).fields.length → tyB l.length (nth ty0 (nth cl0 l k).fields q) = true) → clB l k = true) := cl_good
        clear hc HB
        obtain ⟨hfm, hty⟩ := hty
        unfold maxLen at hfm
        generalize hS : (nth cl0 l k).super = S at *
        generalize hF : (nth cl0 l k).fields = F at *
        clear hS hF
        go_wp2
        all_goals first
          | (go_ret; exact ⟨ret_bool (HBAD.out (by omega)).symm, hg.out⟩)
          | skip
        all_goals
          have HK : Hid ((∀ q, q < F.length → tyB l.length (nth ty0 F q) = true) → clB l k = true) := HOK.out (by omega)
          go_loopw [5] (fun i wr => ∃ q : Nat, q ≤ F.length ∧ i = .int .i64 q ∧ Hid (∀ j, j < q → tyB l.length (nth ty0 F j) = true) ∧ Hid (Bl w wr) ∧ wr.cell? ⟨b, off + k * 2 + 1, none⟩ = some (.slice A' F.length c') ∧ Hid (TysAt wr A' F)) (fun i _ => F.length - (intOf i).toNat)
          case atStart => exact ⟨0, Nat.zero_le _, rfl, fun j hj => absurd hj (Nat.not_lt_zero _), hg, hfl, ⟨hfm, hty⟩⟩
          case round =>
            clear hsup hfl hty hg
            obtain ⟨q, hq, rfl, hgq, hg, hfl, hty⟩ := hrel
            by_cases hql : q < F.length
            · rcases hty.out.2 with h0 | ⟨b', off', rfl, hcell⟩
              · omega
              obtain ⟨ht1, ht2, -, -⟩ := hcell q hql
              clear hcell
              cases hT : tyB l.length (nth ty0 F q)
              · have hT' : tyB l.length ⟨(nth ty0 F q).kind, (nth ty0 F q).cls⟩ = false := hT
                have HF := HTY.out q hql hT
                clear HTY hT
                go_wp2_with (go_at_call 71; refine (rtype_any _ _ _ _ _ _).mono ?_; rintro e w1 ⟨rfl, hg1⟩)
                go_ret
                exact ⟨ret_bool HF.symm, Bl.trans hg.out hg1⟩
              · have hT' : tyB l.length ⟨(nth ty0 F q).kind, (nth ty0 F q).cls⟩ = true := hT
                have HT : Hid (tyB l.length (nth ty0 F q) = true) := hT
                clear hT
                go_wp2_with (go_at_call 71; refine (rtype_any _ _ _ _ _ _).mono ?_; rintro e w1 ⟨rfl, hg1⟩)
                go_roundw
                case rel => exact ⟨q + 1, by omega, by go_num, fun j hj => if h : j < q then hgq.out j h else by have : j = q := by omega
                                                                                                                 subst this; exact HT.out, Bl.trans hg.out hg1, Bl.cell hg1 hfl, TysAt.bl hg1 hty.out⟩
                case measure => simp [intOf]; omega
            · have hkk : q = F.length := by omega
              subst hkk
              have HKK : Hid (clB l k = true) := HK.out hgq.out
              go_wp2
              go_roundw
              case rel => exact ⟨k + 1, by omega, by go_num, fun j hj => if h : j < k then hgood.out j h else by have : j = k := by omega
                                                                                                                 subst this; exact HKK.out, hg⟩
              case measure => simp [intOf]; omega
      · have hkk : k = l.length := by omega
        subst hkk
        have HBB := HB.out hgood.out
        clear HB hc
        go_wp2
        go_ret
        exact ⟨ret_bool HBB.symm, hg.out⟩
  · have hb := may_few (Or.inr (Or.inr h0))
    rw [hb]
    clear hb hc
    have h0' : ((nth cl0 l 0).super != -1) = true := by simpa using h0
    go_enter Try.func40, Try.ntmps40
    go_wp2
    go_ret
    exact ⟨rfl, Bl.refl _⟩

end Go.Proofs.Ytgiiapenmjollab
namespace Go.Proofs.Ytgiiapenmjollab
open Go.RowKit

theorem within_any (n lo hi : Int) (w : World) :
    Calls Try.prog 41 #[.int .i64 n, .int .i64 lo, .int .i64 hi] w fun e w' => e = .returned (.bool (decide (lo ≤ n ∧ n ≤ hi))) ∧ w' = w := by
  go_enter Try.func41, Try.ntmps41
  go_wp2
  all_goals
    go_ret
    refine ⟨ret_bool ?_, rfl⟩
    rw [Bool.eq_iff_iff]; simp; try omega

set_option maxHeartbeats 2000000 in
theorem rslots_any (A : Option Addr) (c : Nat) (F : List Ty) (w : World) (hl : TysAt w A F) (hb : F.length ≤ 1000000) :
    Calls Try.prog 43 #[.slice A F.length c] w fun e w' => e = .returned (.int .i64 (slotsN F : Nat)) ∧ w' = w := by
  obtain ⟨hm, hl⟩ := hl
  clear hm
  have HS : Hid (∀ k, k < F.length → slotsN (F.take (k + 1)) = slotsN (F.take k) + (if (nth ty0 F k).kind = 2 then 2 else 1)) := slotsN_take F
  have HB : Hid (∀ k, slotsN (F.take k) ≤ 2 * k) := fun k => by have := slotsN_le (F.take k); have := List.length_take_le k F; omega
  go_enter Try.func43, Try.ntmps43
  go_wp2
  go_loop [3, 4] (fun n i => ∃ k : Nat, k ≤ F.length ∧ i = .int .i64 k ∧ n = .int .i64 ((F.length : Int) + ((slotsN (F.take k) : Nat) : Int) - k)) (fun _ i => F.length - (intOf i).toNat)
  case atStart => exact ⟨0, Nat.zero_le _, rfl, by simp [slotsN]⟩
  case round =>
    obtain ⟨k, hk, rfl, rfl⟩ := hrel
    have h2 := HB.out k
    by_cases hlt : k < F.length
    · rcases hl with h0 | ⟨b, off, rfl, hcell⟩
      · omega
      have ht := (hcell k hlt).1
      have hs := HS.out k hlt
      clear hcell
      by_cases hk2 : (nth ty0 F k).kind = 2
      · rw [if_pos hk2] at hs
        rw [hk2] at ht
        have HS' : Hid (slotsN (F.take (k + 1)) = slotsN (F.take k) + 2) := hs
        clear hs hk2
        go_wp2
        go_round
        case rel => exact ⟨k + 1, by omega, by go_num, by rw [HS'.out]; go_num⟩
        case measure => simp [intOf]; omega
      · rw [if_neg hk2] at hs
        have HS' : Hid (slotsN (F.take (k + 1)) = slotsN (F.take k) + 1) := hs
        have hk2' : ((nth ty0 F k).kind == 2) = false := by simpa using hk2
        clear hs hk2
        go_wp2
        go_round
        case rel => exact ⟨k + 1, by omega, by go_num, by rw [HS'.out]; go_num⟩
        case measure => simp [intOf]; omega
    · obtain rfl : k = F.length := by omega
      rw [List.take_length] at *
      go_wp2
      go_ret
      exact ⟨ret_int (by omega), rfl⟩

end Go.Proofs.Ytgiiapenmjollab
