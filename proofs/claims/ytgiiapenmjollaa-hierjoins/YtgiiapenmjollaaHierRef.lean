/-
  What the document answers for Below and Join, of classes that may be: each by a contract.
-/
import Derived.Test.YtgiiapenmjollaaChecked
import Derived.Test.YtgiiapenmjollaaHierPlain
import Derived.Test.YtgiiapenmjollaaRefTwo
import Derived.Handy
namespace Go.Proofs.Ytgiiapenmjollaa
open Go.RowKit

set_option maxHeartbeats 2000000 in
theorem rbelow_any (A : Option Addr) (c : Nat) (l : List Cl) (x y : Int) (w : World) (hl : ClsAt w A l) (ht : Tree l) :
    Calls Try.prog 25 #[.slice A l.length c, .int .i64 x, .int .i64 y] w fun e w' => e = .returned (.bool (clsI l x y && belN l x.toNat y.toNat)) ∧ w' = w := by
  obtain ⟨hm, hl⟩ := hl
  unfold maxLen at hm
  by_cases hin : 0 ≤ x ∧ x < l.length ∧ 0 ≤ y ∧ y < l.length
  · have hI : clsI l x y = true := decide_eq_true hin
    rw [hI, Bool.true_and]
    clear hI
    obtain ⟨h1, h2, h3, h4⟩ := hin
    obtain ⟨u, rfl⟩ := Int.eq_ofNat_of_zero_le h1
    obtain ⟨d, rfl⟩ := Int.eq_ofNat_of_zero_le h3
    simp only [Int.toNat_natCast]
    have HT : Hid (Tree l) := ht
    rcases hl with hl | ⟨b, off, rfl, hc⟩
    · omega
    have hu : u < l.length := by omega
    have hd : d < l.length := by omega
    clear ht
    go_enter Try.func25, Try.ntmps25
    go_wp2
    go_loop [1] (fun i => ∃ k : Nat, i = .int .i64 k ∧ k < l.length ∧ Hid (belN l u d = belN l k d)) (fun i => (intOf i).toNat)
    case atStart => exact ⟨u, rfl, hu, rfl⟩
    case round =>
      obtain ⟨k, rfl, hk, hb⟩ := hrel
      by_cases hlt : d < k
      · have hsup := (hc k hk).1
        rw [super_par HT.out (by omega) hk] at hsup
        have hp := par_lt HT.out (by omega) hk
        have hs := bel_step HT.out hk hlt
        have HS : Hid (belN l u d = belN l (par l k) d) := hb.out.trans hs
        clear hc hs hb
        go_wp2
        go_round
        case rel => exact ⟨par l k, rfl, by omega, HS⟩
        case measure => simp [intOf]; omega
      · have HS : Hid (belN l u d = decide (k = d)) := by
          refine hb.out.trans ?_
          by_cases he : k = d
          · subst he; rw [bel_self, decide_eq_true rfl]
          · rw [bel_low HT.out hk (by omega), decide_eq_false he]
        clear hc hb
        go_wp2
        go_ret
        refine ⟨ret_bool ?_, rfl⟩
        rw [HS.out, Bool.eq_iff_iff]; simp; omega
  · have hI : clsI l x y = false := decide_eq_false hin
    rw [hI, Bool.false_and]
    clear hI hl ht
    go_enter Try.func25, Try.ntmps25
    go_wp2
    all_goals first
      | (go_ret; exact ⟨rfl, rfl⟩)
      | (exfalso; omega)

end Go.Proofs.Ytgiiapenmjollaa
