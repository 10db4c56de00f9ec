/-
  crosswalkref12.Same of one file that lies twice: true.
-/
import Derived.Test.YtgiiapenmjollacLWireRow
import Derived.Test.YtgiiapenmjollacLFut
import Derived.Test.YtgiiapenmjollacLWireGood
import Derived.Deep.RegionHeld3
import Derived.Laws.StructEq
namespace Go.Proofs.Ytgiiapenmjollac
open Go.RowKit
set_option maxRecDepth 100000
set_option linter.unusedVariables false
set_option linter.unusedSimpArgs false

theorem ty_fieldsW : Try.prog.underlying 36 = some (.struct (Try.prog.fieldsOf 36)) := by kernel_rfl
theorem ty_heldW : Try.prog.stoodInHeld 36 = false := by kernel_rfl
theorem hd_fieldsW : Try.prog.underlying 47 = some (.struct (Try.prog.fieldsOf 47)) := by kernel_rfl
theorem hd_heldW : Try.prog.stoodInHeld 47 = false := by kernel_rfl
theorem eq_ty (a b : Int) (w : World) : (Op.equalIn 10000 36 (.agg #[.int .i64 a, .int .i64 b]) (.agg #[.int .i64 a, .int .i64 b])).run Try.prog w = .ok true w := by
  rw [run_equalIn_agg w 9999 _ _ _ ty_fieldsW ty_heldW]
  simp [go_sem, Try.underlying36, Try.underlying3]
theorem eq_hd (a b c d : Int) (w : World) : (Op.equalIn 10000 47 (.agg #[.int .i64 a, .int .i64 b, .int .i64 c, .int .i64 d]) (.agg #[.int .i64 a, .int .i64 b, .int .i64 c, .int .i64 d])).run Try.prog w = .ok true w := by
  rw [run_equalIn_agg w 9999 _ _ _ hd_fieldsW hd_heldW]
  simp [go_sem, Try.underlying47, Try.underlying3]

set_option maxHeartbeats 4000000 in
theorem ints_same (l : List Int) (A B : Option Addr) (a b : Nat) (w : World) (hA : IntsAt w A l) (hB : IntsAt w B l) :
    Calls Try.prog 11 #[.slice A l.length a, .slice B l.length b] w fun e w' => e = .returned (.bool true) ∧ Bl w w' := by
  have HA := hidW hA
  have HB := hidW hB
  have hm := hA.1
  unfold maxLen at hm
  clear hA hB
  go_enter Try.func11, Try.ntmps11
  go_wp2
  go_loopw [5] (fun i wr => ∃ k : Nat, k ≤ l.length ∧ i = .int .i64 (k : Int) ∧ Bl w wr) (fun i _ => l.length - (intOf i).toNat)
  case atStart => exact ⟨0, by omega, rfl, Bl.refl _⟩
  case round =>
    obtain ⟨k, hk, rfl, h1⟩ := hrel
    have H1 := hidW h1
    clear h1
    by_cases hlt : k < l.length
    · rcases HA.out.2 with h0 | ⟨p, q, rfl, hi⟩
      · omega
      rcases HB.out.2 with h0 | ⟨p', q', rfl, hj⟩
      · omega
      have c0 := fut_cell (H1.out.cell (hi k hlt).1)
      have c1 := fut_cell (H1.out.cell (hj k hlt).1)
      clear hi hj
      have hk0 : (0 : Int) ≤ (k : Int) := by omega
      have hk1 : (k : Int) < (l.length : Int) := by omega
      go_wp2
      refine wp_region_fut (by kernel_rfl) (by kernel_rfl) fun hne => ?_
      repeat (go_big_quiet_step (fail))
      refine wpQuiet_nil ?_
      rintro _ ⟨⟨w2, hw2⟩, rfl⟩
      go_wp2
      go_roundw
      case rel => exact ⟨k + 1, by omega, by go_num, H1.out.trans hw2⟩
      case measure => simp [intOf]; omega
    · obtain rfl : k = l.length := by omega
      go_wp2
      go_ret
      exact ⟨rfl, H1.out⟩

set_option maxHeartbeats 4000000 in
theorem types_same (l : List Ty) (A B : Option Addr) (a b : Nat) (w : World) (hA : TysAt w A l) (hB : TysAt w B l) :
    Calls Try.prog 10 #[.slice A l.length a, .slice B l.length b] w fun e w' => e = .returned (.bool true) ∧ Bl w w' := by
  have HA := hidW hA
  have HB := hidW hB
  have hm := hA.1
  unfold maxLen at hm
  clear hA hB
  go_enter Try.func10, Try.ntmps10
  go_wp2
  go_loopw [5] (fun i wr => ∃ k : Nat, k ≤ l.length ∧ i = .int .i64 (k : Int) ∧ Bl w wr) (fun i _ => l.length - (intOf i).toNat)
  case atStart => exact ⟨0, by omega, rfl, Bl.refl _⟩
  case round =>
    obtain ⟨k, hk, rfl, h1⟩ := hrel
    have H1 := hidW h1
    clear h1
    by_cases hlt : k < l.length
    · rcases HA.out.2 with h0 | ⟨p, q, rfl, hi⟩
      · omega
      rcases HB.out.2 with h0 | ⟨p', q', rfl, hj⟩
      · omega
      have c0 := fut_cell (H1.out.cell (hi k hlt).1)
      have c1 := fut_cell (H1.out.cell (hi k hlt).2.1)
      have c2 := fut_cell (H1.out.cell (hj k hlt).1)
      have c3 := fut_cell (H1.out.cell (hj k hlt).2.1)
      have heq := eq_ty (nth ty0 l k).kind (nth ty0 l k).cls
      clear hi hj
      have hk0 : (0 : Int) ≤ (k : Int) := by omega
      have hk1 : (k : Int) < (l.length : Int) := by omega
      go_wp2
      refine wp_region_fut (by kernel_rfl) (by kernel_rfl) fun hne => ?_
      repeat (go_big_quiet_step (fail))
      refine wpQuiet_nil ?_
      rintro _ ⟨⟨w2, hw2⟩, rfl⟩
      go_wp2
      go_roundw
      case rel => exact ⟨k + 1, by omega, by go_num, H1.out.trans hw2⟩
      case measure => simp [intOf]; omega
    · obtain rfl : k = l.length := by omega
      go_wp2
      go_ret
      exact ⟨rfl, H1.out⟩

set_option maxHeartbeats 4000000 in
theorem classes_same (l : List Cl) (A B : Option Addr) (a b : Nat) (w : World) (hA : ClsAt w A l) (hB : ClsAt w B l) :
    Calls Try.prog 9 #[.slice A l.length a, .slice B l.length b] w fun e w' => e = .returned (.bool true) ∧ Bl w w' := by
  have HA := hidW hA
  have HB := hidW hB
  have hm := hA.1
  unfold maxLen at hm
  clear hA hB
  go_enter Try.func9, Try.ntmps9
  go_wp2
  go_loopw [5] (fun i wr => ∃ k : Nat, k ≤ l.length ∧ i = .int .i64 (k : Int) ∧ Bl w wr) (fun i _ => l.length - (intOf i).toNat)
  case atStart => exact ⟨0, by omega, rfl, Bl.refl _⟩
  case round =>
    obtain ⟨k, hk, rfl, h1⟩ := hrel
    have H1 := hidW h1
    clear h1
    by_cases hlt : k < l.length
    · rcases HA.out.2 with h0 | ⟨p, q, rfl, hi⟩
      · omega
      rcases HB.out.2 with h0 | ⟨p', q', rfl, hj⟩
      · omega
      obtain ⟨i0, -, A2, a2, i1, i2⟩ := hi k hlt
      obtain ⟨j0, -, B2, b2, j1, j2⟩ := hj k hlt
      have c0 := fut_cell (H1.out.cell i0)
      have c1 := fut_cell (H1.out.cell i1)
      have c2 := fut_cell (H1.out.cell j0)
      have c3 := fut_cell (H1.out.cell j1)
      have I2 := hidW (i2.bl H1.out)
      have J2 := hidW (j2.bl H1.out)
      clear hi hj i0 i1 j0 j1 i2 j2
      have hk0 : (0 : Int) ≤ (k : Int) := by omega
      have hk1 : (k : Int) < (l.length : Int) := by omega
      go_wp2
      refine wp_region_fut (by kernel_rfl) (by kernel_rfl) fun hne => ?_
      repeat (go_big_quiet_step ((go_at_call 10; exact Calls.fut _ (types_same _ _ _ _ _ _ (I2.out.bl (Fut.is _)) (J2.out.bl (Fut.is _))))))
      refine wpQuiet_nil ?_
      rintro _ ⟨⟨w2, hw2⟩, rfl⟩
      go_wp2
      go_roundw
      case rel => exact ⟨k + 1, by omega, by go_num, H1.out.trans hw2⟩
      case measure => simp [intOf]; omega
    · obtain rfl : k = l.length := by omega
      go_wp2
      go_ret
      exact ⟨rfl, H1.out⟩

end Go.Proofs.Ytgiiapenmjollac
