/-
  Lists of types, of handlers, of numbers are laid behind a row of bytes.
-/
import Derived.Test.YtgiiapenmjollacLWirePutA
namespace Go.Proofs.Ytgiiapenmjollac
open Go.RowKit
set_option maxRecDepth 100000
set_option linter.unusedVariables false
set_option linter.unusedSimpArgs false

set_option maxHeartbeats 8000000 in
theorem putTypes_any (W0 : World) (v : Value) (l : List Int) (ts : List Ty) (A : Option Addr) (cp : Nat) (w : World) (hr : Rw W0 w v l) (hA : TysAt W0 A ts) (hl : (l ++ encL encTy ts).length ≤ 100000000) :
    Calls Try.prog 30 #[v, .slice A ts.length cp, .func (.func 31) #[] #[]] w (PQ W0 w v (l ++ encL encTy ts)) := by
  have HR := hidW hr
  have HA := hidW hA
  have HL := hidW hl
  have hm := hA.1
  unfold maxLen at hm
  clear hr hA hl
  go_enter Try.func30, Try.ntmps30
  go_wp2_with (go_at_call 29; refine (putNum_any W0 v l _ _ HR.out (by unfold I64; omega) (len_0 HL.out)).mono ?_; rintro e w1 ⟨v1, rfl, r1, o1⟩)
  have R1 := hidW r1
  have O1 := hidW o1
  clear r1 o1
  go_loopw [0, 15] (fun b s wr => ∃ k : Nat, k ≤ ts.length ∧ s = .int .i64 (k : Int) ∧ Rw W0 wr b (l ++ (wideL ts.length ++ ((ts.take k).map encTy).flatten)) ∧ Out w wr v b) (fun _ s _ => ts.length - (intOf s).toNat)
  case atStart => exact ⟨0, by omega, rfl, R1.out.to (cat_0 encTy l ts), O1.out⟩
  case round =>
    obtain ⟨k, hk, rfl, h1, h2⟩ := hrel
    have H1 := hidW h1
    have H2 := hidW h2
    clear h1 h2 R1 O1
    by_cases hlt : k < ts.length
    · rcases HA.out.2 with h0 | ⟨b, off, rfl, hi⟩
      · omega
      obtain ⟨c0, c1, x0, x1⟩ := hi k hlt
      clear hi
      have d0 := H1.out.bl.cell c0
      have d1 := H1.out.bl.cell c1
      have X := hidW (And.intro x0 x1)
      clear c0 c1
      go_wp2_with (go_at_call 31; refine (putType_any W0 _ _ (nth ty0 ts k) _ (H1.out.alloc _) X.out (len_ok ty0 encTy l ts k hlt HL.out)).mono ?_; rintro e w2 ⟨v2, rfl, r2, o2⟩)
      go_roundw
      case rel => exact ⟨k + 1, by omega, by go_num, r2.to (cat_ok ty0 encTy l ts k hlt), (H2.out.alloc _).trans o2⟩
      case measure => simp [intOf]; omega
    · obtain rfl : k = ts.length := by omega
      go_wp2
      go_ret
      exact ⟨_, rfl, H1.out.to (cat_all encTy l ts), H2.out⟩

set_option maxHeartbeats 8000000 in
theorem putHandlers_any (W0 : World) (v : Value) (l : List Int) (ts : List Hd) (A : Option Addr) (cp : Nat) (w : World) (hr : Rw W0 w v l) (hA : HdsAt W0 A ts) (hl : (l ++ encL encHd ts).length ≤ 100000000) :
    Calls Try.prog 35 #[v, .slice A ts.length cp, .func (.func 36) #[] #[]] w (PQ W0 w v (l ++ encL encHd ts)) := by
  have HR := hidW hr
  have HA := hidW hA
  have HL := hidW hl
  have hm := hA.1
  unfold maxLen at hm
  clear hr hA hl
  go_enter Try.func35, Try.ntmps35
  go_wp2_with (go_at_call 29; refine (putNum_any W0 v l _ _ HR.out (by unfold I64; omega) (len_0 HL.out)).mono ?_; rintro e w1 ⟨v1, rfl, r1, o1⟩)
  have R1 := hidW r1
  have O1 := hidW o1
  clear r1 o1
  go_loopw [0, 15] (fun b s wr => ∃ k : Nat, k ≤ ts.length ∧ s = .int .i64 (k : Int) ∧ Rw W0 wr b (l ++ (wideL ts.length ++ ((ts.take k).map encHd).flatten)) ∧ Out w wr v b) (fun _ s _ => ts.length - (intOf s).toNat)
  case atStart => exact ⟨0, by omega, rfl, R1.out.to (cat_0 encHd l ts), O1.out⟩
  case round =>
    obtain ⟨k, hk, rfl, h1, h2⟩ := hrel
    have H1 := hidW h1
    have H2 := hidW h2
    clear h1 h2 R1 O1
    by_cases hlt : k < ts.length
    · rcases HA.out.2 with h0 | ⟨b, off, rfl, hi⟩
      · omega
      obtain ⟨c0, c1, c2, c3, x0⟩ := hi k hlt
      clear hi
      have d0 := H1.out.bl.cell c0
      have d1 := H1.out.bl.cell c1
      have d2 := H1.out.bl.cell c2
      have d3 := H1.out.bl.cell c3
      have X := hidW (x0)
      clear c0 c1 c2 c3
      go_wp2_with (go_at_call 36; refine (putHandler_any W0 _ _ (nth hd0 ts k) _ (H1.out.alloc _) X.out (len_ok hd0 encHd l ts k hlt HL.out)).mono ?_; rintro e w2 ⟨v2, rfl, r2, o2⟩)
      go_roundw
      case rel => exact ⟨k + 1, by omega, by go_num, r2.to (cat_ok hd0 encHd l ts k hlt), (H2.out.alloc _).trans o2⟩
      case measure => simp [intOf]; omega
    · obtain rfl : k = ts.length := by omega
      go_wp2
      go_ret
      exact ⟨_, rfl, H1.out.to (cat_all encHd l ts), H2.out⟩

set_option maxHeartbeats 8000000 in
theorem putInts_any (W0 : World) (v : Value) (l : List Int) (ts : List Int) (A : Option Addr) (cp : Nat) (w : World) (hr : Rw W0 w v l) (hA : IntsAt W0 A ts) (hl : (l ++ encL wideL ts).length ≤ 100000000) :
    Calls Try.prog 47 #[v, .slice A ts.length cp, .func (.func 29) #[] #[]] w (PQ W0 w v (l ++ encL wideL ts)) := by
  have HR := hidW hr
  have HA := hidW hA
  have HL := hidW hl
  have hm := hA.1
  unfold maxLen at hm
  clear hr hA hl
  go_enter Try.func47, Try.ntmps47
  go_wp2_with (go_at_call 29; refine (putNum_any W0 v l _ _ HR.out (by unfold I64; omega) (len_0 HL.out)).mono ?_; rintro e w1 ⟨v1, rfl, r1, o1⟩)
  have R1 := hidW r1
  have O1 := hidW o1
  clear r1 o1
  go_loopw [0, 15] (fun b s wr => ∃ k : Nat, k ≤ ts.length ∧ s = .int .i64 (k : Int) ∧ Rw W0 wr b (l ++ (wideL ts.length ++ ((ts.take k).map wideL).flatten)) ∧ Out w wr v b) (fun _ s _ => ts.length - (intOf s).toNat)
  case atStart => exact ⟨0, by omega, rfl, R1.out.to (cat_0 wideL l ts), O1.out⟩
  case round =>
    obtain ⟨k, hk, rfl, h1, h2⟩ := hrel
    have H1 := hidW h1
    have H2 := hidW h2
    clear h1 h2 R1 O1
    by_cases hlt : k < ts.length
    · rcases HA.out.2 with h0 | ⟨b, off, rfl, hi⟩
      · omega
      obtain ⟨c0, x0⟩ := hi k hlt
      clear hi
      have d0 := H1.out.bl.cell c0
      have X := hidW (x0)
      clear c0
      go_wp2_with (go_at_call 29; refine (putNum_any W0 _ _ (nth (0 : Int) ts k) _ H1.out X.out (len_0 (len_ok (0 : Int) wideL l ts k hlt HL.out))).mono ?_; rintro e w2 ⟨v2, rfl, r2, o2⟩)
      go_roundw
      case rel => exact ⟨k + 1, by omega, by go_num, r2.to (cat_ok (0 : Int) wideL l ts k hlt), H2.out.trans o2⟩
      case measure => simp [intOf]; omega
    · obtain rfl : k = ts.length := by omega
      go_wp2
      go_ret
      exact ⟨_, rfl, H1.out.to (cat_all wideL l ts), H2.out⟩

end Go.Proofs.Ytgiiapenmjollac
