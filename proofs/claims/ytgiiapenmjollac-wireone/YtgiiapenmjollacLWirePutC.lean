/-
  Classes are laid behind a row of bytes.
-/
import Derived.Test.YtgiiapenmjollacLWirePutB
namespace Go.Proofs.Ytgiiapenmjollac
open Go.RowKit
set_option maxRecDepth 100000
set_option linter.unusedVariables false
set_option linter.unusedSimpArgs false
set_option maxHeartbeats 8000000 in
theorem putClass_any (W0 : World) (v : Value) (l : List Int) (t : Cl) (A : Option Addr) (cp : Nat) (w : World) (hr : Rw W0 w v l) (h0 : I64 t.super) (hA : TysAt W0 A t.fields) (hl : (l ++ encCl t).length ≤ 100000000) :
    Calls Try.prog 18 #[v, .agg #[.int .i64 t.super, .slice A t.fields.length cp]] w (PQ W0 w v (l ++ encCl t)) := by
  have HR := hidW hr
  have HS := hidW h0
  have HA := hidW hA
  have HL := hidW hl
  clear hr h0 hA hl
  have HB := hidW (cell_of_new (w := w) (cs := #[.int .i64 t.super, .slice A t.fields.length cp]) (t := 55) (o := 1) rfl)
  have HF := hidW (HR.out.far (p := w.heap.size) (Or.inl (Nat.le_refl _)))
  have HL2 := hidW (show ((l ++ wideL t.super) ++ encL encTy t.fields).length ≤ 100000000 by have := HL.out; unfold encCl at this; rw [List.append_assoc]; exact this)
  go_enter Try.func18, Try.ntmps18
  go_wp2_with (first
    | (go_at_call 29; refine (putNum_any W0 v l _ _ (HR.out.alloc _) HS.out (len_0 HL.out)).mono ?_; rintro e w1 ⟨v1, rfl, r1, o1⟩; have b1 := o1.cell HB.out HF.out; have R1 := hidW r1; have O1 := hidW o1; clear r1 o1)
    | (go_at_call 30; refine (putTypes_any W0 _ _ _ _ _ _ R1.out HA.out HL2.out).mono ?_; rintro e w2 ⟨v2, rfl, r2, o2⟩))
  go_ret
  exact ⟨_, rfl, r2.to (by unfold encCl; rw [List.append_assoc]), (((Out.refl w v).alloc _).trans O1.out).trans o2⟩

set_option maxHeartbeats 8000000 in
theorem putClasses_any (W0 : World) (v : Value) (l : List Int) (ts : List Cl) (A : Option Addr) (cp : Nat) (w : World) (hr : Rw W0 w v l) (hA : ClsAt W0 A ts) (hl : (l ++ encL encCl ts).length ≤ 100000000) :
    Calls Try.prog 17 #[v, .slice A ts.length cp, .func (.func 18) #[] #[]] w (PQ W0 w v (l ++ encL encCl ts)) := by
  have HR := hidW hr
  have HA := hidW hA
  have HL := hidW hl
  have hm := hA.1
  unfold maxLen at hm
  clear hr hA hl
  go_enter Try.func17, Try.ntmps17
  go_wp2_with (go_at_call 29; refine (putNum_any W0 v l _ _ HR.out (by unfold I64; omega) (len_0 HL.out)).mono ?_; rintro e w1 ⟨v1, rfl, r1, o1⟩)
  have R1 := hidW r1
  have O1 := hidW o1
  clear r1 o1
  go_loopw [0, 15] (fun b s wr => ∃ k : Nat, k ≤ ts.length ∧ s = .int .i64 (k : Int) ∧ Rw W0 wr b (l ++ (wideL ts.length ++ ((ts.take k).map encCl).flatten)) ∧ Out w wr v b) (fun _ s _ => ts.length - (intOf s).toNat)
  case atStart => exact ⟨0, by omega, rfl, R1.out.to (cat_0 encCl l ts), O1.out⟩
  case round =>
    obtain ⟨k, hk, rfl, h1, h2⟩ := hrel
    have H1 := hidW h1
    have H2 := hidW h2
    clear h1 h2 R1 O1
    by_cases hlt : k < ts.length
    · rcases HA.out.2 with h0 | ⟨b, off, rfl, hi⟩
      · omega
      obtain ⟨c0, x0, A2, cp2, c1, x1⟩ := hi k hlt
      clear hi
      have d0 := H1.out.bl.cell c0
      have d1 := H1.out.bl.cell c1
      have X := hidW (And.intro x0 x1)
      clear c0 c1
      go_wp2_with (go_at_call 18; refine (putClass_any W0 _ _ (nth cl0 ts k) A2 cp2 _ (H1.out.alloc _) X.out.1 X.out.2 (len_ok cl0 encCl l ts k hlt HL.out)).mono ?_; rintro e w2 ⟨v2, rfl, r2, o2⟩)
      go_roundw
      case rel => exact ⟨k + 1, by omega, by go_num, r2.to (cat_ok cl0 encCl l ts k hlt), (H2.out.alloc _).trans o2⟩
      case measure => simp [intOf]; omega
    · obtain rfl : k = ts.length := by omega
      go_wp2
      go_ret
      exact ⟨_, rfl, H1.out.to (cat_all encCl l ts), H2.out⟩

end Go.Proofs.Ytgiiapenmjollac
