/-
  Instructions are laid behind a row of bytes.
-/
import Derived.Test.YtgiiapenmjollacLWirePutB
namespace Go.Proofs.Ytgiiapenmjollac
open Go.RowKit
set_option maxRecDepth 100000
set_option linter.unusedVariables false
set_option linter.unusedSimpArgs false
set_option maxHeartbeats 8000000 in
theorem putIns_any (W0 : World) (v : Value) (l : List Int) (t : In) (A : Option Addr) (cp : Nat) (w : World) (hr : Rw W0 w v l) (h0 : t.ok) (hA : IntsAt W0 A t.args) (hl : (l ++ encIn t).length ≤ 100000000) :
    Calls Try.prog 34 #[v, .agg #[.int .i64 t.op, .int .i64 t.a, .int .i64 t.b, .int .i64 t.c, .int .i64 t.n, .slice A t.args.length cp]] w (PQ W0 w v (l ++ encIn t)) := by
  have HR := hidW hr
  have HS := hidW h0
  have HA := hidW hA
  clear hr h0 hA
  have HB4 := hidW (cell_of_new (w := w) (cs := #[.int .i64 t.op, .int .i64 t.a, .int .i64 t.b, .int .i64 t.c, .int .i64 t.n, .slice A t.args.length cp]) (t := 44) (o := 4) rfl)
  have HB5 := hidW (cell_of_new (w := w) (cs := #[.int .i64 t.op, .int .i64 t.a, .int .i64 t.b, .int .i64 t.c, .int .i64 t.n, .slice A t.args.length cp]) (t := 44) (o := 5) rfl)
  have HF := hidW (HR.out.far (p := w.heap.size) (Or.inl (Nat.le_refl _)))
  have HE := hidW (show (((l ++ ([t.op, t.a, t.b, t.c].map wideL).flatten) ++ wideL t.n) ++ encL wideL t.args) = l ++ encIn t by simp [encIn])
  have HL3 := hidW (show ((((l ++ ([t.op, t.a, t.b, t.c].map wideL).flatten) ++ wideL t.n) ++ encL wideL t.args)).length ≤ 100000000 by rw [HE.out]; exact hl)
  have HL2 := hidW (len_0 HL3.out)
  have HL1 := hidW (len_0 HL2.out)
  clear hl
  have HX := hidW (putRow_any W0 v l [t.op, t.a, t.b, t.c] (w.heap.size + 1) 4 ((w.alloc (.cells #[.int .i64 t.op, .int .i64 t.a, .int .i64 t.b, .int .i64 t.c, .int .i64 t.n, .slice A t.args.length cp] 44)).alloc (.cells #[.int .i64 t.op, .int .i64 t.a, .int .i64 t.b, .int .i64 t.c] 83)) ((HR.out.alloc _).alloc _) (HR.out.far (Or.inl (by omega))) (by simp) (row_new _ [t.op, t.a, t.b, t.c] _ (by simp) (by simp; exact ⟨HS.out.1, HS.out.2.1, HS.out.2.2.1, HS.out.2.2.2.1⟩)) HL1.out)
  go_enter Try.func34, Try.ntmps34
  go_wp2_with (first
    | (go_at_call 32; refine HX.out.mono ?_; rintro e w1 ⟨v1, rfl, r1, o1⟩; have R1 := hidW r1; have O1 := hidW (((Out.refl _ v).alloc _).trans o1); clear r1 o1; have b4 := O1.out.cell HB4.out HF.out)
    | (go_at_call 46; refine (putNum64_any W0 _ _ _ _ R1.out HS.out.2.2.2.2 HL1.out).mono ?_; rintro e w2 ⟨v2, rfl, r2, o2⟩; have R2 := hidW r2; have O2 := hidW (O1.out.trans o2); clear r2 o2; have b5 := O2.out.cell HB5.out HF.out)
    | (go_at_call 47; refine (putInts_any W0 _ _ _ _ _ _ R2.out HA.out HL3.out).mono ?_; rintro e w3 ⟨v3, rfl, r3, o3⟩))
  go_ret
  exact ⟨_, rfl, r3.to HE.out, ((Out.refl w v).alloc _).trans (O2.out.trans o3)⟩

set_option maxHeartbeats 8000000 in
theorem putCode_any (W0 : World) (v : Value) (l : List Int) (ts : List In) (A : Option Addr) (cp : Nat) (w : World) (hr : Rw W0 w v l) (hA : InsAt W0 A ts) (hl : (l ++ encL encIn ts).length ≤ 100000000) :
    Calls Try.prog 33 #[v, .slice A ts.length cp, .func (.func 34) #[] #[]] w (PQ W0 w v (l ++ encL encIn ts)) := by
  have HR := hidW hr
  have HA := hidW hA
  have HL := hidW hl
  have hm := hA.1
  unfold maxLen at hm
  clear hr hA hl
  go_enter Try.func33, Try.ntmps33
  go_wp2_with (go_at_call 29; refine (putNum_any W0 v l _ _ HR.out (by unfold I64; omega) (len_0 HL.out)).mono ?_; rintro e w1 ⟨v1, rfl, r1, o1⟩)
  have R1 := hidW r1
  have O1 := hidW o1
  clear r1 o1
  go_loopw [0, 15] (fun b s wr => ∃ k : Nat, k ≤ ts.length ∧ s = .int .i64 (k : Int) ∧ Rw W0 wr b (l ++ (wideL ts.length ++ ((ts.take k).map encIn).flatten)) ∧ Out w wr v b) (fun _ s _ => ts.length - (intOf s).toNat)
  case atStart => exact ⟨0, by omega, rfl, R1.out.to (cat_0 encIn l ts), O1.out⟩
  case round =>
    obtain ⟨k, hk, rfl, h1, h2⟩ := hrel
    have H1 := hidW h1
    have H2 := hidW h2
    clear h1 h2 R1 O1
    by_cases hlt : k < ts.length
    · rcases HA.out.2 with h0 | ⟨b, off, rfl, hi⟩
      · omega
      obtain ⟨c0, c1, c2, c3, c4, x0, A2, cp2, c5, x1⟩ := hi k hlt
      clear hi
      have d0 := H1.out.bl.cell c0
      have d1 := H1.out.bl.cell c1
      have d2 := H1.out.bl.cell c2
      have d3 := H1.out.bl.cell c3
      have d4 := H1.out.bl.cell c4
      have d5 := H1.out.bl.cell c5
      have X := hidW (And.intro x0 x1)
      clear c0 c1 c2 c3 c4 c5
      go_wp2_with (go_at_call 34; refine (putIns_any W0 _ _ (nth in0 ts k) A2 cp2 _ (H1.out.alloc _) X.out.1 X.out.2 (len_ok in0 encIn l ts k hlt HL.out)).mono ?_; rintro e w2 ⟨v2, rfl, r2, o2⟩)
      go_roundw
      case rel => exact ⟨k + 1, by omega, by go_num, r2.to (cat_ok in0 encIn l ts k hlt), (H2.out.alloc _).trans o2⟩
      case measure => simp [intOf]; omega
    · obtain rfl : k = ts.length := by omega
      go_wp2
      go_ret
      exact ⟨_, rfl, H1.out.to (cat_all encIn l ts), H2.out⟩

end Go.Proofs.Ytgiiapenmjollac
