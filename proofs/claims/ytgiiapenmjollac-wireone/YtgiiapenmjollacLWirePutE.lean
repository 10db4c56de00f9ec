/-
  Methods, and a file, are laid behind a row of bytes.
-/
import Derived.Test.YtgiiapenmjollacLWirePutC
import Derived.Test.YtgiiapenmjollacLWirePutD
namespace Go.Proofs.Ytgiiapenmjollac
open Go.RowKit
set_option maxRecDepth 100000
set_option linter.unusedVariables false
set_option linter.unusedSimpArgs false
set_option maxHeartbeats 8000000 in
theorem putMethod_any (W0 : World) (v : Value) (l : List Int) (t : Me) (P C K : Option Addr) (pp pc pk : Nat) (w : World) (hr : Rw W0 w v l) (hA : MeAt W0 t P C K) (hl : (l ++ encMe t).length ≤ 100000000) :
    Calls Try.prog 20 #[v, .agg #[.slice P t.params.length pp, .int .i64 t.ret.kind, .int .i64 t.ret.cls, .int .i64 t.stack, .int .i64 t.locs, .int .i64 t.regs, .slice C t.code.length pc, .slice K t.hands.length pk]] w (PQ W0 w v (l ++ encMe t)) := by
  have HR := hidW hr
  have HA := hidW hA
  clear hr hA
  have HB1 := hidW (cell_of_new (w := w) (cs := #[.slice P t.params.length pp, .int .i64 t.ret.kind, .int .i64 t.ret.cls, .int .i64 t.stack, .int .i64 t.locs, .int .i64 t.regs, .slice C t.code.length pc, .slice K t.hands.length pk]) (t := 40) (o := 1) rfl)
  have HB2 := hidW (cell_of_new (w := w) (cs := #[.slice P t.params.length pp, .int .i64 t.ret.kind, .int .i64 t.ret.cls, .int .i64 t.stack, .int .i64 t.locs, .int .i64 t.regs, .slice C t.code.length pc, .slice K t.hands.length pk]) (t := 40) (o := 2) rfl)
  have HB3 := hidW (cell_of_new (w := w) (cs := #[.slice P t.params.length pp, .int .i64 t.ret.kind, .int .i64 t.ret.cls, .int .i64 t.stack, .int .i64 t.locs, .int .i64 t.regs, .slice C t.code.length pc, .slice K t.hands.length pk]) (t := 40) (o := 3) rfl)
  have HB4 := hidW (cell_of_new (w := w) (cs := #[.slice P t.params.length pp, .int .i64 t.ret.kind, .int .i64 t.ret.cls, .int .i64 t.stack, .int .i64 t.locs, .int .i64 t.regs, .slice C t.code.length pc, .slice K t.hands.length pk]) (t := 40) (o := 4) rfl)
  have HB5 := hidW (cell_of_new (w := w) (cs := #[.slice P t.params.length pp, .int .i64 t.ret.kind, .int .i64 t.ret.cls, .int .i64 t.stack, .int .i64 t.locs, .int .i64 t.regs, .slice C t.code.length pc, .slice K t.hands.length pk]) (t := 40) (o := 5) rfl)
  have HB6 := hidW (cell_of_new (w := w) (cs := #[.slice P t.params.length pp, .int .i64 t.ret.kind, .int .i64 t.ret.cls, .int .i64 t.stack, .int .i64 t.locs, .int .i64 t.regs, .slice C t.code.length pc, .slice K t.hands.length pk]) (t := 40) (o := 6) rfl)
  have HB7 := hidW (cell_of_new (w := w) (cs := #[.slice P t.params.length pp, .int .i64 t.ret.kind, .int .i64 t.ret.cls, .int .i64 t.stack, .int .i64 t.locs, .int .i64 t.regs, .slice C t.code.length pc, .slice K t.hands.length pk]) (t := 40) (o := 7) rfl)
  have HF := hidW (HR.out.far (p := w.heap.size) (Or.inl (Nat.le_refl _)))
  have HE := hidW (show ((((l ++ encL encTy t.params) ++ encTy t.ret) ++ ([t.stack, t.locs, t.regs].map wideL).flatten) ++ encL encIn t.code) ++ encL encHd t.hands = l ++ encMe t by simp [encMe])
  have HL5 := hidW (show (((((l ++ encL encTy t.params) ++ encTy t.ret) ++ ([t.stack, t.locs, t.regs].map wideL).flatten) ++ encL encIn t.code) ++ encL encHd t.hands).length ≤ 100000000 by rw [HE.out]; exact hl)
  have HL4 := hidW (len_0 HL5.out)
  have HL3 := hidW (len_0 HL4.out)
  have HL2 := hidW (len_0 HL3.out)
  have HL1 := hidW (len_0 HL2.out)
  clear hl
  have HX := hidW (fun (w2 : World) (v2 : Value) (r2 : Rw W0 w2 v2 ((l ++ encL encTy t.params) ++ encTy t.ret)) => putRow_any W0 v2 ((l ++ encL encTy t.params) ++ encTy t.ret) [t.stack, t.locs, t.regs] w2.heap.size 3 (w2.alloc (.cells #[.int .i64 t.stack, .int .i64 t.locs, .int .i64 t.regs] 71)) (r2.alloc _) (r2.far (Or.inl (by omega))) (by simp) (row_new _ [t.stack, t.locs, t.regs] _ rfl (by simp; exact HA.out.2.2.2.2.2)) HL3.out)
  go_enter Try.func20, Try.ntmps20
  go_wp2_with (first
    | (go_at_call 30; refine (putTypes_any W0 v l _ _ _ _ (HR.out.alloc _) HA.out.1 HL1.out).mono ?_; rintro e w1 ⟨v1, rfl, r1, o1⟩; have R1 := hidW r1; have O1 := hidW o1; clear r1 o1; have b1 := O1.out.cell HB1.out HF.out; have b2 := O1.out.cell HB2.out HF.out)
    | (go_at_call 31; refine (putType_any W0 _ _ t.ret _ R1.out ⟨HA.out.2.2.2.1, HA.out.2.2.2.2.1⟩ HL2.out).mono ?_; rintro e w2 ⟨v2, rfl, r2, o2⟩; have R2 := hidW r2; have O2 := hidW (O1.out.trans o2); clear r2 o2; have b3 := O2.out.cell HB3.out HF.out; have b4 := O2.out.cell HB4.out HF.out; have b5 := O2.out.cell HB5.out HF.out)
    | (go_at_call 32; refine (HX.out w2 v2 R2.out).mono ?_; rintro e w3 ⟨v3, rfl, r3, o3⟩; have R3 := hidW r3; have O3 := hidW ((O2.out.alloc _).trans o3); clear r3 o3; have b6 := O3.out.cell HB6.out HF.out)
    | (go_at_call 33; refine (putCode_any W0 _ _ _ _ _ _ R3.out HA.out.2.1 HL4.out).mono ?_; rintro e w4 ⟨v4, rfl, r4, o4⟩; have R4 := hidW r4; have O4 := hidW (O3.out.trans o4); clear r4 o4; have b7 := O4.out.cell HB7.out HF.out)
    | (go_at_call 35; refine (putHandlers_any W0 _ _ _ _ _ _ R4.out HA.out.2.2.1 HL5.out).mono ?_; rintro e w5 ⟨v5, rfl, r5, o5⟩))
  go_ret
  exact ⟨_, rfl, r5.to HE.out, ((Out.refl w v).alloc _).trans (O4.out.trans o5)⟩

set_option maxHeartbeats 8000000 in
theorem putMethods_any (W0 : World) (v : Value) (l : List Int) (ts : List Me) (A : Option Addr) (cp : Nat) (w : World) (hr : Rw W0 w v l) (hA : MesAt W0 A ts) (hl : (l ++ encL encMe ts).length ≤ 100000000) :
    Calls Try.prog 19 #[v, .slice A ts.length cp, .func (.func 20) #[] #[]] w (PQ W0 w v (l ++ encL encMe ts)) := by
  have HR := hidW hr
  have HA := hidW hA
  have HL := hidW hl
  have hm := hA.1
  unfold maxLen at hm
  clear hr hA hl
  go_enter Try.func19, Try.ntmps19
  go_wp2_with (go_at_call 29; refine (putNum_any W0 v l _ _ HR.out (by unfold I64; omega) (len_0 HL.out)).mono ?_; rintro e w1 ⟨v1, rfl, r1, o1⟩)
  have R1 := hidW r1
  have O1 := hidW o1
  clear r1 o1
  go_loopw [0, 15] (fun b s wr => ∃ k : Nat, k ≤ ts.length ∧ s = .int .i64 (k : Int) ∧ Rw W0 wr b (l ++ (wideL ts.length ++ ((ts.take k).map encMe).flatten)) ∧ Out w wr v b) (fun _ s _ => ts.length - (intOf s).toNat)
  case atStart => exact ⟨0, by omega, rfl, R1.out.to (cat_0 encMe l ts), O1.out⟩
  case round =>
    obtain ⟨k, hk, rfl, h1, h2⟩ := hrel
    have H1 := hidW h1
    have H2 := hidW h2
    clear h1 h2 R1 O1
    by_cases hlt : k < ts.length
    · rcases HA.out.2 with h0 | ⟨b, off, rfl, hi⟩
      · omega
      obtain ⟨P, C, K, pp, pc, pk, c0, c1, c2, c3, c4, c5, c6, c7, x0⟩ := hi k hlt
      clear hi
      have d0 := H1.out.bl.cell c0
      have d1 := H1.out.bl.cell c1
      have d2 := H1.out.bl.cell c2
      have d3 := H1.out.bl.cell c3
      have d4 := H1.out.bl.cell c4
      have d5 := H1.out.bl.cell c5
      have d6 := H1.out.bl.cell c6
      have d7 := H1.out.bl.cell c7
      have X := hidW (x0)
      clear c0 c1 c2 c3 c4 c5 c6 c7
      go_wp2_with (go_at_call 20; refine (putMethod_any W0 _ _ (nth me0 ts k) P C K pp pc pk _ (H1.out.alloc _) X.out (len_ok me0 encMe l ts k hlt HL.out)).mono ?_; rintro e w2 ⟨v2, rfl, r2, o2⟩)
      go_roundw
      case rel => exact ⟨k + 1, by omega, by go_num, r2.to (cat_ok me0 encMe l ts k hlt), (H2.out.alloc _).trans o2⟩
      case measure => simp [intOf]; omega
    · obtain rfl : k = ts.length := by omega
      go_wp2
      go_ret
      exact ⟨_, rfl, H1.out.to (cat_all encMe l ts), H2.out⟩

set_option maxHeartbeats 8000000 in
theorem putFile_any (W0 : World) (v : Value) (l : List Int) (f : Fi) (A B : Option Addr) (a b : Nat) (w : World) (hr : Rw W0 w v l) (hA : ClsAt W0 A f.classes) (hB : MesAt W0 B f.methods) (hl : (l ++ encFi f).length ≤ 100000000) :
    Calls Try.prog 7 #[v, .agg #[.slice A f.classes.length a, .slice B f.methods.length b]] w (PQ W0 w v (l ++ encFi f)) := by
  have HR := hidW hr
  have HA := hidW hA
  have HM := hidW hB
  clear hr hA hB
  have HB1 := hidW (cell_of_new (w := w) (cs := #[.slice A f.classes.length a, .slice B f.methods.length b]) (t := 25) (o := 1) rfl)
  have HF := hidW (HR.out.far (p := w.heap.size) (Or.inl (Nat.le_refl _)))
  have HE := hidW (show (l ++ encL encCl f.classes) ++ encL encMe f.methods = l ++ encFi f by simp [encFi])
  have HL2 := hidW (show ((l ++ encL encCl f.classes) ++ encL encMe f.methods).length ≤ 100000000 by rw [HE.out]; exact hl)
  have HL1 := hidW (len_0 HL2.out)
  clear hl
  go_enter Try.func7, Try.ntmps7
  go_wp2_with (first
    | (go_at_call 17; refine (putClasses_any W0 v l _ _ _ _ (HR.out.alloc _) HA.out HL1.out).mono ?_; rintro e w1 ⟨v1, rfl, r1, o1⟩; have R1 := hidW r1; have O1 := hidW o1; clear r1 o1; have b1 := O1.out.cell HB1.out HF.out)
    | (go_at_call 19; refine (putMethods_any W0 _ _ _ _ _ _ R1.out HM.out HL2.out).mono ?_; rintro e w2 ⟨v2, rfl, r2, o2⟩))
  go_ret
  exact ⟨_, rfl, r2.to HE.out, ((Out.refl w v).alloc _).trans (O1.out.trans o2)⟩

end Go.Proofs.Ytgiiapenmjollac
