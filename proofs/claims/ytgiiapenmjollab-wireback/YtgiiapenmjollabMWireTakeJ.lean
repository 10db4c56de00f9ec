/-
  A file is taken; and it must have the bytes.
-/
import Derived.Test.YtgiiapenmjollabMWireTakeE
import Derived.Test.YtgiiapenmjollabMWireTakeI
import Derived.Test.YtgiiapenmjollabMWireUse
import Derived.Laws.IdiomStrings
namespace Go.Proofs.Ytgiiapenmjollab
open Go.RowKit
set_option maxRecDepth 100000
set_option linter.unusedVariables false
set_option linter.unusedSimpArgs false

theorem ClsAt.sub {W w' : World} (h : Sub W w') {A : Option Addr} {l : List Cl} (hl : ClsAt W A l) : ClsAt w' A l := by
  refine ⟨hl.1, ?_⟩
  rcases hl.2 with h0 | ⟨b, off, rfl, hi⟩
  · exact Or.inl h0
  right
  refine ⟨b, off, rfl, fun i hlt => ?_⟩
  obtain ⟨h0, h1, A', c, h2, h3⟩ := hi i hlt
  exact ⟨h _ _ _ h0, h1, A', c, h _ _ _ h2, h3.sub h⟩
theorem MesAt.sub {W w' : World} (h : Sub W w') {A : Option Addr} {l : List Me} (hl : MesAt W A l) : MesAt w' A l := by
  refine ⟨hl.1, ?_⟩
  rcases hl.2 with h0 | ⟨b, off, rfl, hi⟩
  · exact Or.inl h0
  right
  refine ⟨b, off, rfl, fun i hlt => ?_⟩
  obtain ⟨P, C, K, p, c, k, h0, h1, h2, h3, h4, h5, h6, h7, h8⟩ := hi i hlt
  exact ⟨P, C, K, p, c, k, h _ _ _ h0, h _ _ _ h1, h _ _ _ h2, h _ _ _ h3, h _ _ _ h4, h _ _ _ h5, h _ _ _ h6, h _ _ _ h7, h8.sub h⟩
theorem info_fi : (Try.prog.info? 25).map (·.size) = some 2 := by kernel_rfl
/-- A file, behind the first byte. -/
def pFile (l : List Int) : Option (Fi × List Int) := if l.length < 1 then none else pFi bdP (l.drop 1)
def FileQ (W0 w : World) (p : Nat) (l : List Int) (e : Ending) (w' : World) : Prop :=
  Kp (OneB p) w w' ∧ ((pFile l = none ∧ e = noE) ∨ ∃ x r A B a b, pFile l = some (x, r) ∧ e = .returned (fiV x.classes.length x.methods.length A B a b) ∧ ClsAt (er (oldB w.heap.size) w') A x.classes ∧ MesAt (er (oldB w.heap.size) w') B x.methods)
abbrev fiZ : Obj := .cells #[.slice none 0 0, .slice none 0 0] 25
set_option maxHeartbeats 8000000 in
theorem takeFile_any (W0 w : World) (p : Nat) (l : List Int) (h : RdW W0 w p l) (hy : Bys l) :
    Calls Try.prog 21 #[.pointer (some ⟨p, 0, none⟩)] w (FileQ W0 w p l) := by
  have hpl := h.lt
  have hW := h.bl.size
  have HR := hidW (h.alloc fiZ)
  have HY := hidW hy
  have HK := hidW ((Kp.refl (NB p w.heap.size) w).alloc fiZ)
  have HE := hidW (heap_alloc_new w fiZ)
  clear h hy
  by_cases hl1 : l.length < 1
  · have HL := hidW (show pFile l = none by unfold pFile; rw [if_pos hl1])
    go_enter Try.func21, Try.ntmps21
    go_wp2_with (go_at_call 46; refine (take_any W0 _ p 1 l HR.out (by omega)).mono ?_; intro e w1 hq; obtain ⟨rfl, hw⟩ : e = noE ∧ w1 = _ := (hq.resolve_right fun hx => by have := hx.1; omega).2; rw [hw]; clear hq hw w1)
    exact ⟨rfl, HK.out.nb, Or.inl ⟨HL.out, rfl⟩⟩
  · have HY0 := hidW (show Bys (l.drop 1) from fun x hx => HY.out x (List.mem_of_mem_drop hx))
    have HL0 := hidW (show pFile l = pFi bdP (l.drop 1) by unfold pFile; rw [if_neg hl1])
    obtain ⟨l0, hl0⟩ : ∃ l0, l0 = l.drop 1 := ⟨_, rfl⟩
    rw [← hl0] at HY0 HL0
    have HL00 := hidW hl0
    clear hl0
    cases hq1 : pL 12 (pCl bdP) l0 with
    | none =>
      have HQ1 := hidW hq1
      have HL := hidW (show pFile l = none by rw [HL0.out]; unfold pFi; show (pL 12 (pCl bdP) l0).bind _ = _; rw [hq1]; rfl)
      clear hq1
      go_enter Try.func21, Try.ntmps21
      go_wp2_with (first
        | (go_at_call 46; refine (take_any W0 _ p 1 l HR.out (by omega)).mono ?_; intro e w1 hq; obtain ⟨_, A0, c0, rfl, _, r1, k1⟩ := hq.resolve_left fun hx => (by have := hx.1; omega); rw [← HL00.out] at r1; have R1 := hidW (r1.alloc fiZ); have K1 := hidW ((HK.out.trans k1.one).alloc fiZ); clear hq r1 k1)
        | (go_at_call 47; refine (takeClasses_no (M := 12) (by omega) R1.out HY0.out HQ1.out).mono ?_; rintro e w2 ⟨rfl, k2⟩))
      exact ⟨rfl, (K1.out.trans k2.one).nb, Or.inl ⟨HL.out, rfl⟩⟩
    | some y1 =>
    obtain ⟨cs, l1⟩ := y1
    have HQ1 := hidW hq1
    have HY1 := hidW (pL_keeps (pCl_snd bdP) l0 cs l1 HY0.out hq1)
    cases hq2 : pL 8 (pMe bdP) l1 with
    | none =>
      have HQ2 := hidW hq2
      have HL := hidW (show pFile l = none by rw [HL0.out]; unfold pFi; show (pL 12 (pCl bdP) l0).bind _ = _; rw [hq1, Option.bind_some]; show (pL 8 (pMe bdP) l1).bind _ = _; rw [hq2]; rfl)
      clear hq1 hq2
      go_enter Try.func21, Try.ntmps21
      go_wp2_with (first
        | (go_at_call 46; refine (take_any W0 _ p 1 l HR.out (by omega)).mono ?_; intro e w1 hq; obtain ⟨_, A0, c0, rfl, _, r1, k1⟩ := hq.resolve_left fun hx => (by have := hx.1; omega); rw [← HL00.out] at r1; have hp1 := r1.lt; have R1 := hidW (r1.alloc fiZ); have K1 := hidW ((HK.out.trans k1.one).alloc fiZ); have V1 := hidW (heap_alloc_new w1 fiZ); have hs1 := (HK.out.trans k1.one).size; clear hq r1 k1)
        | (go_at_call 47; refine (takeClasses_yes (M := 12) (by omega) R1.out HY0.out HQ1.out).mono ?_; rintro e w2 ⟨A, a, rfl, t2, r2, k2⟩; have v2 := (k2.block w1.heap.size (by simp) (fun e2 => by unfold OneB at e2; omega)).trans V1.out; have d0 := blk_cell v2 0 rfl; have z0 := blk_free v2 0; have R2 := hidW r2; have K2 := hidW (K1.out.trans k2.one); clear t2 r2 k2 v2)
        | (go_at_call 49; refine (takeMethods_no (M := 8) (by omega) (R2.out.set (k := w1.heap.size) (o := 0) (by omega) (by omega) _) HY1.out HQ2.out).mono ?_; rintro e w3 ⟨rfl, k3⟩))
      exact ⟨rfl, ((K2.out.set (p := ⟨w1.heap.size, 0, none⟩) (Or.inr (show w.heap.size ≤ w1.heap.size by omega)) _).trans k3.one).nb, Or.inl ⟨HL.out, rfl⟩⟩
    | some y2 =>
      obtain ⟨ms, r⟩ := y2
      have HQ2 := hidW hq2
      have HL := hidW (show pFile l = some (⟨cs, ms⟩, r) by rw [HL0.out]; unfold pFi; show (pL 12 (pCl bdP) l0).bind _ = _; rw [hq1, Option.bind_some]; show (pL 8 (pMe bdP) l1).bind _ = _; rw [hq2]; rfl)
      clear hq1 hq2
      go_enter Try.func21, Try.ntmps21
      go_wp2_with (first
        | (go_at_call 46; refine (take_any W0 _ p 1 l HR.out (by omega)).mono ?_; intro e w1 hq; obtain ⟨_, A0, c0, rfl, _, r1, k1⟩ := hq.resolve_left fun hx => (by have := hx.1; omega); rw [← HL00.out] at r1; have hp1 := r1.lt; have b1 := (k1.block w.heap.size (by simp) (fun e2 => by unfold OneB at e2; omega)).trans HE.out; have hb1 := lt_of_blk b1; have R1 := hidW (r1.alloc fiZ); have K1 := hidW ((HK.out.trans k1.one).alloc fiZ); have V1 := hidW (heap_alloc_new w1 fiZ); have B1 := hidW ((Below.heap_alloc w1 fiZ w.heap.size hb1).trans b1); clear hq r1 k1 b1)
        | (go_at_call 47; refine (takeClasses_yes (M := 12) (by omega) R1.out HY0.out HQ1.out).mono ?_; rintro e w2 ⟨A, a, rfl, t2, r2, k2⟩; have v2 := (k2.block w1.heap.size (by simp) (fun e2 => by unfold OneB at e2; omega)).trans V1.out; have b2 := (k2.block w.heap.size (lt_of_blk B1.out) (fun e2 => by unfold OneB at e2; omega)).trans B1.out; have d0 := blk_cell v2 0 rfl; have z0 := blk_free v2 0; have R2 := hidW (r2.set (k := w1.heap.size) (o := 0) (by omega) (by omega) (.slice A cs.length a)); have K2 := hidW ((K1.out.trans k2.one).set (p := ⟨w1.heap.size, 0, none⟩) (Or.inr (show w.heap.size ≤ w1.heap.size by omega)) (.slice A cs.length a)); have V2 := hidW (set_block v2 0 (.slice A cs.length a)); have hne : w.heap.size ≠ w1.heap.size := (by omega); have B2 := hidW ((Below.heap_setCell w2 ⟨w1.heap.size, 0, none⟩ (.slice A cs.length a) w.heap.size hne).trans b2); have T2 := hidW ((show ClsAt (er (oldB (w1.heap.size + 1)) w2) A cs by simpa using t2).sub (er_set (k := w1.heap.size) (o := 0) (v := .slice A cs.length a) (by omega) (Nat.le_refl _))); clear t2 r2 k2 v2 b2)
        | (go_at_call 49; refine (takeMethods_yes (M := 8) (by omega) R2.out HY1.out HQ2.out).mono ?_; rintro e w3 ⟨B, b, rfl, t3, r3, k3⟩; have v3 := (k3.block w1.heap.size (lt_of_blk V2.out) (fun e2 => by unfold OneB at e2; omega)).trans V2.out; have b3 := (k3.block w.heap.size (lt_of_blk B2.out) (fun e2 => by unfold OneB at e2; omega)).trans B2.out; have g0 := blk_cell v3 0 rfl; have g1 := blk_cell v3 1 rfl; have z1 := blk_free v3 1; have f0 := blk_cell b3 0 rfl; have f1 := blk_cell b3 1 rfl; have y0 := blk_free b3 0; have y1 := blk_free b3 1; have hv2 := lt_of_blk V2.out; have K3 := hidW (K2.out.trans k3.one); have V3 := hidW v3; have B3 := hidW b3; have T3 := hidW (T2.out.sub (er_keep (p := p) (N := w1.heap.size + 1) k3.one (by omega))); have M3 := hidW (t3.sub (er_less (N := w1.heap.size + 1) (by simp at hv2 ⊢; omega))); clear t3 r3 k3 v3 b3))
      refine bodyPost_ret (results_cell_row rfl _ _ w.heap.size _ _ _ _ rfl (set_block (set_block ((Below.heap_setCell _ _ _ _ hne).trans B3.out) 0 (.slice A cs.length a)) 1 (.slice B ms.length b)) Try.underlying25 rfl info_fi) rfl ?_
      refine ⟨(((K3.out.set (p := ⟨w1.heap.size, 1, none⟩) (Or.inr (show w.heap.size ≤ w1.heap.size by omega)) _).set (p := ⟨w.heap.size, 0, none⟩) (Or.inr (by simp)) _).set (p := ⟨w.heap.size, 1, none⟩) (Or.inr (by simp)) _).nb, Or.inr ⟨_, r, A, B, a, b, HL.out, rfl, ?_, ?_⟩⟩
      · exact T3.out.sub (((er_set (k := w1.heap.size) (o := 1) (by omega) (Nat.le_refl _)).trans (er_set (k := w.heap.size) (o := 0) (by omega) (Nat.le_refl _))).trans (er_set (k := w.heap.size) (o := 1) (by omega) (by omega)))
      · exact M3.out.sub (((er_set (k := w1.heap.size) (o := 1) (by omega) (Nat.le_refl _)).trans (er_set (k := w.heap.size) (o := 0) (by omega) (Nat.le_refl _))).trans (er_set (k := w.heap.size) (o := 1) (by omega) (by omega)))

theorem BysAt.conv {w : World} {A : Option Addr} {l : List Int} (c : Nat) (h : BysAt w A l) : (convert 26 9 (.slice A l.length c)).run Try.prog w = .ok (.string (strB l)) w := by
  rcases h with h0 | ⟨b, off, rfl, hi⟩
  · obtain rfl : l = [] := List.length_eq_zero_iff.1 h0
    cases A with
    | none => exact run_convert_bytes_nil w 26 5 Try.underlying26 Try.underlying5 _ _ 9 Try.underlying9
    | some a => exact run_convert_bytes_back w 26 9 5 a c [] Try.underlying26 Try.underlying5 Try.underlying9 (fun j hj => by simp at hj)
  · exact run_convert_bytes_arg w 26 5 Try.underlying26 Try.underlying5 b off _ _ l rfl hi 9 Try.underlying9
set_option maxHeartbeats 4000000 in
theorem bytesEqual_any (A B : Option Addr) (a b : Nat) (x y : List Int) (w : World) (hA : BysAt w A x) (hB : BysAt w B y) :
    Calls Try.prog 51 #[.slice A x.length a, .slice B y.length b] w fun e w' => e = .returned (.bool ((strB x).toList == (strB y).toList)) ∧ Bl w w' := by
  have q1 := hA.conv a
  have q2 := hB.conv b
  clear hA hB
  go_enter Try.func51, Try.ntmps51
  go_wp2
  go_ret
  exact ⟨rfl, Bl.refl _⟩

end Go.Proofs.Ytgiiapenmjollab
