/-
  Numbers in a row, types, handlers: each is laid behind a row of bytes.
-/
import Derived.Test.YtgiiapenmjollacLWirePutN
import Derived.Test.YtgiiapenmjollacLFut
namespace Go.Proofs.Ytgiiapenmjollac
open Go.RowKit
set_option maxRecDepth 100000
set_option linter.unusedVariables false
set_option linter.unusedSimpArgs false

theorem flat_take {α : Type} (d : α) (e : α → List Int) (r : List α) (k : Nat) (h : k < r.length) : ((r.take (k + 1)).map e).flatten = ((r.take k).map e).flatten ++ e (nth d r k) := by
  rw [List.take_succ_eq_append_getElem h, ← nth_get (d := d) h]
  simp
theorem flat_len {α : Type} (e : α → List Int) (r : List α) (k : Nat) : ((r.take k).map e).flatten.length ≤ (r.map e).flatten.length := by
  have h : r.map e = (r.take k).map e ++ (r.drop k).map e := by rw [← List.map_append, List.take_append_drop]
  rw [h, List.flatten_append, List.length_append]; omega
set_option maxHeartbeats 4000000 in
theorem putRow_any (W0 : World) (v : Value) (l : List Int) (r : List Int) (p c : Nat) (w : World) (hr : Rw W0 w v l) (hp : v.ownBlock ≠ some p) (h4 : r.length ≤ 5)
    (hc : ∀ i, i < r.length → w.cell? ⟨p, i, none⟩ = some (.int .i64 (nth (0 : Int) r i)) ∧ I64 (nth (0 : Int) r i)) (hl : (l ++ (r.map wideL).flatten).length ≤ 100000000) :
    Calls Try.prog 32 #[v, .slice (some ⟨p, 0, none⟩) r.length c] w (PQ W0 w v (l ++ (r.map wideL).flatten)) := by
  have HR := hidW hr
  have HC := hidW hc
  have HP := hidW hp
  have HL := hidW hl
  clear hr hc hp hl
  go_enter Try.func32, Try.ntmps32
  go_wp2
  go_loopw [0, 9] (fun b s wr => ∃ k : Nat, k ≤ r.length ∧ s = .int .i64 (k : Int) ∧ Rw W0 wr b (l ++ ((r.take k).map wideL).flatten) ∧ Out w wr v b) (fun _ s _ => r.length - (intOf s).toNat)
  case atStart => exact ⟨0, by omega, rfl, by simpa using HR.out, Out.refl _ _⟩
  case round =>
    obtain ⟨k, hk, rfl, h1, h2⟩ := hrel
    have H1 := hidW h1
    have H2 := hidW h2
    clear h1 h2
    by_cases hlt : k < r.length
    · have hc1 := H2.out.cell (HC.out k hlt).1 HP.out
      go_wp2_with (go_at_call 29; refine (putNum_any W0 _ _ _ _ H1.out (HC.out k hlt).2 (by have := HL.out; have := flat_len wideL r k; simp at *; omega)).mono ?_; rintro e w2 ⟨v2, rfl, r2, o2⟩)
      go_roundw
      case rel => exact ⟨k + 1, by omega, by go_num, r2.to (by rw [flat_take (0 : Int) wideL r k hlt, List.append_assoc]), H2.out.trans o2⟩
      case measure => simp [intOf]; omega
    · obtain rfl : k = r.length := by omega
      go_wp2
      go_ret
      exact ⟨_, rfl, H1.out.to (by rw [List.take_length]), H2.out⟩

theorem row_new (W : World) (r : List Int) (T : TypeId) {p : Nat} (hp : p = W.heap.size) (hI : ∀ x ∈ r, I64 x) :
    ∀ i, i < r.length → (W.alloc (.cells (r.map (Value.int .i64)).toArray T)).cell? ⟨p, i, none⟩ = some (.int .i64 (nth (0 : Int) r i)) ∧ I64 (nth (0 : Int) r i) := by
  intro i hi
  subst hp
  refine ⟨cell_of_new ?_, hI _ (nth_mem hi)⟩
  rw [nth_get hi]
  simp [hi]
theorem len_ok {α : Type} (d : α) (e : α → List Int) (l : List Int) (r : List α) (k : Nat) (h : k < r.length) (hl : (l ++ encL e r).length ≤ 100000000) :
    ((l ++ (wideL r.length ++ ((r.take k).map e).flatten)) ++ e (nth d r k)).length ≤ 100000000 := by
  have h1 := flat_len e r (k + 1)
  rw [flat_take d e r k h] at h1
  unfold encL at hl
  simp only [List.length_append, wide_len] at *
  omega
theorem cat_ok {α : Type} (d : α) (e : α → List Int) (l : List Int) (r : List α) (k : Nat) (h : k < r.length) :
    (l ++ (wideL r.length ++ ((r.take k).map e).flatten)) ++ e (nth d r k) = l ++ (wideL r.length ++ ((r.take (k + 1)).map e).flatten) := by
  rw [flat_take d e r k h]; simp only [List.append_assoc]
theorem cat_all {α : Type} (e : α → List Int) (l : List Int) (r : List α) : l ++ (wideL r.length ++ ((r.take r.length).map e).flatten) = l ++ encL e r := by rw [List.take_length]; rfl
theorem cat_0 {α : Type} (e : α → List Int) (l : List Int) (r : List α) : l ++ wideL r.length = l ++ (wideL r.length ++ ((r.take 0).map e).flatten) := by simp
theorem len_0 {l m : List Int} (h : (l ++ m).length ≤ 100000000) : l.length ≤ 100000000 := by rw [List.length_append] at h; omega

set_option maxHeartbeats 4000000 in
theorem putType_any (W0 : World) (v : Value) (l : List Int) (t : Ty) (w : World) (hr : Rw W0 w v l) (ht : I64 t.kind ∧ I64 t.cls) (hl : (l ++ encTy t).length ≤ 100000000) :
    Calls Try.prog 31 #[v, .agg #[.int .i64 t.kind, .int .i64 t.cls]] w (PQ W0 w v (l ++ encTy t)) := by
  have HR := hidW hr
  have HT := hidW ht
  have HL := hidW hl
  clear hr ht hl
  have HE := hidW (show ([t.kind, t.cls].map wideL).flatten = encTy t by simp [encTy])
  have HX := hidW (putRow_any W0 v l [t.kind, t.cls] (w.heap.size + 1) 2 ((w.alloc (.cells #[.int .i64 t.kind, .int .i64 t.cls] 36)).alloc (.cells #[.int .i64 t.kind, .int .i64 t.cls] 82)) ((HR.out.alloc _).alloc _) (HR.out.far (Or.inl (by omega))) (by simp) (row_new _ [t.kind, t.cls] _ (by simp) (by simp; exact HT.out)) (by rw [HE.out]; exact HL.out))
  go_enter Try.func31, Try.ntmps31
  go_wp2_with (go_at_call 32; refine HX.out.mono ?_; rintro e w2 ⟨v2, rfl, r2, o2⟩)
  go_ret
  exact ⟨_, rfl, r2.to (by rw [HE.out]), (((Out.refl w v).alloc _).alloc _).trans o2⟩

set_option maxHeartbeats 4000000 in
theorem putHandler_any (W0 : World) (v : Value) (l : List Int) (t : Hd) (w : World) (hr : Rw W0 w v l) (ht : t.ok) (hl : (l ++ encHd t).length ≤ 100000000) :
    Calls Try.prog 36 #[v, .agg #[.int .i64 t.fr, .int .i64 t.til, .int .i64 t.pc, .int .i64 t.cls]] w (PQ W0 w v (l ++ encHd t)) := by
  have HR := hidW hr
  have HT := hidW ht
  have HL := hidW hl
  clear hr ht hl
  have HE := hidW (show ([t.fr, t.til, t.pc, t.cls].map wideL).flatten = encHd t by simp [encHd])
  have HX := hidW (putRow_any W0 v l [t.fr, t.til, t.pc, t.cls] (w.heap.size + 1) 4 ((w.alloc (.cells #[.int .i64 t.fr, .int .i64 t.til, .int .i64 t.pc, .int .i64 t.cls] 47)).alloc (.cells #[.int .i64 t.fr, .int .i64 t.til, .int .i64 t.pc, .int .i64 t.cls] 83)) ((HR.out.alloc _).alloc _) (HR.out.far (Or.inl (by omega))) (by simp) (row_new _ [t.fr, t.til, t.pc, t.cls] _ (by simp) (by simp; exact HT.out)) (by rw [HE.out]; exact HL.out))
  go_enter Try.func36, Try.ntmps36
  go_wp2_with (go_at_call 32; refine HX.out.mono ?_; rintro e w2 ⟨v2, rfl, r2, o2⟩)
  go_ret
  exact ⟨_, rfl, r2.to (by rw [HE.out]), (((Out.refl w v).alloc _).alloc _).trans o2⟩

end Go.Proofs.Ytgiiapenmjollac
