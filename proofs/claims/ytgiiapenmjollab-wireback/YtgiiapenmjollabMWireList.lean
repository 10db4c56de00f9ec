/-
  What a list that was built lies like; bounds are asked of longs.
-/
import Derived.Test.YtgiiapenmjollabMWireEr
namespace Go.Proofs.Ytgiiapenmjollab
open Go.RowKit
set_option maxRecDepth 100000
set_option linter.unusedVariables false
set_option linter.unusedSimpArgs false

theorem ret_bW {x y : Bool} (h : x = y) : Ending.returned (.bool x) = .returned (.bool y) := by rw [h]
theorem span64_any (n lo hi : Int) (w : World) :
    Calls Try.prog 75 #[.int .i64 n, .int .i64 lo, .int .i64 hi] w fun e w' => e = .returned (.bool (decide (lo ≤ n ∧ n ≤ hi))) ∧ w' = w := by
  go_enter Try.func75, Try.ntmps75
  go_wp2
  all_goals
    go_ret
    refine ⟨ret_bW ?_, rfl⟩
    rw [Bool.eq_iff_iff]; simp; try omega
theorem LW.lies {α : Type} {d : α} {It : World → α → List Value → Prop} {size : Nat} {e : TypeId} {N : Nat} {w : World} {v : Value} {xs : List α} (hst : ∀ w w' x cs, Sub w w' → It w x cs → It w' x cs) (h : LW d It size e N w v xs) :
    ∃ A c, v = .slice A xs.length c ∧ (xs.length = 0 ∨ ∃ g, A = some ⟨g, 0, none⟩ ∧ ∀ i, i < xs.length → ∃ ci, It (er (oldB N) w) (nth d xs i) ci ∧ ∀ j u, j < size → ci[j]? = some u → (er (oldB N) w).cell? ⟨g, 0 + i * size + j, none⟩ = some u) := by
  obtain ⟨cs, h1, h2⟩ := h.ex
  rcases h1.2 with ⟨hv, hn⟩ | ⟨g, cap, cur, hv, hg, hblk, hle, hmx, hsz, htk⟩
  · exact ⟨none, 0, by rw [hv, hn], Or.inl hn⟩
  · refine ⟨_, _, hv, Or.inr ⟨g, rfl, fun i hi => ⟨_, hst _ _ _ _ (er_to fun b hb _ => ⟨?_, rfl⟩) (h2 i hi), fun j u hj hu => ?_⟩⟩⟩
    · unfold rowB at hb
      unfold oldB
      simp at hb ⊢
      exact hb.1
    · rw [er_cell]
      have hgo : oldB N g = false := by unfold oldB; simp; exact hg
      rw [hgo]
      simp only [Bool.false_eq_true, if_false]
      rw [cell_of_row w g _ _ _ _ hblk]
      rw [List.getElem?_take, if_pos hj, List.getElem?_drop, ← htk, List.getElem?_take] at hu
      split at hu
      · rw [Nat.zero_add]; simpa using hu
      · cases hu
/-- An item that was taken since lies apart from the row. -/
theorem item_far {α : Type} {d : α} {It : World → α → List Value → Prop} {size : Nat} {e : TypeId} {N : Nat} {wr w2 : World} {v : Value} {xs : List α} (hst : ∀ w w' x cs, Sub w w' → It w x cs → It w' x cs) (h : LW d It size e N wr v xs) (hN : N ≤ wr.heap.size) {x : α} {ci : List Value} (o : Obj)
    (hx : It (er (oldB wr.heap.size) w2) x ci) : It (er (rowB N v.ownBlock) (w2.alloc o)) x ci := by
  obtain ⟨cs, h1, _⟩ := h.ex
  refine hst _ _ _ _ (er_to fun b hb hlt => ⟨?_, Below.heap_alloc _ _ _ hlt⟩) hx
  unfold oldB at hb
  unfold rowB
  simp at hb ⊢
  exact ⟨by omega, fun e2 => by have := (h1.lt b e2).2; omega⟩

theorem pTy_i64 {l : List Int} {t : Ty} {r : List Int} (h : pTy l = some (t, r)) : I64 t.kind ∧ I64 t.cls := by
  unfold pTy at h
  obtain ⟨a, h1, h⟩ := bind_some_of h
  obtain ⟨b, h2, h⟩ := bind_some_of h
  simp only [Option.some.injEq, Prod.mk.injEq] at h
  unfold pN at h1 h2
  split at h1
  · split at h2
    · simp only [Option.some.injEq] at h1 h2
      rw [← h.1, ← h1, ← h2]
      exact ⟨val_i64 _, val_i64 _⟩
    · cases h2
  · cases h1
theorem pN_i64 {l : List Int} {x : Int} {r : List Int} (h : pN l = some (x, r)) : I64 x := by
  unfold pN at h
  split at h
  · simp only [Option.some.injEq, Prod.mk.injEq] at h
    rw [← h.1]; exact val_i64 _
  · cases h
theorem pHd_i64 {l : List Int} {t : Hd} {r : List Int} (h : pHd l = some (t, r)) : t.ok := by
  unfold pHd at h
  obtain ⟨a, h1, h⟩ := bind_some_of h
  obtain ⟨b, h2, h⟩ := bind_some_of h
  obtain ⟨c, h3, h⟩ := bind_some_of h
  obtain ⟨d, h4, h⟩ := bind_some_of h
  simp only [Option.some.injEq, Prod.mk.injEq] at h
  rw [← h.1]
  exact ⟨pN_i64 (x := a.1) (r := a.2) h1, pN_i64 (x := b.1) (r := b.2) h2, pN_i64 (x := c.1) (r := c.2) h3, pN_i64 (x := d.1) (r := d.2) h4⟩
def ItTy (_ : World) (t : Ty) (cs : List Value) : Prop := cs = [.int .i64 t.kind, .int .i64 t.cls] ∧ I64 t.kind ∧ I64 t.cls
def ItHd (_ : World) (t : Hd) (cs : List Value) : Prop := cs = [.int .i64 t.fr, .int .i64 t.til, .int .i64 t.pc, .int .i64 t.cls] ∧ t.ok
def ItN (_ : World) (t : Int) (cs : List Value) : Prop := cs = [.int .i64 t] ∧ I64 t
theorem ItTy.st : ∀ w w' x cs, Sub w w' → ItTy w x cs → ItTy w' x cs := fun _ _ _ _ _ h => h
theorem ItHd.st : ∀ w w' x cs, Sub w w' → ItHd w x cs → ItHd w' x cs := fun _ _ _ _ _ h => h
theorem ItN.st : ∀ w w' x cs, Sub w w' → ItN w x cs → ItN w' x cs := fun _ _ _ _ _ h => h
theorem LW.tys {e : TypeId} {N : Nat} {w : World} {v : Value} {xs : List Ty} (h : LW ty0 ItTy 2 e N w v xs) (hl : xs.length ≤ maxLen) : ∃ A c, v = .slice A xs.length c ∧ TysAt (er (oldB N) w) A xs := by
  obtain ⟨A, c, hv, h1⟩ := h.lies ItTy.st
  refine ⟨A, c, hv, hl, ?_⟩
  rcases h1 with h0 | ⟨g, hA, hi⟩
  · exact Or.inl h0
  refine Or.inr ⟨g, 0, hA, fun i hi' => ?_⟩
  obtain ⟨ci, ⟨rfl, i1, i2⟩, hc⟩ := hi i hi'
  exact ⟨hc 0 _ (by omega) rfl, hc 1 _ (by omega) rfl, i1, i2⟩
theorem LW.hds {e : TypeId} {N : Nat} {w : World} {v : Value} {xs : List Hd} (h : LW hd0 ItHd 4 e N w v xs) (hl : xs.length ≤ maxLen) : ∃ A c, v = .slice A xs.length c ∧ HdsAt (er (oldB N) w) A xs := by
  obtain ⟨A, c, hv, h1⟩ := h.lies ItHd.st
  refine ⟨A, c, hv, hl, ?_⟩
  rcases h1 with h0 | ⟨g, hA, hi⟩
  · exact Or.inl h0
  refine Or.inr ⟨g, 0, hA, fun i hi' => ?_⟩
  obtain ⟨ci, ⟨rfl, i1⟩, hc⟩ := hi i hi'
  exact ⟨hc 0 _ (by omega) rfl, hc 1 _ (by omega) rfl, hc 2 _ (by omega) rfl, hc 3 _ (by omega) rfl, i1⟩
theorem LW.ints {e : TypeId} {N : Nat} {w : World} {v : Value} {xs : List Int} (h : LW (0 : Int) ItN 1 e N w v xs) (hl : xs.length ≤ maxLen) : ∃ A c, v = .slice A xs.length c ∧ IntsAt (er (oldB N) w) A xs := by
  obtain ⟨A, c, hv, h1⟩ := h.lies ItN.st
  refine ⟨A, c, hv, hl, ?_⟩
  rcases h1 with h0 | ⟨g, hA, hi⟩
  · exact Or.inl h0
  refine Or.inr ⟨g, 0, hA, fun i hi' => ?_⟩
  obtain ⟨ci, ⟨rfl, i1⟩, hc⟩ := hi i hi'
  have := hc 0 _ (by omega) rfl
  simp only [Nat.mul_one, Nat.add_zero] at this
  exact ⟨this, i1⟩

end Go.Proofs.Ytgiiapenmjollab
