/-
  A list that is built item by item: its row lies in a block of its own, what its items hold lies in other new blocks.
-/
import Derived.Test.YtgiiapenmjollabMWireTakeB
import Derived.Deep.AppendLies
namespace Go.Proofs.Ytgiiapenmjollab
open Go.RowKit
set_option maxRecDepth 100000
set_option linter.unusedVariables false
set_option linter.unusedSimpArgs false

/-- What lies in the one world lies in the other. -/
def Sub (w w' : World) : Prop := ∀ b o v, w.cell? ⟨b, o, none⟩ = some v → w'.cell? ⟨b, o, none⟩ = some v
theorem Sub.trans {a b c : World} (h : Sub a b) (k : Sub b c) : Sub a c := fun x o v hv => k x o v (h x o v hv)
theorem IntsAt.sub {W w' : World} (h : Sub W w') {A : Option Addr} {l : List Int} (hl : IntsAt W A l) : IntsAt w' A l := by
  refine ⟨hl.1, ?_⟩
  rcases hl.2 with h0 | ⟨b, off, rfl, hi⟩
  · exact Or.inl h0
  right
  exact ⟨b, off, rfl, fun i hlt => ⟨h _ _ _ (hi i hlt).1, (hi i hlt).2⟩⟩
theorem InsAt.sub {W w' : World} (h : Sub W w') {A : Option Addr} {l : List In} (hl : InsAt W A l) : InsAt w' A l := by
  refine ⟨hl.1, ?_⟩
  rcases hl.2 with h0 | ⟨b, off, rfl, hi⟩
  · exact Or.inl h0
  right
  refine ⟨b, off, rfl, fun i hlt => ?_⟩
  obtain ⟨h0, h1, h2, h3, h4, h5, A', c, h6, h7⟩ := hi i hlt
  exact ⟨h _ _ _ h0, h _ _ _ h1, h _ _ _ h2, h _ _ _ h3, h _ _ _ h4, h5, A', c, h _ _ _ h6, h7.sub h⟩
theorem HdsAt.sub {W w' : World} (h : Sub W w') {A : Option Addr} {l : List Hd} (hl : HdsAt W A l) : HdsAt w' A l := by
  refine ⟨hl.1, ?_⟩
  rcases hl.2 with h0 | ⟨b, off, rfl, hi⟩
  · exact Or.inl h0
  right
  refine ⟨b, off, rfl, fun i hlt => ?_⟩
  obtain ⟨h0, h1, h2, h3, h4⟩ := hi i hlt
  exact ⟨h _ _ _ h0, h _ _ _ h1, h _ _ _ h2, h _ _ _ h3, h4⟩
theorem TysAt.sub {W w' : World} (h : Sub W w') {A : Option Addr} {l : List Ty} (hl : TysAt W A l) : TysAt w' A l := by
  refine ⟨hl.1, ?_⟩
  rcases hl.2 with h0 | ⟨b, off, rfl, hi⟩
  · exact Or.inl h0
  right
  exact ⟨b, off, rfl, fun i hlt => ⟨h _ _ _ (hi i hlt).1, h _ _ _ (hi i hlt).2.1, (hi i hlt).2.2⟩⟩
theorem MeAt.sub {W w' : World} (h : Sub W w') {m : Me} {P C K : Option Addr} (hl : MeAt W m P C K) : MeAt w' m P C K := ⟨hl.1.sub h, hl.2.1.sub h, hl.2.2.1.sub h, hl.2.2.2⟩

/-- The world without some blocks. -/
def er (S : Nat → Bool) (w : World) : World := { w with heap := w.heap.mapIdx fun k o => if S k then .cells #[] 0 else o }
theorem er_cell (S : Nat → Bool) (w : World) (b o : Nat) : (er S w).cell? ⟨b, o, none⟩ = if S b then none else w.cell? ⟨b, o, none⟩ := by
  unfold er World.cell?
  simp only [Array.getElem?_mapIdx]
  cases h : w.heap[b]? with
  | none => simp
  | some x => cases hs : S b <;> simp [hs]
theorem er_sub (S : Nat → Bool) (w : World) : Sub (er S w) w := fun b o v h => by
  rw [er_cell] at h
  split at h
  · cases h
  · exact h
/-- What lies outside of S lies outside of T, later on. -/
theorem er_to {S T : Nat → Bool} {w w' : World} (h : ∀ b, S b = false → b < w.heap.size → T b = false ∧ w'.heap[b]? = w.heap[b]?) : Sub (er S w) (er T w') := fun b o v hv => by
  rw [er_cell] at hv ⊢
  cases hs : S b with
  | true => rw [hs] at hv; cases hv
  | false =>
    rw [hs] at hv
    simp only [Bool.false_eq_true, if_false] at hv
    obtain ⟨h1, h2⟩ := h b hs (cell_lt hv)
    rw [h1]
    simp only [Bool.false_eq_true, if_false]
    exact (World.cell?_of_block (a := ⟨b, o, none⟩) h2).trans hv
def oldB (N : Nat) : Nat → Bool := fun k => decide (k < N)
def rowB (N : Nat) (og : Option Nat) : Nat → Bool := fun k => decide (k < N) || og == some k
/-- The row v holds the items xs; what they hold lies in new blocks, not in the row's own. -/
structure LW {α : Type} (d : α) (It : World → α → List Value → Prop) (size : Nat) (e : TypeId) (N : Nat) (w : World) (v : Value) (xs : List α) : Prop where
  ex : ∃ cs, w.ownsRow N e size v xs.length cs ∧ ∀ i, i < xs.length → It (er (rowB N v.ownBlock) w) (nth d xs i) ((cs.drop (i * size)).take size)
section
variable {α : Type} {d : α} {It : World → α → List Value → Prop} {size : Nat} {e : TypeId} {N : Nat} {w w' : World} {v : Value} {xs : List α}
theorem LW.nil (d : α) (It : World → α → List Value → Prop) (size : Nat) (e : TypeId) (N : Nat) (w : World) : LW d It size e N w (.slice none 0 0) [] :=
  ⟨[], World.ownsRow_nil w N e size, fun i hi => by simp at hi⟩
theorem LW.keep (hst : ∀ w w' x cs, Sub w w' → It w x cs → It w' x cs) (h : LW d It size e N w v xs) {S : Nat → Prop} (k : Kp S w w') (hs : ∀ j, S j → j < N) : LW d It size e N w' v xs := by
  obtain ⟨cs, h1, h2⟩ := h.ex
  refine ⟨cs, ⟨h1.1, ?_⟩, fun i hi => hst _ _ _ _ (er_to fun b hb hlt => ⟨hb, k.block b hlt fun hsb => ?_⟩) (h2 i hi)⟩
  · rcases h1.2 with hn | ⟨g, cap, cur, hv, hg, hblk, rest⟩
    · exact Or.inl hn
    · exact Or.inr ⟨g, cap, cur, hv, hg, (k.block g (Array.getElem?_eq_some_iff.1 hblk).1 (fun hsg => by have := hs g hsg; omega)).trans hblk, rest⟩
  · have := hs b hsb
    unfold rowB at hb
    simp at hb
    omega
theorem LW.app (hst : ∀ w w' x cs, Sub w w' → It w x cs → It w' x cs) {x : α} {ci : List Value} {g cap n : Nat} {cs : List Value} (hn : n = xs.length + 1) (hci : ci.length = size)
    (h1 : w.ownsRow N e size v xs.length cs) (h2 : ∀ i, i < xs.length → It (er (rowB N v.ownBlock) w) (nth d xs i) ((cs.drop (i * size)).take size)) (hx : It (er (rowB N v.ownBlock) w) x ci)
    (hown : w'.ownsRow N e size (.slice (some ⟨g, 0, none⟩) n cap) n (cs ++ ci)) (hgr : w.grownBy w' v.ownBlock) (hat : v.ownBlock = some g ∨ g = w.heap.size) :
    LW d It size e N w' (.slice (some ⟨g, 0, none⟩) n cap) (xs ++ [x]) := by
  have hsub : Sub (er (rowB N v.ownBlock) w) (er (rowB N (some g)) w') := er_to fun b hb hlt => by
    unfold rowB at hb ⊢
    simp at hb ⊢
    refine ⟨⟨hb.1, fun e2 => ?_⟩, hgr.block b hlt fun e2 => hb.2 e2.symm⟩
    rcases hat with e3 | e3
    · exact hb.2 (by rw [e3, e2])
    · omega
  refine ⟨cs ++ ci, by rw [List.length_append, List.length_singleton, ← hn]; exact hown, fun i hi => ?_⟩
  rw [List.length_append, List.length_singleton] at hi
  rw [nth_snoc]
  have hl := h1.1
  by_cases e1 : i < xs.length
  · rw [if_pos e1]
    have hle : i * size + size ≤ cs.length := by
      rw [hl]
      have : (i + 1) * size ≤ xs.length * size := Nat.mul_le_mul_right _ e1
      rw [Nat.add_mul] at this
      omega
    rw [List.drop_append_of_le_length (by omega), List.take_append_of_le_length (by rw [List.length_drop]; omega)]
    exact hst _ _ _ _ hsub (h2 i e1)
  · obtain rfl : i = xs.length := by omega
    rw [if_neg (Nat.lt_irrefl _), if_pos rfl]
    have e2 : (cs ++ ci).drop (xs.length * size) = ci := by rw [← hl, List.drop_left]
    rw [e2, List.take_of_length_le (by omega)]
    exact hst _ _ _ _ hsub hx
end

end Go.Proofs.Ytgiiapenmjollab
