/-
  Which classes stand above a class, as a plain list; what is below what, and which class both are below: plain facts.
-/
import Derived.Test.YtgiiapenmjollaaData
namespace Go.Proofs.Ytgiiapenmjollaa
open Go.RowKit

/-- The number of the class above. -/
def par (l : List Cl) (c : Nat) : Nat := (nth cl0 l c).super.toNat
def upsF (l : List Cl) : Nat → Nat → List Nat
  | 0, _ => []
  | k + 1, c => c :: if c = 0 then [] else upsF l k (par l c)
/-- From a class up to class 0. -/
def ups (l : List Cl) (c : Nat) : List Nat := upsF l (c + 1) c

structure Tree (l : List Cl) : Prop where
  zero : (nth cl0 l 0).super = -1
  up : ∀ c, 0 < c → c < l.length → 0 ≤ (nth cl0 l c).super ∧ (nth cl0 l c).super < c

theorem may_tree {l : List Cl} (h : mayB l = true) : Tree l ∧ 4 ≤ l.length ∧ l.length ≤ 12 := by
  unfold mayB at h
  rw [Bool.and_eq_true, decide_eq_true_eq, List.all_eq_true] at h
  refine ⟨⟨h.1.2.2, fun c h0 hc => ?_⟩, h.1.1, h.1.2.1⟩
  have := h.2 c (by simpa using hc)
  unfold clB at this
  rw [Bool.and_eq_true, decide_eq_true_eq] at this
  rcases this.1.1 with h1 | h1
  · omega
  · exact h1

section
variable {l : List Cl}

theorem par_lt (ht : Tree l) {c : Nat} (h0 : 0 < c) (hc : c < l.length) : par l c < c := by
  have := ht.up c h0 hc
  unfold par; omega
theorem super_par (ht : Tree l) {c : Nat} (h0 : 0 < c) (hc : c < l.length) : (nth cl0 l c).super = (par l c : Nat) := by
  have := ht.up c h0 hc
  unfold par; omega

theorem upsF_more (ht : Tree l) (c : Nat) : ∀ k, c < l.length → c < k → upsF l k c = upsF l (c + 1) c := by
  induction c using Nat.strongRecOn with
  | _ c ih =>
    intro k hc hk
    obtain ⟨k, rfl⟩ : ∃ k', k = k' + 1 := ⟨k - 1, by omega⟩
    unfold upsF
    by_cases h0 : c = 0
    · rw [if_pos h0, if_pos h0]
    · rw [if_neg h0, if_neg h0]
      have hp := par_lt ht (by omega) hc
      rw [ih _ hp k (by omega) (by omega), ih _ hp c (by omega) (by omega)]

theorem ups_zero : ups l 0 = [0] := rfl
theorem ups_step (ht : Tree l) {c : Nat} (h0 : 0 < c) (hc : c < l.length) : ups l c = c :: ups l (par l c) := by
  have hp := par_lt ht h0 hc
  show upsF l (c + 1) c = _
  rw [upsF, if_neg (by omega), upsF_more ht _ _ (by omega) hp]
  rfl
theorem ups_head (c : Nat) : c ∈ ups l c := by unfold ups upsF; simp

theorem ups_le (ht : Tree l) (c : Nat) (hc : c < l.length) : ∀ x, x ∈ ups l c → x ≤ c := by
  induction c using Nat.strongRecOn with
  | _ c ih =>
    intro x hx
    by_cases h0 : c = 0
    · subst h0; rw [ups_zero] at hx; simp at hx; omega
    · rw [ups_step ht (by omega) hc] at hx
      have hp := par_lt ht (by omega) hc
      rcases List.mem_cons.1 hx with rfl | hx
      · exact Nat.le_refl _
      · have := ih _ hp (by omega) x hx; omega

theorem ups_root (ht : Tree l) (c : Nat) (hc : c < l.length) : 0 ∈ ups l c := by
  induction c using Nat.strongRecOn with
  | _ c ih =>
    by_cases h0 : c = 0
    · subst h0; exact ups_head 0
    · rw [ups_step ht (by omega) hc]
      have hp := par_lt ht (by omega) hc
      exact List.mem_cons_of_mem _ (ih _ hp (by omega))

theorem ups_pair (ht : Tree l) (c : Nat) (hc : c < l.length) : (ups l c).Pairwise (fun x y => y < x) := by
  induction c using Nat.strongRecOn with
  | _ c ih =>
    by_cases h0 : c = 0
    · subst h0; rw [ups_zero]; simp
    · rw [ups_step ht (by omega) hc]
      have hp := par_lt ht (by omega) hc
      refine List.Pairwise.cons (fun y hy => ?_) (ih _ hp (by omega))
      have := ups_le ht _ (by omega) y hy; omega

theorem ups_mid (ht : Tree l) {j e : Nat} (c : Nat) (hc : c < l.length) (hj : j ∈ ups l c) : e ∈ ups l j ↔ e ∈ ups l c ∧ e ≤ j := by
  induction c using Nat.strongRecOn with
  | _ c ih =>
    by_cases h0 : c = 0
    · subst h0; rw [ups_zero] at hj; simp at hj; subst hj
      rw [ups_zero]; simp
    · have hp := par_lt ht (by omega) hc
      have hs := ups_step ht (by omega) hc
      rw [hs] at hj
      rcases List.mem_cons.1 hj with rfl | hj
      · exact ⟨fun h => ⟨h, ups_le ht _ hc _ h⟩, fun h => h.1⟩
      · have hle := ups_le ht _ (by omega) _ hj
        rw [ih _ hp (by omega) hj, hs, List.mem_cons]
        constructor
        · rintro ⟨h1, h2⟩; exact ⟨.inr h1, h2⟩
        · rintro ⟨h1 | h1, h2⟩
          · omega
          · exact ⟨h1, h2⟩

/-- j is the greatest class that both are below. -/
def IsJoin (l : List Cl) (c d j : Nat) : Prop := j ∈ ups l c ∧ j ∈ ups l d ∧ ∀ x, x ∈ ups l c → x ∈ ups l d → x ≤ j
theorem IsJoin.one {c d i j : Nat} (h : IsJoin l c d i) (k : IsJoin l c d j) : i = j :=
  Nat.le_antisymm (k.2.2 _ h.1 h.2.1) (h.2.2 _ k.1 k.2.1)
theorem IsJoin.symm {c d i : Nat} (h : IsJoin l c d i) : IsJoin l d c i := ⟨h.2.1, h.1, fun x a b => h.2.2 x b a⟩
theorem join_cut (ht : Tree l) {c d j : Nat} (hc : c < l.length) {pre post : List Nat} (hu : ups l c = pre ++ j :: post) (hp : ∀ x ∈ pre, x ∉ ups l d) (hj : j ∈ ups l d) : IsJoin l c d j := by
  refine ⟨by rw [hu]; simp, hj, fun x hx hxd => ?_⟩
  have hpw := ups_pair ht c hc
  rw [hu] at hx hpw
  rcases List.mem_append.1 hx with hx | hx
  · exact absurd hxd (hp x hx)
  · rcases List.mem_cons.1 hx with rfl | hx
    · exact Nat.le_refl _
    · have := (List.pairwise_append.1 hpw).2.1
      have := (List.pairwise_cons.1 this).1 x hx
      omega

/-- The greatest class that both are below. -/
def joinN (l : List Cl) (c d : Nat) : Nat := ((ups l c).filter (fun x => decide (x ∈ ups l d))).foldl max 0
theorem most {j : Nat} : ∀ (L : List Nat) (a : Nat), a ≤ j → (∀ x ∈ L, x ≤ j) → (j = a ∨ j ∈ L) → L.foldl max a = j
  | [], a, _, _, h => by
    rcases h with h | h
    · exact h.symm
    · cases h
  | x :: L, a, ha, hL, h => by
    have hx := hL x (by simp)
    refine most L (max a x) (by omega) (fun y hy => hL y (List.mem_cons_of_mem _ hy)) ?_
    rcases h with h | h
    · left; omega
    · rcases List.mem_cons.1 h with h | h
      · left; omega
      · exact Or.inr h
theorem join_is {c d j : Nat} (h : IsJoin l c d j) : joinN l c d = j := by
  refine most _ _ (Nat.zero_le _) (fun x hx => ?_) (Or.inr ?_)
  · rw [List.mem_filter, decide_eq_true_eq] at hx
    exact h.2.2 x hx.1 hx.2
  · rw [List.mem_filter, decide_eq_true_eq]
    exact ⟨h.1, h.2.1⟩
theorem join_there (ht : Tree l) (c d : Nat) (hc : c < l.length) (hd : d < l.length) : IsJoin l c d (joinN l c d) := by
  suffices h : ∃ j, IsJoin l c d j by obtain ⟨j, h⟩ := h; rw [join_is h]; exact h
  have key : ∀ (post pre : List Nat), ups l c = pre ++ post → (∀ x ∈ pre, x ∉ ups l d) → 0 ∈ post → ∃ j, IsJoin l c d j := by
    intro post
    induction post with
    | nil => intro pre _ _ h; simp at h
    | cons x post ih =>
      intro pre hu hp h0
      by_cases hx : x ∈ ups l d
      · exact ⟨x, join_cut ht hc hu hp hx⟩
      · rcases List.mem_cons.1 h0 with rfl | h0
        · exact absurd (ups_root ht d hd) hx
        · refine ih (pre ++ [x]) (by simp [hu]) ?_ h0
          intro y hy
          rcases List.mem_append.1 hy with hy | hy
          · exact hp y hy
          · simp at hy; subst hy; exact hx
  exact key _ [] rfl (by simp) (ups_root ht c hc)

/-- Is c below d? -/
def belN (l : List Cl) (c d : Nat) : Bool := decide (d ∈ ups l c)
theorem bel_iff {c d : Nat} : belN l c d = true ↔ d ∈ ups l c := by unfold belN; simp
theorem bel_self (c : Nat) : belN l c c = true := bel_iff.2 (ups_head c)
theorem bel_step (ht : Tree l) {c d : Nat} (hc : c < l.length) (hd : d < c) : belN l c d = belN l (par l c) d := by
  unfold belN
  rw [ups_step ht (by omega) hc]
  have : d ≠ c := by omega
  simp [this]
theorem bel_low (ht : Tree l) {c d : Nat} (hc : c < l.length) (hd : c < d) : belN l c d = false := by
  unfold belN
  rw [decide_eq_false_iff_not]
  intro h; have := ups_le ht _ hc _ h; omega

/-- What Below and Join answer, of any numbers. -/
def clsI (l : List Cl) (c d : Int) : Bool := decide (0 ≤ c ∧ c < l.length ∧ 0 ≤ d ∧ d < l.length)
def belV (l : List Cl) (c d : Int) : Bool := mayB l && clsI l c d && belN l c.toNat d.toNat
def joinV (l : List Cl) (c d : Int) : Int := if (mayB l && clsI l c d) = true then (joinN l c.toNat d.toNat : Nat) else -1
end
end Go.Proofs.Ytgiiapenmjollaa
