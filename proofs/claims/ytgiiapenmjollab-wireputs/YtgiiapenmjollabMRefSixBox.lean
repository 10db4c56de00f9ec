/-
  What the document's own answers for instructions on registers are: small ones.
-/
import Derived.Test.YtgiiapenmjollabMRefHead
import Derived.Test.YtgiiapenmjollabMWireGood
import Derived.Test.YtgiiapenmjollabMRefIns
namespace Go.Proofs.Ytgiiapenmjollab
open Go.RowKit
set_option linter.unusedVariables false
set_option linter.unusedSimpArgs false

theorem rreg_any (m : Me) (P C K : Option Addr) (p c k : Nat) (n kind : Int) (w : World) (h1 : 1 ≤ m.regs) (h2 : m.regs ≤ 90) :
    Calls Try.prog 73 #[meV m P C K p c k, .int .i64 n, .int .i64 kind] w fun e w' => e = .returned (.bool (regB m.regs n kind)) ∧ Bl w w' := by
  by_cases hk : kind = 2
  · subst hk
    go_enter Try.func73, Try.ntmps73
    go_wp2_with (go_at_call 41; refine (within_any _ _ _ _).mono ?_; rintro e w' ⟨rfl, rfl⟩)
    go_ret
    exact ⟨ret_bool (by unfold regB; rw [if_pos rfl, Bool.eq_iff_iff]; simp), (Bl.refl _).alloc _⟩
  · have hk' : (kind == 2) = false := by simpa using hk
    go_enter Try.func73, Try.ntmps73
    go_wp2_with (go_at_call 41; refine (within_any _ _ _ _).mono ?_; rintro e w' ⟨rfl, rfl⟩)
    go_ret
    exact ⟨ret_bool (by unfold regB; rw [if_neg hk, Bool.eq_iff_iff]; simp), (Bl.refl _).alloc _⟩

set_option maxRecDepth 100000 in
set_option maxHeartbeats 8000000 in
theorem rnamed_none (op : Int) (w : World) (h : op < 1 ∨ 24 < op) :
    Calls Try.prog 72 #[.int .i64 op] w fun e w' => e = .returned (.tuple #[.slice none 0 0, .bool false]) ∧ w' = w := by
  have z1 : (op == 1) = false := by simp; omega
  have z2 : (op == 2) = false := by simp; omega
  have z3 : (op == 3) = false := by simp; omega
  have z4 : (op == 4) = false := by simp; omega
  have z5 : (op == 5) = false := by simp; omega
  have z6 : (op == 6) = false := by simp; omega
  have z7 : (op == 7) = false := by simp; omega
  have z8 : (op == 8) = false := by simp; omega
  have z9 : (op == 9) = false := by simp; omega
  have z10 : (op == 10) = false := by simp; omega
  have z11 : (op == 11) = false := by simp; omega
  have z12 : (op == 12) = false := by simp; omega
  have z13 : (op == 13) = false := by simp; omega
  have z14 : (op == 14) = false := by simp; omega
  have z15 : (op == 15) = false := by simp; omega
  have z16 : (op == 16) = false := by simp; omega
  have z17 : (op == 17) = false := by simp; omega
  have z18 : (op == 18) = false := by simp; omega
  have z19 : (op == 19) = false := by simp; omega
  have z20 : (op == 20) = false := by simp; omega
  have z21 : (op == 21) = false := by simp; omega
  have z22 : (op == 22) = false := by simp; omega
  have z23 : (op == 23) = false := by simp; omega
  have z24 : (op == 24) = false := by simp; omega
  go_enter Try.func72, Try.ntmps72
  go_wp2
  go_ret2
  exact ⟨rfl, rfl⟩

/-- Three numbers in a slice of their own. -/
def Three (w w' : World) (e : Ending) (x y z : Int) : Prop := e = .returned (.tuple #[.slice (some ⟨w.heap.size, 0, none⟩) 3 3, .bool true]) ∧ w' = w.alloc (.cells #[.int .i64 x, .int .i64 y, .int .i64 z] 3)

set_option maxRecDepth 100000 in
theorem rnamed_1 (w : World) : Calls Try.prog 72 #[.int .i64 1] w fun e w' => Three w w' e (1) (0) (0) := by
  go_enter Try.func72, Try.ntmps72
  go_wp2
  go_ret2
  exact ⟨rfl, rfl⟩
set_option maxRecDepth 100000 in
theorem rnamed_2 (w : World) : Calls Try.prog 72 #[.int .i64 2] w fun e w' => Three w w' e (2) (0) (0) := by
  go_enter Try.func72, Try.ntmps72
  go_wp2
  go_ret2
  exact ⟨rfl, rfl⟩
set_option maxRecDepth 100000 in
theorem rnamed_3 (w : World) : Calls Try.prog 72 #[.int .i64 3] w fun e w' => Three w w' e (3) (0) (0) := by
  go_enter Try.func72, Try.ntmps72
  go_wp2
  go_ret2
  exact ⟨rfl, rfl⟩
set_option maxRecDepth 100000 in
theorem rnamed_4 (w : World) : Calls Try.prog 72 #[.int .i64 4] w fun e w' => Three w w' e (-1) (-1) (-1) := by
  go_enter Try.func72, Try.ntmps72
  go_wp2
  go_ret2
  exact ⟨rfl, rfl⟩
set_option maxRecDepth 100000 in
theorem rnamed_5 (w : World) : Calls Try.prog 72 #[.int .i64 5] w fun e w' => Three w w' e (1) (1) (1) := by
  go_enter Try.func72, Try.ntmps72
  go_wp2
  go_ret2
  exact ⟨rfl, rfl⟩
set_option maxRecDepth 100000 in
theorem rnamed_6 (w : World) : Calls Try.prog 72 #[.int .i64 6] w fun e w' => Three w w' e (2) (2) (2) := by
  go_enter Try.func72, Try.ntmps72
  go_wp2
  go_ret2
  exact ⟨rfl, rfl⟩
set_option maxRecDepth 100000 in
theorem rnamed_7 (w : World) : Calls Try.prog 72 #[.int .i64 7] w fun e w' => Three w w' e (2) (1) (0) := by
  go_enter Try.func72, Try.ntmps72
  go_wp2
  go_ret2
  exact ⟨rfl, rfl⟩
set_option maxRecDepth 100000 in
theorem rnamed_8 (w : World) : Calls Try.prog 72 #[.int .i64 8] w fun e w' => Three w w' e (1) (2) (0) := by
  go_enter Try.func72, Try.ntmps72
  go_wp2
  go_ret2
  exact ⟨rfl, rfl⟩
set_option maxRecDepth 100000 in
theorem rnamed_9 (w : World) : Calls Try.prog 72 #[.int .i64 9] w fun e w' => Three w w' e (1) (2) (2) := by
  go_enter Try.func72, Try.ntmps72
  go_wp2
  go_ret2
  exact ⟨rfl, rfl⟩
set_option maxRecDepth 100000 in
theorem rnamed_10 (w : World) : Calls Try.prog 72 #[.int .i64 10] w fun e w' => Three w w' e (-1) (0) (0) := by
  go_enter Try.func72, Try.ntmps72
  go_wp2
  go_ret2
  exact ⟨rfl, rfl⟩
set_option maxRecDepth 100000 in
theorem rnamed_11 (w : World) : Calls Try.prog 72 #[.int .i64 11] w fun e w' => Three w w' e (-1) (-1) (1) := by
  go_enter Try.func72, Try.ntmps72
  go_wp2
  go_ret2
  exact ⟨rfl, rfl⟩
set_option maxRecDepth 100000 in
theorem rnamed_12 (w : World) : Calls Try.prog 72 #[.int .i64 12] w fun e w' => Three w w' e (-1) (0) (3) := by
  go_enter Try.func72, Try.ntmps72
  go_wp2
  go_ret2
  exact ⟨rfl, rfl⟩
set_option maxRecDepth 100000 in
theorem rnamed_13 (w : World) : Calls Try.prog 72 #[.int .i64 13] w fun e w' => Three w w' e (3) (-1) (0) := by
  go_enter Try.func72, Try.ntmps72
  go_wp2
  go_ret2
  exact ⟨rfl, rfl⟩
set_option maxRecDepth 100000 in
theorem rnamed_14 (w : World) : Calls Try.prog 72 #[.int .i64 14] w fun e w' => Three w w' e (-1) (3) (-1) := by
  go_enter Try.func72, Try.ntmps72
  go_wp2
  go_ret2
  exact ⟨rfl, rfl⟩
set_option maxRecDepth 100000 in
theorem rnamed_15 (w : World) : Calls Try.prog 72 #[.int .i64 15] w fun e w' => Three w w' e (-1) (3) (-1) := by
  go_enter Try.func72, Try.ntmps72
  go_wp2
  go_ret2
  exact ⟨rfl, rfl⟩
set_option maxRecDepth 100000 in
theorem rnamed_16 (w : World) : Calls Try.prog 72 #[.int .i64 16] w fun e w' => Three w w' e (3) (-1) (0) := by
  go_enter Try.func72, Try.ntmps72
  go_wp2
  go_ret2
  exact ⟨rfl, rfl⟩
set_option maxRecDepth 100000 in
theorem rnamed_17 (w : World) : Calls Try.prog 72 #[.int .i64 17] w fun e w' => Three w w' e (1) (3) (-1) := by
  go_enter Try.func72, Try.ntmps72
  go_wp2
  go_ret2
  exact ⟨rfl, rfl⟩
set_option maxRecDepth 100000 in
theorem rnamed_18 (w : World) : Calls Try.prog 72 #[.int .i64 18] w fun e w' => Three w w' e (-1) (0) (0) := by
  go_enter Try.func72, Try.ntmps72
  go_wp2
  go_ret2
  exact ⟨rfl, rfl⟩
set_option maxRecDepth 100000 in
theorem rnamed_19 (w : World) : Calls Try.prog 72 #[.int .i64 19] w fun e w' => Three w w' e (-1) (-1) (0) := by
  go_enter Try.func72, Try.ntmps72
  go_wp2
  go_ret2
  exact ⟨rfl, rfl⟩
set_option maxRecDepth 100000 in
theorem rnamed_20 (w : World) : Calls Try.prog 72 #[.int .i64 20] w fun e w' => Three w w' e (-1) (0) (0) := by
  go_enter Try.func72, Try.ntmps72
  go_wp2
  go_ret2
  exact ⟨rfl, rfl⟩
set_option maxRecDepth 100000 in
theorem rnamed_21 (w : World) : Calls Try.prog 72 #[.int .i64 21] w fun e w' => Three w w' e (3) (0) (0) := by
  go_enter Try.func72, Try.ntmps72
  go_wp2
  go_ret2
  exact ⟨rfl, rfl⟩
set_option maxRecDepth 100000 in
theorem rnamed_22 (w : World) : Calls Try.prog 72 #[.int .i64 22] w fun e w' => Three w w' e (3) (0) (0) := by
  go_enter Try.func72, Try.ntmps72
  go_wp2
  go_ret2
  exact ⟨rfl, rfl⟩
set_option maxRecDepth 100000 in
theorem rnamed_23 (w : World) : Calls Try.prog 72 #[.int .i64 23] w fun e w' => Three w w' e (-1) (-1) (0) := by
  go_enter Try.func72, Try.ntmps72
  go_wp2
  go_ret2
  exact ⟨rfl, rfl⟩
set_option maxRecDepth 100000 in
theorem rnamed_24 (w : World) : Calls Try.prog 72 #[.int .i64 24] w fun e w' => Three w w' e (2) (0) (0) := by
  go_enter Try.func72, Try.ntmps72
  go_wp2
  go_ret2
  exact ⟨rfl, rfl⟩

theorem rnamed_any (op : Int) (w : World) (x y z : Int) (h : kindsOf op = some (x, y, z)) : Calls Try.prog 72 #[.int .i64 op] w fun e w' => Three w w' e x y z := by
  by_cases h1 : op = 1
  · subst h1
    have hk : kindsOf 1 = some (1, 0, 0) := by decide
    rw [hk] at h
    injection h with h
    injection h with ha h
    injection h with hb hc
    subst ha hb hc
    exact rnamed_1 w
  by_cases h2 : op = 2
  · subst h2
    have hk : kindsOf 2 = some (2, 0, 0) := by decide
    rw [hk] at h
    injection h with h
    injection h with ha h
    injection h with hb hc
    subst ha hb hc
    exact rnamed_2 w
  by_cases h3 : op = 3
  · subst h3
    have hk : kindsOf 3 = some (3, 0, 0) := by decide
    rw [hk] at h
    injection h with h
    injection h with ha h
    injection h with hb hc
    subst ha hb hc
    exact rnamed_3 w
  by_cases h4 : op = 4
  · subst h4
    have hk : kindsOf 4 = some (-1, -1, -1) := by decide
    rw [hk] at h
    injection h with h
    injection h with ha h
    injection h with hb hc
    subst ha hb hc
    exact rnamed_4 w
  by_cases h5 : op = 5
  · subst h5
    have hk : kindsOf 5 = some (1, 1, 1) := by decide
    rw [hk] at h
    injection h with h
    injection h with ha h
    injection h with hb hc
    subst ha hb hc
    exact rnamed_5 w
  by_cases h6 : op = 6
  · subst h6
    have hk : kindsOf 6 = some (2, 2, 2) := by decide
    rw [hk] at h
    injection h with h
    injection h with ha h
    injection h with hb hc
    subst ha hb hc
    exact rnamed_6 w
  by_cases h7 : op = 7
  · subst h7
    have hk : kindsOf 7 = some (2, 1, 0) := by decide
    rw [hk] at h
    injection h with h
    injection h with ha h
    injection h with hb hc
    subst ha hb hc
    exact rnamed_7 w
  by_cases h8 : op = 8
  · subst h8
    have hk : kindsOf 8 = some (1, 2, 0) := by decide
    rw [hk] at h
    injection h with h
    injection h with ha h
    injection h with hb hc
    subst ha hb hc
    exact rnamed_8 w
  by_cases h9 : op = 9
  · subst h9
    have hk : kindsOf 9 = some (1, 2, 2) := by decide
    rw [hk] at h
    injection h with h
    injection h with ha h
    injection h with hb hc
    subst ha hb hc
    exact rnamed_9 w
  by_cases h10 : op = 10
  · subst h10
    have hk : kindsOf 10 = some (-1, 0, 0) := by decide
    rw [hk] at h
    injection h with h
    injection h with ha h
    injection h with hb hc
    subst ha hb hc
    exact rnamed_10 w
  by_cases h11 : op = 11
  · subst h11
    have hk : kindsOf 11 = some (-1, -1, 1) := by decide
    rw [hk] at h
    injection h with h
    injection h with ha h
    injection h with hb hc
    subst ha hb hc
    exact rnamed_11 w
  by_cases h12 : op = 12
  · subst h12
    have hk : kindsOf 12 = some (-1, 0, 3) := by decide
    rw [hk] at h
    injection h with h
    injection h with ha h
    injection h with hb hc
    subst ha hb hc
    exact rnamed_12 w
  by_cases h13 : op = 13
  · subst h13
    have hk : kindsOf 13 = some (3, -1, 0) := by decide
    rw [hk] at h
    injection h with h
    injection h with ha h
    injection h with hb hc
    subst ha hb hc
    exact rnamed_13 w
  by_cases h14 : op = 14
  · subst h14
    have hk : kindsOf 14 = some (-1, 3, -1) := by decide
    rw [hk] at h
    injection h with h
    injection h with ha h
    injection h with hb hc
    subst ha hb hc
    exact rnamed_14 w
  by_cases h15 : op = 15
  · subst h15
    have hk : kindsOf 15 = some (-1, 3, -1) := by decide
    rw [hk] at h
    injection h with h
    injection h with ha h
    injection h with hb hc
    subst ha hb hc
    exact rnamed_15 w
  by_cases h16 : op = 16
  · subst h16
    have hk : kindsOf 16 = some (3, -1, 0) := by decide
    rw [hk] at h
    injection h with h
    injection h with ha h
    injection h with hb hc
    subst ha hb hc
    exact rnamed_16 w
  by_cases h17 : op = 17
  · subst h17
    have hk : kindsOf 17 = some (1, 3, -1) := by decide
    rw [hk] at h
    injection h with h
    injection h with ha h
    injection h with hb hc
    subst ha hb hc
    exact rnamed_17 w
  by_cases h18 : op = 18
  · subst h18
    have hk : kindsOf 18 = some (-1, 0, 0) := by decide
    rw [hk] at h
    injection h with h
    injection h with ha h
    injection h with hb hc
    subst ha hb hc
    exact rnamed_18 w
  by_cases h19 : op = 19
  · subst h19
    have hk : kindsOf 19 = some (-1, -1, 0) := by decide
    rw [hk] at h
    injection h with h
    injection h with ha h
    injection h with hb hc
    subst ha hb hc
    exact rnamed_19 w
  by_cases h20 : op = 20
  · subst h20
    have hk : kindsOf 20 = some (-1, 0, 0) := by decide
    rw [hk] at h
    injection h with h
    injection h with ha h
    injection h with hb hc
    subst ha hb hc
    exact rnamed_20 w
  by_cases h21 : op = 21
  · subst h21
    have hk : kindsOf 21 = some (3, 0, 0) := by decide
    rw [hk] at h
    injection h with h
    injection h with ha h
    injection h with hb hc
    subst ha hb hc
    exact rnamed_21 w
  by_cases h22 : op = 22
  · subst h22
    have hk : kindsOf 22 = some (3, 0, 0) := by decide
    rw [hk] at h
    injection h with h
    injection h with ha h
    injection h with hb hc
    subst ha hb hc
    exact rnamed_22 w
  by_cases h23 : op = 23
  · subst h23
    have hk : kindsOf 23 = some (-1, -1, 0) := by decide
    rw [hk] at h
    injection h with h
    injection h with ha h
    injection h with hb hc
    subst ha hb hc
    exact rnamed_23 w
  by_cases h24 : op = 24
  · subst h24
    have hk : kindsOf 24 = some (2, 0, 0) := by decide
    rw [hk] at h
    injection h with h
    injection h with ha h
    injection h with hb hc
    subst ha hb hc
    exact rnamed_24 w
  have hk : kindsOf op = none := by
    unfold kindsOf
    rw [if_neg h1, if_neg h2, if_neg h3, if_neg h4, if_neg h5, if_neg h6, if_neg h7, if_neg h8, if_neg h9, if_neg h10, if_neg h11, if_neg h12, if_neg h13, if_neg h14, if_neg h15, if_neg h16, if_neg h17, if_neg h18, if_neg h19, if_neg h20, if_neg h21, if_neg h22, if_neg h23, if_neg h24]
  rw [hk] at h
  cases h
theorem kinds_none {op : Int} (h : kindsOf op = none) : op < 1 ∨ 24 < op := by
  refine Decidable.byContradiction fun hc => ?_
  have : op = 1 ∨ op = 2 ∨ op = 3 ∨ op = 4 ∨ op = 5 ∨ op = 6 ∨ op = 7 ∨ op = 8 ∨ op = 9 ∨ op = 10 ∨ op = 11 ∨ op = 12 ∨ op = 13 ∨ op = 14 ∨ op = 15 ∨ op = 16 ∨ op = 17 ∨ op = 18 ∨ op = 19 ∨ op = 20 ∨ op = 21 ∨ op = 22 ∨ op = 23 ∨ op = 24 := by omega
  rcases this with rfl | rfl | rfl | rfl | rfl | rfl | rfl | rfl | rfl | rfl | rfl | rfl | rfl | rfl | rfl | rfl | rfl | rfl | rfl | rfl | rfl | rfl | rfl | rfl <;> exact absurd h (by decide)

end Go.Proofs.Ytgiiapenmjollab
namespace Go.Proofs.Ytgiiapenmjollab
open Go.RowKit
set_option linter.unusedVariables false
set_option linter.unusedSimpArgs false

/-- Three numbers in a block. -/
def Cells3 (w : World) (b : Nat) (x y z : Int) : Prop := w.cell? ⟨b, 0, none⟩ = some (.int .i64 x) ∧ w.cell? ⟨b, 1, none⟩ = some (.int .i64 y) ∧ w.cell? ⟨b, 2, none⟩ = some (.int .i64 z)
def three (x y z : Int) (k : Nat) : Int := if k = 0 then x else if k = 1 then y else z
theorem Cells3.at {w : World} {b : Nat} {x y z : Int} (h : Cells3 w b x y z) (k : Nat) (hk : k < 3) : w.cell? ⟨b, k, none⟩ = some (.int .i64 (three x y z k)) := by
  have : k = 0 ∨ k = 1 ∨ k = 2 := by omega
  rcases this with rfl | rfl | rfl
  · exact h.1
  · exact h.2.1
  · exact h.2.2
theorem Cells3.bl {w w' : World} (h : Bl w w') {b : Nat} {x y z : Int} (hb : Cells3 w b x y z) : Cells3 w' b x y z := ⟨h.cell hb.1, h.cell hb.2.1, h.cell hb.2.2⟩
theorem InBox.bl {w w' : World} (h : Bl w w') {b off : Nat} {i : In} {Q : Option Addr} {q : Nat} (hb : InBox w b off i Q q) : InBox w' b off i Q q :=
  ⟨h.cell hb.1, h.cell hb.2.1, h.cell hb.2.2.1, h.cell hb.2.2.2.1, h.cell hb.2.2.2.2.1, h.cell hb.2.2.2.2.2⟩

theorem InBox.lit {w : World} {b : Nat} {i : In} {Q : Option Addr} {q : Nat} (h : InBox w b 0 i Q q) :
    w.cell? ⟨b, 0, none⟩ = some (.int .i64 i.op) ∧ w.cell? ⟨b, 1, none⟩ = some (.int .i64 i.a) ∧ w.cell? ⟨b, 2, none⟩ = some (.int .i64 i.b) ∧ w.cell? ⟨b, 3, none⟩ = some (.int .i64 i.c) ∧ w.cell? ⟨b, 4, none⟩ = some (.int .i64 i.n) ∧ w.cell? ⟨b, 5, none⟩ = some (.slice Q i.args.length q) := h
theorem MeBox.lit {w : World} {b : Nat} {m : Me} {P C K : Option Addr} {p c k : Nat} (h : MeBox w b 0 m P C K p c k) :
    w.cell? ⟨b, 0, none⟩ = some (.slice P m.params.length p) ∧ w.cell? ⟨b, 1, none⟩ = some (.int .i64 m.ret.kind) ∧ w.cell? ⟨b, 2, none⟩ = some (.int .i64 m.ret.cls)
    ∧ w.cell? ⟨b, 3, none⟩ = some (.int .i64 m.stack) ∧ w.cell? ⟨b, 4, none⟩ = some (.int .i64 m.locs) ∧ w.cell? ⟨b, 5, none⟩ = some (.int .i64 m.regs)
    ∧ w.cell? ⟨b, 6, none⟩ = some (.slice C m.code.length c) ∧ w.cell? ⟨b, 7, none⟩ = some (.slice K m.hands.length k) := h
theorem FiBox.lit {w : World} {b nc nm : Nat} {A B : Option Addr} {x y : Nat} (h : FiBox w b 0 nc nm A B x y) : w.cell? ⟨b, 0, none⟩ = some (.slice A nc x) ∧ w.cell? ⟨b, 1, none⟩ = some (.slice B nm y) := h

/-- All that lies in boxes while an instruction is looked at. -/
structure RBox (w : World) (s nc nm : Nat) (A B : Option Addr) (a b : Nat) (m : Me) (P C K : Option Addr) (p c k : Nat) (i : In) (Q : Option Addr) (q : Nat) (x y z : Int) : Prop where
  rf : FiBox w s 0 nc nm A B a b
  rm : MeBox w (s + 1) 0 m P C K p c k
  ri : InBox w (s + 1 + 1) 0 i Q q
  rk : Cells3 w (s + 1 + 1 + 1) x y z
  rd : Cells3 w (s + 1 + 1 + 1 + 1) i.a i.b i.c
theorem RBox.bl {w w' : World} (h : Bl w w') {s nc nm : Nat} {A B : Option Addr} {a b : Nat} {m : Me} {P C K : Option Addr} {p c k : Nat} {i : In} {Q : Option Addr} {q : Nat} {x y z : Int} (hb : RBox w s nc nm A B a b m P C K p c k i Q q x y z) : RBox w' s nc nm A B a b m P C K p c k i Q q x y z :=
  ⟨hb.rf.bl h, hb.rm.bl h, hb.ri.bl h, hb.rk.bl h, hb.rd.bl h⟩

/-- Five boxes. -/
abbrev boxed5 (w : World) (nc nm : Nat) (A B : Option Addr) (a b : Nat) (m : Me) (P C K : Option Addr) (p c k : Nat) (i : In) (Q : Option Addr) (q : Nat) (x y z : Int) : World :=
  (((((w.alloc (.cells #[.slice A nc a, .slice B nm b] 25)).alloc (.cells #[.slice P m.params.length p, .int .i64 m.ret.kind, .int .i64 m.ret.cls, .int .i64 m.stack, .int .i64 m.locs, .int .i64 m.regs, .slice C m.code.length c, .slice K m.hands.length k] 50)).alloc
    (.cells #[.int .i64 i.op, .int .i64 i.a, .int .i64 i.b, .int .i64 i.c, .int .i64 i.n, .slice Q i.args.length q] 53)).alloc (.cells #[.int .i64 x, .int .i64 y, .int .i64 z] 3)).alloc (.cells #[.int .i64 i.a, .int .i64 i.b, .int .i64 i.c] 3))
theorem boxed5_is (w : World) (nc nm : Nat) (A B : Option Addr) (a b : Nat) (m : Me) (P C K : Option Addr) (p c k : Nat) (i : In) (Q : Option Addr) (q : Nat) (x y z : Int) :
    RBox (boxed5 w nc nm A B a b m P C K p c k i Q q x y z) w.heap.size nc nm A B a b m P C K p c k i Q q x y z := by
  obtain ⟨w1, h1⟩ : ∃ w1, w.alloc (.cells #[.slice A nc a, .slice B nm b] 25) = w1 := ⟨_, rfl⟩
  obtain ⟨w2, h2⟩ : ∃ w2, w1.alloc (.cells #[.slice P m.params.length p, .int .i64 m.ret.kind, .int .i64 m.ret.cls, .int .i64 m.stack, .int .i64 m.locs, .int .i64 m.regs, .slice C m.code.length c, .slice K m.hands.length k] 50) = w2 := ⟨_, rfl⟩
  obtain ⟨w3, h3⟩ : ∃ w3, w2.alloc (.cells #[.int .i64 i.op, .int .i64 i.a, .int .i64 i.b, .int .i64 i.c, .int .i64 i.n, .slice Q i.args.length q] 53) = w3 := ⟨_, rfl⟩
  obtain ⟨w4, h4⟩ : ∃ w4, w3.alloc (.cells #[.int .i64 x, .int .i64 y, .int .i64 z] 3) = w4 := ⟨_, rfl⟩
  obtain ⟨w5, h5⟩ : ∃ w5, w4.alloc (.cells #[.int .i64 i.a, .int .i64 i.b, .int .i64 i.c] 3) = w5 := ⟨_, rfl⟩
  have s1 : w1.heap.size = w.heap.size + 1 := by rw [← h1, World.size_alloc]
  have s2 : w2.heap.size = w.heap.size + 1 + 1 := by rw [← h2, World.size_alloc, s1]
  have s3 : w3.heap.size = w.heap.size + 1 + 1 + 1 := by rw [← h3, World.size_alloc, s2]
  have s4 : w4.heap.size = w.heap.size + 1 + 1 + 1 + 1 := by rw [← h4, World.size_alloc, s3]
  have e : boxed5 w nc nm A B a b m P C K p c k i Q q x y z = w5 := by rw [← h5, ← h4, ← h3, ← h2, ← h1]
  rw [e]
  have b45 : Bl w4 w5 := by rw [← h5]; exact (Bl.refl _).alloc _
  have b35 : Bl w3 w5 := Bl.trans (by rw [← h4]; exact (Bl.refl _).alloc _) b45
  have b25 : Bl w2 w5 := Bl.trans (by rw [← h3]; exact (Bl.refl _).alloc _) b35
  have b15 : Bl w1 w5 := Bl.trans (by rw [← h2]; exact (Bl.refl _).alloc _) b25
  refine ⟨FiBox.bl b15 ?_, MeBox.bl b25 ?_, InBox.bl b35 ?_, Cells3.bl b45 ?_, ?_⟩
  · rw [← h1]; exact ⟨cell_of_new rfl, cell_of_new rfl⟩
  · rw [← h2, ← s1]; exact ⟨cell_of_new rfl, cell_of_new rfl, cell_of_new rfl, cell_of_new rfl, cell_of_new rfl, cell_of_new rfl, cell_of_new rfl, cell_of_new rfl⟩
  · rw [← h3, ← s2]; exact ⟨cell_of_new rfl, cell_of_new rfl, cell_of_new rfl, cell_of_new rfl, cell_of_new rfl, cell_of_new rfl⟩
  · rw [← h4, ← s3]; exact ⟨cell_of_new rfl, cell_of_new rfl, cell_of_new rfl⟩
  · rw [← h5, ← s4]; exact ⟨cell_of_new rfl, cell_of_new rfl, cell_of_new rfl⟩

theorem rin_field {cs : List Cl} {ms : List Me} {nc : Nat} {regs ret : Int} {i : In} {x y z : Int} (h : kindsOf i.op = some (x, y, z)) {k : Nat} (hk : k < 3) (hb : rfldB regs (three i.a i.b i.c k) (three x y z k) = false) : rinB cs ms nc regs ret i = false := by
  unfold rinB; rw [h]
  have : k = 0 ∨ k = 1 ∨ k = 2 := by omega
  rcases this with rfl | rfl | rfl <;> simp [three] at hb <;> simp [hb]
theorem rin_rest {cs : List Cl} {ms : List Me} {nc : Nat} {regs ret : Int} {i : In} {x y z : Int} (h : kindsOf i.op = some (x, y, z)) (hb : ∀ k, k < 3 → rfldB regs (three i.a i.b i.c k) (three x y z k) = true) : rinB cs ms nc regs ret i = rrestB cs ms nc regs ret i := by
  unfold rinB; rw [h]
  have h0 := hb 0 (by omega)
  have h1 := hb 1 (by omega)
  have h2 := hb 2 (by omega)
  simp [three] at h0 h1 h2
  simp [h0, h1, h2]

end Go.Proofs.Ytgiiapenmjollab
