/-
  Package rform: the smaller functions, each by a contract.
-/
import Derived.Test.YtgiiapenmjollacLRformPlain
import Derived.Test.YtgiiapenmjollacLNumNarrow
namespace Go.Proofs.Ytgiiapenmjollac
open Go.RowKit
set_option linter.unusedVariables false
set_option linter.unusedSimpArgs false

theorem numbersL_any (x n : Int) (w : World) :
    Calls Try.prog 62 #[.int .i64 x, .int .i64 n] w fun e w' => e = .returned (.bool (decide (0 ≤ x ∧ x < n))) ∧ w' = w := by
  go_enter Try.func62, Try.ntmps62
  go_wp2
  all_goals
    go_ret
    refine ⟨ret_bool ?_, rfl⟩
    rw [Bool.eq_iff_iff]; simp; try omega

theorem spanL_any (n lo hi : Int) (w : World) :
    Calls Try.prog 58 #[.int .i64 n, .int .i64 lo, .int .i64 hi] w fun e w' => e = .returned (.bool (decide (lo ≤ n ∧ n ≤ hi))) ∧ w' = w := by
  go_enter Try.func58, Try.ntmps58
  go_wp2
  all_goals
    go_ret
    refine ⟨ret_bool ?_, rfl⟩
    rw [Bool.eq_iff_iff]; simp; try omega

theorem hidp {p : Prop} (h : p) : Hid p := h
/-- A method with its file, as a value, and as a box. -/
abbrev rmV (m : Me) (P C K : Option Addr) (p c k : Nat) (nc nm : Nat) (A B : Option Addr) (x y : Nat) : Value :=
  .agg #[.slice P m.params.length p, .int .i64 m.ret.kind, .int .i64 m.ret.cls, .int .i64 m.stack, .int .i64 m.locs, .int .i64 m.regs, .slice C m.code.length c, .slice K m.hands.length k, .slice A nc x, .slice B nm y]
abbrev rmO (m : Me) (P C K : Option Addr) (p c k : Nat) (nc nm : Nat) (A B : Option Addr) (x y : Nat) : Obj :=
  .cells #[.slice P m.params.length p, .int .i64 m.ret.kind, .int .i64 m.ret.cls, .int .i64 m.stack, .int .i64 m.locs, .int .i64 m.regs, .slice C m.code.length c, .slice K m.hands.length k, .slice A nc x, .slice B nm y] 61
abbrev riO (i : In) (Q : Option Addr) (q : Nat) : Obj := .cells #[.int .i64 i.op, .int .i64 i.a, .int .i64 i.b, .int .i64 i.c, .int .i64 i.n, .slice Q i.args.length q] 44
abbrev riV (i : In) (Q : Option Addr) (q : Nat) : Value := .agg #[.int .i64 i.op, .int .i64 i.a, .int .i64 i.b, .int .i64 i.c, .int .i64 i.n, .slice Q i.args.length q]
structure RmC (w : World) (b : Nat) (m : Me) (P C K : Option Addr) (p c k : Nat) (nc nm : Nat) (A B : Option Addr) (x y : Nat) : Prop where
  m0 : w.cell? ⟨b, 0, none⟩ = some (.slice P m.params.length p)
  m1 : w.cell? ⟨b, 1, none⟩ = some (.int .i64 m.ret.kind)
  m2 : w.cell? ⟨b, 2, none⟩ = some (.int .i64 m.ret.cls)
  m3 : w.cell? ⟨b, 3, none⟩ = some (.int .i64 m.stack)
  m4 : w.cell? ⟨b, 4, none⟩ = some (.int .i64 m.locs)
  m5 : w.cell? ⟨b, 5, none⟩ = some (.int .i64 m.regs)
  m6 : w.cell? ⟨b, 6, none⟩ = some (.slice C m.code.length c)
  m7 : w.cell? ⟨b, 7, none⟩ = some (.slice K m.hands.length k)
  m8 : w.cell? ⟨b, 8, none⟩ = some (.slice A nc x)
  m9 : w.cell? ⟨b, 9, none⟩ = some (.slice B nm y)
theorem RmC.bl {w w' : World} (h : Bl w w') {b : Nat} {m : Me} {P C K : Option Addr} {p c k nc nm : Nat} {A B : Option Addr} {x y : Nat} (hb : RmC w b m P C K p c k nc nm A B x y) : RmC w' b m P C K p c k nc nm A B x y :=
  ⟨h.cell hb.m0, h.cell hb.m1, h.cell hb.m2, h.cell hb.m3, h.cell hb.m4, h.cell hb.m5, h.cell hb.m6, h.cell hb.m7, h.cell hb.m8, h.cell hb.m9⟩
theorem RmC.new (w : World) (m : Me) (P C K : Option Addr) (p c k : Nat) (nc nm : Nat) (A B : Option Addr) (x y : Nat) : RmC (w.alloc (rmO m P C K p c k nc nm A B x y)) w.heap.size m P C K p c k nc nm A B x y :=
  ⟨cell_of_new rfl, cell_of_new rfl, cell_of_new rfl, cell_of_new rfl, cell_of_new rfl, cell_of_new rfl, cell_of_new rfl, cell_of_new rfl, cell_of_new rfl, cell_of_new rfl⟩
structure RiC (w : World) (b : Nat) (i : In) (Q : Option Addr) (q : Nat) : Prop where
  i0 : w.cell? ⟨b, 0, none⟩ = some (.int .i64 i.op)
  i1 : w.cell? ⟨b, 1, none⟩ = some (.int .i64 i.a)
  i2 : w.cell? ⟨b, 2, none⟩ = some (.int .i64 i.b)
  i3 : w.cell? ⟨b, 3, none⟩ = some (.int .i64 i.c)
  i4 : w.cell? ⟨b, 4, none⟩ = some (.int .i64 i.n)
  i5 : w.cell? ⟨b, 5, none⟩ = some (.slice Q i.args.length q)
theorem RiC.bl {w w' : World} (h : Bl w w') {b : Nat} {i : In} {Q : Option Addr} {q : Nat} (hb : RiC w b i Q q) : RiC w' b i Q q :=
  ⟨h.cell hb.i0, h.cell hb.i1, h.cell hb.i2, h.cell hb.i3, h.cell hb.i4, h.cell hb.i5⟩
theorem RiC.new (w : World) (i : In) (Q : Option Addr) (q : Nat) : RiC (w.alloc (riO i Q q)) w.heap.size i Q q :=
  ⟨cell_of_new rfl, cell_of_new rfl, cell_of_new rfl, cell_of_new rfl, cell_of_new rfl, cell_of_new rfl⟩
/-- Both boxes. -/
abbrev rmiW (w : World) (m : Me) (P C K : Option Addr) (p c k : Nat) (nc nm : Nat) (A B : Option Addr) (x y : Nat) (i : In) (Q : Option Addr) (q : Nat) : World :=
  (w.alloc (rmO m P C K p c k nc nm A B x y)).alloc (riO i Q q)
theorem rmi_m (w : World) (m : Me) (P C K : Option Addr) (p c k : Nat) (nc nm : Nat) (A B : Option Addr) (x y : Nat) (i : In) (Q : Option Addr) (q : Nat) :
    RmC (rmiW w m P C K p c k nc nm A B x y i Q q) w.heap.size m P C K p c k nc nm A B x y := (RmC.new ..).bl ((Bl.refl _).alloc _)
theorem rmi_i (w : World) (m : Me) (P C K : Option Addr) (p c k : Nat) (nc nm : Nat) (A B : Option Addr) (x y : Nat) (i : In) (Q : Option Addr) (q : Nat) :
    RiC (rmiW w m P C K p c k nc nm A B x y i Q q) (w.heap.size + 1) i Q q := by
  have := RiC.new (w.alloc (rmO m P C K p c k nc nm A B x y)) i Q q
  rwa [World.size_alloc] at this

theorem ints_one {w : World} {n : Nat} (hn : n = w.heap.size) {a : Int} {t : TypeId} (ha : I64 a) : IntsAt (w.alloc (.cells #[.int .i64 a] t)) (some ⟨n, 0, none⟩) [a] := by
  subst hn
  refine ⟨by unfold maxLen; simp, Or.inr ⟨_, _, rfl, fun i hi => ?_⟩⟩
  obtain rfl : i = 0 := by simpa using hi
  exact ⟨cell_of_new rfl, ha⟩
theorem ints_two {w : World} {n : Nat} (hn : n = w.heap.size) {a b : Int} {t : TypeId} (ha : I64 a) (hb : I64 b) : IntsAt (w.alloc (.cells #[.int .i64 a, .int .i64 b] t)) (some ⟨n, 0, none⟩) [a, b] := by
  subst hn
  refine ⟨by unfold maxLen; simp, Or.inr ⟨_, _, rfl, fun i hi => ?_⟩⟩
  have : i = 0 ∨ i = 1 := by simp at hi; omega
  rcases this with rfl | rfl
  · exact ⟨cell_of_new rfl, ha⟩
  · exact ⟨cell_of_new rfl, hb⟩
theorem ints_three {w : World} {n : Nat} (hn : n = w.heap.size) {a b c : Int} {t : TypeId} (ha : I64 a) (hb : I64 b) (hc : I64 c) : IntsAt (w.alloc (.cells #[.int .i64 a, .int .i64 b, .int .i64 c] t)) (some ⟨n, 0, none⟩) [a, b, c] := by
  subst hn
  refine ⟨by unfold maxLen; simp, Or.inr ⟨_, _, rfl, fun i hi => ?_⟩⟩
  have : i = 0 ∨ i = 1 ∨ i = 2 := by simp at hi; omega
  rcases this with rfl | rfl | rfl
  · exact ⟨cell_of_new rfl, ha⟩
  · exact ⟨cell_of_new rfl, hb⟩
  · exact ⟨cell_of_new rfl, hc⟩

set_option maxHeartbeats 2000000 in
theorem namesB_any (op : Int) (w : World) :
    Calls Try.prog 59 #[.int .i64 op] w fun e w' => e = .returned (.bool (nmsB op)) ∧ w' = w := by
  go_enter Try.func59, Try.ntmps59
  go_wp2
  all_goals
    go_ret
    refine ⟨ret_bool ?_, rfl⟩
    unfold nmsB
    first
      | (symm; apply decide_eq_true; simp_all; done)
      | (symm; apply decide_eq_false; simp_all; done)

set_option maxHeartbeats 2000000 in
theorem namesC_any (op : Int) (w : World) :
    Calls Try.prog 60 #[.int .i64 op] w fun e w' => e = .returned (.bool (nmsC op)) ∧ w' = w := by
  go_enter Try.func60, Try.ntmps60
  go_wp2
  all_goals
    go_ret
    refine ⟨ret_bool ?_, rfl⟩
    unfold nmsC
    first
      | (symm; apply decide_eq_true; simp_all; done)
      | (symm; apply decide_eq_false; simp_all; done)

set_option maxHeartbeats 2000000 in
theorem namesN_any (op : Int) (w : World) :
    Calls Try.prog 61 #[.int .i64 op] w fun e w' => e = .returned (.bool (nmsN op)) ∧ w' = w := by
  go_enter Try.func61, Try.ntmps61
  go_wp2
  all_goals
    go_ret
    refine ⟨ret_bool ?_, rfl⟩
    unfold nmsN
    first
      | (symm; apply decide_eq_true; simp_all; done)
      | (symm; apply decide_eq_false; simp_all; done)

set_option maxHeartbeats 4000000 in
theorem prest_any (i : In) (Q : Option Addr) (q : Nat) (w : World) (hq : i.args.length ≤ maxLen) :
    Calls Try.prog 50 #[riV i Q q] w fun e w' => e = .returned (.bool (prestB i)) ∧ Bl w w' := by
  unfold maxLen at hq
  have hfin : decide (i.op = 18 ∨ i.args.length = 0) = ((i.op == 18) || ((i.args.length : Int) == 0)) := by rw [Bool.eq_iff_iff]; simp
  have eb : decide (i.b = 0) = (i.b == 0) := by rw [Bool.eq_iff_iff]; simp
  have ec : decide (i.c = 0) = (i.c == 0) := by rw [Bool.eq_iff_iff]; simp
  have en : decide (i.n = 0) = (i.n == 0) := by rw [Bool.eq_iff_iff]; simp
  unfold prestB
  rw [hfin, eb, ec, en]
  clear hfin eb ec en
  cases hB : nmsB i.op <;> cases hC : nmsC i.op <;> cases hN : nmsN i.op
  all_goals
    go_enter Try.func50, Try.ntmps50
    go_wp2_with (first
      | (go_at_call 59; refine (namesB_any _ _).mono ?_; rintro e w0 ⟨he, hw0⟩; rw [hB] at he; subst he; rw [hw0]; clear hw0 w0)
      | (go_at_call 60; refine (namesC_any _ _).mono ?_; rintro e w0 ⟨he, hw0⟩; rw [hC] at he; subst he; rw [hw0]; clear hw0 w0)
      | (go_at_call 61; refine (namesN_any _ _).mono ?_; rintro e w0 ⟨he, hw0⟩; rw [hN] at he; subst he; rw [hw0]; clear hw0 w0))
    all_goals
      go_ret
      exact ⟨ret_bool (by simp [*]), (Bl.refl _).alloc _⟩

set_option maxHeartbeats 2000000 in
theorem kof_any (m : Me) (P C K : Option Addr) (p c k : Nat) (cs : List Cl) (nm : Nat) (A B : Option Addr) (x y : Nat) (i : In) (Q : Option Addr) (q : Nat) (w : World) (hl : ClsAt w A cs) :
    Calls Try.prog 55 #[rmV m P C K p c k cs.length nm A B x y, riV i Q q] w fun e w' => e = .returned (.int .i64 (kofI cs i.c i.n)) ∧ Bl w w' := by
  have HAL : Hid (Bl w (rmiW w m P C K p c k cs.length nm A B x y i Q q)) := ((Bl.refl _).alloc _).alloc _
  have HL : Hid (ClsAt w A cs) := hl
  have hm := hl.1
  unfold maxLen at hm
  clear hl
  by_cases h : 0 ≤ i.c ∧ i.c < cs.length
  · have hd : decide (0 ≤ i.c ∧ i.c < (cs.length : Int)) = true := decide_eq_true h
    obtain ⟨n, hn⟩ : ∃ n : Nat, i.c = n := ⟨i.c.toNat, by omega⟩
    rcases (HL.out.bl HAL.out).2 with h0 | ⟨b, off, rfl, hc⟩
    · omega
    obtain ⟨-, -, A', c', hfl, hty⟩ := hc n (by omega)
    have hfm := hty.1
    unfold maxLen at hfm
    by_cases h2 : 0 ≤ i.n ∧ i.n < (nth cl0 cs n).fields.length
    · have hd2 : decide (0 ≤ i.n ∧ i.n < ((nth cl0 cs n).fields.length : Int)) = true := decide_eq_true h2
      obtain ⟨t, ht⟩ : ∃ t : Nat, i.n = t := ⟨i.n.toNat, by omega⟩
      rcases hty.2 with h0 | ⟨b2, off2, rfl, hc2⟩
      · omega
      obtain ⟨g1, g2, -⟩ := hc2 t (by omega)
      have hb : kofI cs i.c i.n = (nth ty0 (nth cl0 cs n).fields t).kind := by
        unfold kofI; rw [if_pos (by rw [hn, Int.toNat_natCast]; omega), hn, ht, Int.toNat_natCast, Int.toNat_natCast]
      rw [hb]
      clear hb hc hty hc2 HL
      obtain ⟨op, a, b', ic, iN, args⟩ := i
      dsimp only at *
      subst hn ht
      go_enter Try.func55, Try.ntmps55
      go_wp2_with (first
        | (go_at_call 39; refine (numbers_any _ _ _).mono ?_; rintro e w1 ⟨he, hw1⟩; rw [hd] at he; subst he; rw [hw1]; clear hw1 w1)
        | (go_at_call 62; refine (numbersL_any _ _ _).mono ?_; rintro e w1 ⟨he, hw1⟩; rw [hd2] at he; subst he; rw [hw1]; clear hw1 w1))
      go_ret
      exact ⟨rfl, HAL.out⟩
    · have hd2 : decide (0 ≤ i.n ∧ i.n < ((nth cl0 cs n).fields.length : Int)) = false := decide_eq_false h2
      have hb : kofI cs i.c i.n = 0 := by
        unfold kofI; rw [if_neg (by rw [hn, Int.toNat_natCast]; omega)]
      rw [hb]
      clear hb hc hty HL
      obtain ⟨op, a, b', ic, iN, args⟩ := i
      dsimp only at *
      subst hn
      go_enter Try.func55, Try.ntmps55
      go_wp2_with (first
        | (go_at_call 39; refine (numbers_any _ _ _).mono ?_; rintro e w1 ⟨he, hw1⟩; rw [hd] at he; subst he; rw [hw1]; clear hw1 w1)
        | (go_at_call 62; refine (numbersL_any _ _ _).mono ?_; rintro e w1 ⟨he, hw1⟩; rw [hd2] at he; subst he; rw [hw1]; clear hw1 w1))
      go_ret
      exact ⟨rfl, HAL.out⟩
  · have hd : decide (0 ≤ i.c ∧ i.c < (cs.length : Int)) = false := decide_eq_false h
    have hb : kofI cs i.c i.n = 0 := by unfold kofI; rw [if_neg (by omega)]
    rw [hb]
    clear hb
    go_enter Try.func55, Try.ntmps55
    go_wp2_with (go_at_call 39; refine (numbers_any _ _ _).mono ?_; rintro e w1 ⟨he, hw1⟩; rw [hd] at he; subst he; rw [hw1]; clear hw1 w1)
    go_ret
    exact ⟨rfl, HAL.out⟩

end Go.Proofs.Ytgiiapenmjollac
