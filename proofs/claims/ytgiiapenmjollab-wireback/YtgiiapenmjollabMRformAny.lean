/-
  Package rform: the smaller functions, each by a contract.
-/
import Derived.Test.YtgiiapenmjollabMRformPlain
import Derived.Test.YtgiiapenmjollabMFut
import Derived.Deep.RegionHeld3
import Derived.Test.YtgiiapenmjollabMRegRel
namespace Go.Proofs.Ytgiiapenmjollab
open Go.RowKit
set_option linter.unusedVariables false
set_option linter.unusedSimpArgs false

theorem numbersL_any (x n : Int) (w : World) :
    Calls Try.prog 107 #[.int .i64 x, .int .i64 n] w fun e w' => e = .returned (.bool (decide (0 ≤ x ∧ x < n))) ∧ w' = w := by
  go_enter Try.func107, Try.ntmps107
  go_wp2
  all_goals
    go_ret
    refine ⟨ret_bool ?_, rfl⟩
    rw [Bool.eq_iff_iff]; simp; try omega

theorem spanL_any (n lo hi : Int) (w : World) :
    Calls Try.prog 75 #[.int .i64 n, .int .i64 lo, .int .i64 hi] w fun e w' => e = .returned (.bool (decide (lo ≤ n ∧ n ≤ hi))) ∧ w' = w := by
  go_enter Try.func75, Try.ntmps75
  go_wp2
  all_goals
    go_ret
    refine ⟨ret_bool ?_, rfl⟩
    rw [Bool.eq_iff_iff]; simp; try omega

theorem hidp {p : Prop} (h : p) : Hid p := h
/-- A method with its file, as a value, and as a box. -/
abbrev rmV (m : Me) (P C K : Option Addr) (p c k : Nat) (nc nm : Nat) (A B : Option Addr) (x y : Nat) : Value :=
  .agg #[.slice P m.params.length p, .int .i64 m.ret.kind, .int .i64 m.ret.cls, .int .i64 m.stack, .int .i64 m.locs, .int .i64 m.regs, .slice C m.code.length c, .slice K m.hands.length k, .slice A nc x, .slice B nm y]
abbrev rmO (m : Me) (P C K : Option Addr) (p c k : Nat) (nc nm : Nat) (A B : Option Addr) (x y : Nat) : Obj :=
  .cells #[.slice P m.params.length p, .int .i64 m.ret.kind, .int .i64 m.ret.cls, .int .i64 m.stack, .int .i64 m.locs, .int .i64 m.regs, .slice C m.code.length c, .slice K m.hands.length k, .slice A nc x, .slice B nm y] 84
abbrev riO (i : In) (Q : Option Addr) (q : Nat) : Obj := .cells #[.int .i64 i.op, .int .i64 i.a, .int .i64 i.b, .int .i64 i.c, .int .i64 i.n, .slice Q i.args.length q] 53
abbrev riV (i : In) (Q : Option Addr) (q : Nat) : Value := .agg #[.int .i64 i.op, .int .i64 i.a, .int .i64 i.b, .int .i64 i.c, .int .i64 i.n, .slice Q i.args.length q]
structure RmC (w : World) (b : Nat) (m : Me) (P C K : Option Addr) (p c k : Nat) (nc nm : Nat) (A B : Option Addr) (x y : Nat) : Prop where
  m0 : w.cell? ⟨b, 0, none⟩ = some (.slice P m.params.length p)
  m1 : w.cell? ⟨b, 1, none⟩ = some (.int .i64 m.ret.kind)
  m2 : w.cell? ⟨b, 2, none⟩ = some (.int .i64 m.ret.cls)
  m3 : w.cell? ⟨b, 3, none⟩ = some (.int .i64 m.stack)
  m4 : w.cell? ⟨b, 4, none⟩ = some (.int .i64 m.locs)
  m5 : w.cell? ⟨b, 5, none⟩ = some (.int .i64 m.regs)
  m6 : w.cell? ⟨b, 6, none⟩ = some (.slice C m.code.length c)
  m7 : w.cell? ⟨b, 7, none⟩ = some (.slice K m.hands.length k)
  m8 : w.cell? ⟨b, 8, none⟩ = some (.slice A nc x)
  m9 : w.cell? ⟨b, 9, none⟩ = some (.slice B nm y)
theorem RmC.bl {w w' : World} (h : Bl w w') {b : Nat} {m : Me} {P C K : Option Addr} {p c k nc nm : Nat} {A B : Option Addr} {x y : Nat} (hb : RmC w b m P C K p c k nc nm A B x y) : RmC w' b m P C K p c k nc nm A B x y :=
  ⟨h.cell hb.m0, h.cell hb.m1, h.cell hb.m2, h.cell hb.m3, h.cell hb.m4, h.cell hb.m5, h.cell hb.m6, h.cell hb.m7, h.cell hb.m8, h.cell hb.m9⟩
theorem RmC.new (w : World) (m : Me) (P C K : Option Addr) (p c k : Nat) (nc nm : Nat) (A B : Option Addr) (x y : Nat) : RmC (w.alloc (rmO m P C K p c k nc nm A B x y)) w.heap.size m P C K p c k nc nm A B x y :=
  ⟨cell_of_new rfl, cell_of_new rfl, cell_of_new rfl, cell_of_new rfl, cell_of_new rfl, cell_of_new rfl, cell_of_new rfl, cell_of_new rfl, cell_of_new rfl, cell_of_new rfl⟩
structure RiC (w : World) (b : Nat) (i : In) (Q : Option Addr) (q : Nat) : Prop where
  i0 : w.cell? ⟨b, 0, none⟩ = some (.int .i64 i.op)
  i1 : w.cell? ⟨b, 1, none⟩ = some (.int .i64 i.a)
  i2 : w.cell? ⟨b, 2, none⟩ = some (.int .i64 i.b)
  i3 : w.cell? ⟨b, 3, none⟩ = some (.int .i64 i.c)
  i4 : w.cell? ⟨b, 4, none⟩ = some (.int .i64 i.n)
  i5 : w.cell? ⟨b, 5, none⟩ = some (.slice Q i.args.length q)
theorem RiC.bl {w w' : World} (h : Bl w w') {b : Nat} {i : In} {Q : Option Addr} {q : Nat} (hb : RiC w b i Q q) : RiC w' b i Q q :=
  ⟨h.cell hb.i0, h.cell hb.i1, h.cell hb.i2, h.cell hb.i3, h.cell hb.i4, h.cell hb.i5⟩
theorem RiC.new (w : World) (i : In) (Q : Option Addr) (q : Nat) : RiC (w.alloc (riO i Q q)) w.heap.size i Q q :=
  ⟨cell_of_new rfl, cell_of_new rfl, cell_of_new rfl, cell_of_new rfl, cell_of_new rfl, cell_of_new rfl⟩
/-- Both boxes. -/
abbrev rmiW (w : World) (m : Me) (P C K : Option Addr) (p c k : Nat) (nc nm : Nat) (A B : Option Addr) (x y : Nat) (i : In) (Q : Option Addr) (q : Nat) : World :=
  (w.alloc (rmO m P C K p c k nc nm A B x y)).alloc (riO i Q q)
theorem rmi_m (w : World) (m : Me) (P C K : Option Addr) (p c k : Nat) (nc nm : Nat) (A B : Option Addr) (x y : Nat) (i : In) (Q : Option Addr) (q : Nat) :
    RmC (rmiW w m P C K p c k nc nm A B x y i Q q) w.heap.size m P C K p c k nc nm A B x y := (RmC.new ..).bl ((Bl.refl _).alloc _)
theorem rmi_i (w : World) (m : Me) (P C K : Option Addr) (p c k : Nat) (nc nm : Nat) (A B : Option Addr) (x y : Nat) (i : In) (Q : Option Addr) (q : Nat) :
    RiC (rmiW w m P C K p c k nc nm A B x y i Q q) (w.heap.size + 1) i Q q := by
  have := RiC.new (w.alloc (rmO m P C K p c k nc nm A B x y)) i Q q
  rwa [World.size_alloc] at this

theorem ints_one {w : World} {n : Nat} (hn : n = w.heap.size) {a : Int} {t : TypeId} (ha : I64 a) : IntsAt (w.alloc (.cells #[.int .i64 a] t)) (some ⟨n, 0, none⟩) [a] := by
  subst hn
  refine ⟨by unfold maxLen; simp, Or.inr ⟨_, _, rfl, fun i hi => ?_⟩⟩
  obtain rfl : i = 0 := by simpa using hi
  exact ⟨cell_of_new rfl, ha⟩
theorem ints_two {w : World} {n : Nat} (hn : n = w.heap.size) {a b : Int} {t : TypeId} (ha : I64 a) (hb : I64 b) : IntsAt (w.alloc (.cells #[.int .i64 a, .int .i64 b] t)) (some ⟨n, 0, none⟩) [a, b] := by
  subst hn
  refine ⟨by unfold maxLen; simp, Or.inr ⟨_, _, rfl, fun i hi => ?_⟩⟩
  have : i = 0 ∨ i = 1 := by simp at hi; omega
  rcases this with rfl | rfl
  · exact ⟨cell_of_new rfl, ha⟩
  · exact ⟨cell_of_new rfl, hb⟩
theorem ints_three {w : World} {n : Nat} (hn : n = w.heap.size) {a b c : Int} {t : TypeId} (ha : I64 a) (hb : I64 b) (hc : I64 c) : IntsAt (w.alloc (.cells #[.int .i64 a, .int .i64 b, .int .i64 c] t)) (some ⟨n, 0, none⟩) [a, b, c] := by
  subst hn
  refine ⟨by unfold maxLen; simp, Or.inr ⟨_, _, rfl, fun i hi => ?_⟩⟩
  have : i = 0 ∨ i = 1 ∨ i = 2 := by simp at hi; omega
  rcases this with rfl | rfl | rfl
  · exact ⟨cell_of_new rfl, ha⟩
  · exact ⟨cell_of_new rfl, hb⟩
  · exact ⟨cell_of_new rfl, hc⟩

set_option maxHeartbeats 2000000 in
theorem namesB_any (op : Int) (w : World) :
    Calls Try.prog 104 #[.int .i64 op] w fun e w' => e = .returned (.bool (nmsB op)) ∧ w' = w := by
  go_enter Try.func104, Try.ntmps104
  go_wp2
  all_goals
    go_ret
    refine ⟨ret_bool ?_, rfl⟩
    unfold nmsB
    first
      | (symm; apply decide_eq_true; simp_all; done)
      | (symm; apply decide_eq_false; simp_all; done)

set_option maxHeartbeats 2000000 in
theorem namesC_any (op : Int) (w : World) :
    Calls Try.prog 105 #[.int .i64 op] w fun e w' => e = .returned (.bool (nmsC op)) ∧ w' = w := by
  go_enter Try.func105, Try.ntmps105
  go_wp2
  all_goals
    go_ret
    refine ⟨ret_bool ?_, rfl⟩
    unfold nmsC
    first
      | (symm; apply decide_eq_true; simp_all; done)
      | (symm; apply decide_eq_false; simp_all; done)

set_option maxHeartbeats 2000000 in
theorem namesN_any (op : Int) (w : World) :
    Calls Try.prog 106 #[.int .i64 op] w fun e w' => e = .returned (.bool (nmsN op)) ∧ w' = w := by
  go_enter Try.func106, Try.ntmps106
  go_wp2
  all_goals
    go_ret
    refine ⟨ret_bool ?_, rfl⟩
    unfold nmsN
    first
      | (symm; apply decide_eq_true; simp_all; done)
      | (symm; apply decide_eq_false; simp_all; done)

set_option maxHeartbeats 4000000 in
theorem prest_any (i : In) (Q : Option Addr) (q : Nat) (w : World) (hq : i.args.length ≤ maxLen) :
    Calls Try.prog 95 #[riV i Q q] w fun e w' => e = .returned (.bool (prestB i)) ∧ Bl w w' := by
  unfold maxLen at hq
  have hfin : decide (i.op = 18 ∨ i.args.length = 0) = ((i.op == 18) || ((i.args.length : Int) == 0)) := by rw [Bool.eq_iff_iff]; simp
  have eb : decide (i.b = 0) = (i.b == 0) := by rw [Bool.eq_iff_iff]; simp
  have ec : decide (i.c = 0) = (i.c == 0) := by rw [Bool.eq_iff_iff]; simp
  have en : decide (i.n = 0) = (i.n == 0) := by rw [Bool.eq_iff_iff]; simp
  unfold prestB
  rw [hfin, eb, ec, en]
  clear hfin eb ec en
  cases hB : nmsB i.op <;> cases hC : nmsC i.op <;> cases hN : nmsN i.op
  all_goals
    go_enter Try.func95, Try.ntmps95
    go_wp2_with (first
      | (go_at_call 104; refine (namesB_any _ _).mono ?_; rintro e w0 ⟨he, hw0⟩; rw [hB] at he; subst he; rw [hw0]; clear hw0 w0)
      | (go_at_call 105; refine (namesC_any _ _).mono ?_; rintro e w0 ⟨he, hw0⟩; rw [hC] at he; subst he; rw [hw0]; clear hw0 w0)
      | (go_at_call 106; refine (namesN_any _ _).mono ?_; rintro e w0 ⟨he, hw0⟩; rw [hN] at he; subst he; rw [hw0]; clear hw0 w0))
    all_goals
      go_ret
      exact ⟨ret_bool (by simp [*]), (Bl.refl _).alloc _⟩

set_option maxHeartbeats 2000000 in
theorem kof_any (m : Me) (P C K : Option Addr) (p c k : Nat) (cs : List Cl) (nm : Nat) (A B : Option Addr) (x y : Nat) (i : In) (Q : Option Addr) (q : Nat) (w : World) (hl : ClsAt w A cs) :
    Calls Try.prog 101 #[rmV m P C K p c k cs.length nm A B x y, riV i Q q] w fun e w' => e = .returned (.int .i64 (kofI cs i.c i.n)) ∧ Bl w w' := by
  have HAL : Hid (Bl w (rmiW w m P C K p c k cs.length nm A B x y i Q q)) := ((Bl.refl _).alloc _).alloc _
  have HL : Hid (ClsAt w A cs) := hl
  have hm := hl.1
  unfold maxLen at hm
  clear hl
  by_cases h : 0 ≤ i.c ∧ i.c < cs.length
  · have hd : decide (0 ≤ i.c ∧ i.c < (cs.length : Int)) = true := decide_eq_true h
    obtain ⟨n, hn⟩ : ∃ n : Nat, i.c = n := ⟨i.c.toNat, by omega⟩
    rcases (HL.out.bl HAL.out).2 with h0 | ⟨b, off, rfl, hc⟩
    · omega
    obtain ⟨-, -, A', c', hfl, hty⟩ := hc n (by omega)
    have hfm := hty.1
    unfold maxLen at hfm
    by_cases h2 : 0 ≤ i.n ∧ i.n < (nth cl0 cs n).fields.length
    · have hd2 : decide (0 ≤ i.n ∧ i.n < ((nth cl0 cs n).fields.length : Int)) = true := decide_eq_true h2
      obtain ⟨t, ht⟩ : ∃ t : Nat, i.n = t := ⟨i.n.toNat, by omega⟩
      rcases hty.2 with h0 | ⟨b2, off2, rfl, hc2⟩
      · omega
      obtain ⟨g1, g2, -⟩ := hc2 t (by omega)
      have hb : kofI cs i.c i.n = (nth ty0 (nth cl0 cs n).fields t).kind := by
        unfold kofI; rw [if_pos (by rw [hn, Int.toNat_natCast]; omega), hn, ht, Int.toNat_natCast, Int.toNat_natCast]
      rw [hb]
      clear hb hc hty hc2 HL
      obtain ⟨op, a, b', ic, iN, args⟩ := i
      dsimp only at *
      subst hn ht
      go_enter Try.func101, Try.ntmps101
      go_wp2_with (first
        | (go_at_call 84; refine (numbers_any _ _ _).mono ?_; rintro e w1 ⟨he, hw1⟩; rw [hd] at he; subst he; rw [hw1]; clear hw1 w1)
        | (go_at_call 107; refine (numbersL_any _ _ _).mono ?_; rintro e w1 ⟨he, hw1⟩; rw [hd2] at he; subst he; rw [hw1]; clear hw1 w1))
      go_ret
      exact ⟨rfl, HAL.out⟩
    · have hd2 : decide (0 ≤ i.n ∧ i.n < ((nth cl0 cs n).fields.length : Int)) = false := decide_eq_false h2
      have hb : kofI cs i.c i.n = 0 := by
        unfold kofI; rw [if_neg (by rw [hn, Int.toNat_natCast]; omega)]
      rw [hb]
      clear hb hc hty HL
      obtain ⟨op, a, b', ic, iN, args⟩ := i
      dsimp only at *
      subst hn
      go_enter Try.func101, Try.ntmps101
      go_wp2_with (first
        | (go_at_call 84; refine (numbers_any _ _ _).mono ?_; rintro e w1 ⟨he, hw1⟩; rw [hd] at he; subst he; rw [hw1]; clear hw1 w1)
        | (go_at_call 107; refine (numbersL_any _ _ _).mono ?_; rintro e w1 ⟨he, hw1⟩; rw [hd2] at he; subst he; rw [hw1]; clear hw1 w1))
      go_ret
      exact ⟨rfl, HAL.out⟩
  · have hd : decide (0 ≤ i.c ∧ i.c < (cs.length : Int)) = false := decide_eq_false h
    have hb : kofI cs i.c i.n = 0 := by unfold kofI; rw [if_neg (by omega)]
    rw [hb]
    clear hb
    go_enter Try.func101, Try.ntmps101
    go_wp2_with (go_at_call 84; refine (numbers_any _ _ _).mono ?_; rintro e w1 ⟨he, hw1⟩; rw [hd] at he; subst he; rw [hw1]; clear hw1 w1)
    go_ret
    exact ⟨rfl, HAL.out⟩

end Go.Proofs.Ytgiiapenmjollab
namespace Go.Proofs.Ytgiiapenmjollab
open Go.RowKit
set_option linter.unusedVariables false
set_option linter.unusedSimpArgs false

set_option maxHeartbeats 4000000 in
theorem fholds_any (m : Me) (P C K : Option Addr) (p c k nc nm : Nat) (A B : Option Addr) (x y : Nat) (kind : Int) (R : Option Addr) (r : Nat) (rs : List Int) (w : World) (h1 : 1 ≤ m.regs) (h2 : m.regs ≤ 90) (hR : IntsAt w R rs) :
    Calls Try.prog 100 #[rmV m P C K p c k nc nm A B x y, .int .i64 kind, .slice R rs.length r] w fun e w' => e = .returned (.bool (phldB m.regs kind rs)) ∧ Bl w w' := by
  have HAL : Hid (Bl w (w.alloc (rmO m P C K p c k nc nm A B x y))) := (Bl.refl _).alloc _
  have H5 : Hid ((w.alloc (rmO m P C K p c k nc nm A B x y)).cell? ⟨w.heap.size, 5, none⟩ = some (.int .i64 m.regs)) := cell_of_new rfl
  obtain ⟨hm, hR⟩ := hR
  unfold maxLen at hm
  by_cases hk : 1 ≤ kind ∧ kind ≤ 3
  · have dk : decide (1 ≤ kind ∧ kind ≤ 3) = true := decide_eq_true hk
    have hw := widI_bounds kind
    obtain ⟨W, hW⟩ : ∃ W, widI kind = W := ⟨_, rfl⟩
    have hb : phldB m.regs kind rs = rs.all (fun r => decide (0 ≤ r ∧ r ≤ m.regs - W)) := by unfold phldB; rw [dk, hW]; rfl
    rw [hb]
    rw [hW] at hw
    clear hb hk
    have HG : Hid ((∀ q, q < rs.length → decide (0 ≤ nth (0 : Int) rs q ∧ nth (0 : Int) rs q ≤ m.regs - W) = true) → rs.all (fun r => decide (0 ≤ r ∧ r ≤ m.regs - W)) = true) := fun h => all_good (d := (0 : Int)) h
    have HB : Hid (∀ q, q < rs.length → decide (0 ≤ nth (0 : Int) rs q ∧ nth (0 : Int) rs q ≤ m.regs - W) = false → rs.all (fun r => decide (0 ≤ r ∧ r ≤ m.regs - W)) = false) := fun q hq hf => all_bad (d := (0 : Int)) hq hf
    obtain ⟨RR, hRR⟩ : ∃ RR, rs.all (fun r => decide (0 ≤ r ∧ r ≤ m.regs - W)) = RR := ⟨_, rfl⟩
    rw [hRR] at HG HB ⊢
    clear hRR
    go_enter Try.func100, Try.ntmps100
    go_wp2_with (go_at_call 31; refine (span_any _ _ _ _).mono ?_; rintro e w0 ⟨he, hw0⟩; rw [dk] at he; subst he; rw [hw0]; clear hw0 w0)
    go_loopw [14] (fun i wr => ∃ q : Nat, q ≤ rs.length ∧ i = .int .i64 q ∧ Hid (∀ j, j < q → decide (0 ≤ nth (0 : Int) rs j ∧ nth (0 : Int) rs j ≤ m.regs - W) = true) ∧ Hid (Bl w wr) ∧ Hid (wr.cell? ⟨w.heap.size, 5, none⟩ = some (.int .i64 m.regs))) (fun i _ => rs.length - (intOf i).toNat)
    case atStart => exact ⟨0, Nat.zero_le _, rfl, fun j hj => absurd hj (Nat.not_lt_zero _), HAL.out, H5.out⟩
    case round =>
      clear HAL H5
      obtain ⟨q, hq, rfl, hgq, hg, h5⟩ := hrel
      by_cases hql : q < rs.length
      · rcases hR with h0 | ⟨b, off, rfl, hcell⟩
        · omega
        have g0 := hg.out.cell (hcell q hql).1
        have y5 := fut_cell h5.out
        have HN : Hid (decide (0 ≤ nth (0 : Int) rs q ∧ nth (0 : Int) rs q ≤ m.regs - W) = false → RR = false) := HB.out q hql
        generalize hX : nth (0 : Int) rs q = X at *
        have HX : Hid (nth (0 : Int) rs q = X) := hX
        clear hcell HB hX
        obtain ⟨T, hT⟩ : ∃ T, decide (0 ≤ X ∧ X ≤ m.regs - W) = T := ⟨_, rfl⟩
        cases T
        · have HF := HN.out hT
          clear HN HG
          go_wp2
          refine wp_region_fut (by kernel_rfl) (by kernel_rfl) fun hne => ?_
          repeat (go_big_quiet_step (first
            | (go_at_call 87; exact Calls.fut_same_eq _ (width_any _ _) (congrArg (Value.int .i64) hW))
            | (go_at_call 31; exact Calls.fut_same_eq _ (span_any _ _ _ _) (congrArg Value.bool hT))))
          refine wpQuiet_nil ?_
          rintro _ ⟨⟨w2, hw2⟩, rfl⟩
          go_wp2
          go_ret
          exact ⟨ret_bool HF.symm, hg.out.trans hw2⟩
        · have HT1 : Hid (decide (0 ≤ X ∧ X ≤ m.regs - W) = true) := hT
          clear HN HG
          go_wp2
          refine wp_region_fut (by kernel_rfl) (by kernel_rfl) fun hne => ?_
          repeat (go_big_quiet_step (first
            | (go_at_call 87; exact Calls.fut_same_eq _ (width_any _ _) (congrArg (Value.int .i64) hW))
            | (go_at_call 31; exact Calls.fut_same_eq _ (span_any _ _ _ _) (congrArg Value.bool hT))))
          refine wpQuiet_nil ?_
          rintro _ ⟨⟨w2, hw2⟩, rfl⟩
          go_wp2
          go_roundw
          case rel => exact ⟨q + 1, by omega, by go_num, fun j hj => if h : j < q then hgq.out j h else by have : j = q := by omega
                                                                                                           subst this; rw [HX.out]; exact HT1.out, hg.out.trans hw2, hw2.cell h5.out⟩
          case measure => simp [intOf]; omega
      · have hkk : q = rs.length := by omega
        subst hkk
        have HF := HG.out hgq.out
        clear HG
        go_wp2
        go_ret
        exact ⟨ret_bool HF.symm, hg.out⟩
  · have dk : decide (1 ≤ kind ∧ kind ≤ 3) = false := decide_eq_false hk
    rw [phld_bad _ _ _ hk]
    go_enter Try.func100, Try.ntmps100
    go_wp2_with (go_at_call 31; refine (span_any _ _ _ _).mono ?_; rintro e w0 ⟨he, hw0⟩; rw [dk] at he; subst he; rw [hw0]; clear hw0 w0)
    go_ret
    exact ⟨rfl, HAL.out⟩

theorem pret_any (m : Me) (P C K : Option Addr) (p c k nc nm : Nat) (A B : Option Addr) (x y : Nat) (i : In) (Q : Option Addr) (q : Nat) (w : World) (h1 : 1 ≤ m.regs) (h2 : m.regs ≤ 90) (hi : i.ok) :
    Calls Try.prog 103 #[rmV m P C K p c k nc nm A B x y, riV i Q q] w fun e w' => e = .returned (.bool (pretB m.regs m.ret.kind i.a)) ∧ Bl w w' := by
  have HAL : Hid (Bl w (rmiW w m P C K p c k nc nm A B x y i Q q)) := ((Bl.refl _).alloc _).alloc _
  have HIA := hidp hi.2.1
  clear hi
  by_cases h : m.ret.kind = 0
  · have hb : pretB m.regs m.ret.kind i.a = (i.a == 0) := by unfold pretB; rw [if_pos h, Bool.eq_iff_iff]; simp
    rw [hb]
    clear hb
    go_enter Try.func103, Try.ntmps103
    go_wp2
    all_goals
      go_ret
      exact ⟨ret_bool (by simp [*]), ((Bl.refl _).alloc _).alloc _⟩
  · have hb : pretB m.regs m.ret.kind i.a = phldB m.regs m.ret.kind [i.a] := by unfold pretB; rw [if_neg h]
    rw [hb]
    clear hb
    obtain ⟨R, hR⟩ : ∃ R, phldB m.regs m.ret.kind [i.a] = R := ⟨_, rfl⟩
    rw [hR]
    have h0 : (m.ret.kind == 0) = false := by simpa using h
    clear h
    go_enter Try.func103, Try.ntmps103
    go_wp2_with (go_at_call 100; refine (fholds_any m _ _ _ _ _ _ _ _ _ _ _ _ _ _ _ [i.a] _ h1 h2 (ints_one (by simp [World.size_alloc]) HIA.out)).mono ?_; rintro e w1 ⟨he, g1⟩; rw [hR] at he; subst he)
    go_ret
    exact ⟨rfl, (HAL.out.alloc _).trans g1⟩

end Go.Proofs.Ytgiiapenmjollab
namespace Go.Proofs.Ytgiiapenmjollab
open Go.RowKit

theorem skipH {P : Program} {md : Region.Mode} {ops : Array Oper} {Q : Exit → Act → World → Prop} {S : World → Prop} {i : Nat} {oi : Oper} {d : Option Tmp} {fuel : Nat} {listed : Array Bool} {a : Act} {w : World} (hi : ops[i]? = some oi) (hd : oi.dst = d)
    (hs : Region.noSelect ops = true) (hf : Region.free md ops listed i = true) (hr : (Region.ready md ops listed).contains i = true)
    (hQ : ∀ c a w, Q (.panic c) (a.put oi.dst undef) w → Q (.panic c) a w) (hw : Region.wanted oi (yielded ops a.tmps) = false) (hS : S w)
    (h : wpAnyH P md ops Q S fuel (listed.setIfInBounds i true) (a.put d undef) w) : wpAnyH P md ops Q S (fuel + 1) listed a w :=
  wpAnyH_take hi hs hf hr hQ (Or.inr ⟨hw, rfl⟩) hS (hd ▸ h)

end Go.Proofs.Ytgiiapenmjollab
