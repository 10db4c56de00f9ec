/-
  What the document says of a method's head, of either form.
-/
import Derived.Test.YtgiiapenmjollabMLRefThree
import Derived.Test.YtgiiapenmjollabMLWireGood
namespace Go.Proofs.Ytgiiapenmjollab
open Go.RowKit

/-- A method's cells in a box. -/
def MeBox (w : World) (b off : Nat) (m : Me) (P C K : Option Addr) (p c k : Nat) : Prop :=
  w.cell? ⟨b, off, none⟩ = some (.slice P m.params.length p) ∧ w.cell? ⟨b, off + 1, none⟩ = some (.int .i64 m.ret.kind) ∧ w.cell? ⟨b, off + 2, none⟩ = some (.int .i64 m.ret.cls)
    ∧ w.cell? ⟨b, off + 3, none⟩ = some (.int .i64 m.stack) ∧ w.cell? ⟨b, off + 4, none⟩ = some (.int .i64 m.locs) ∧ w.cell? ⟨b, off + 5, none⟩ = some (.int .i64 m.regs)
    ∧ w.cell? ⟨b, off + 6, none⟩ = some (.slice C m.code.length c) ∧ w.cell? ⟨b, off + 7, none⟩ = some (.slice K m.hands.length k)
theorem MeBox.bl {w w' : World} (h : Bl w w') {b off : Nat} {m : Me} {P C K : Option Addr} {p c k : Nat} (hb : MeBox w b off m P C K p c k) : MeBox w' b off m P C K p c k :=
  ⟨h.cell hb.1, h.cell hb.2.1, h.cell hb.2.2.1, h.cell hb.2.2.2.1, h.cell hb.2.2.2.2.1, h.cell hb.2.2.2.2.2.1, h.cell hb.2.2.2.2.2.2.1, h.cell hb.2.2.2.2.2.2.2⟩

/-- A method as a value. -/
abbrev meV (m : Me) (P C K : Option Addr) (p c k : Nat) : Value :=
  .agg #[.slice P m.params.length p, .int .i64 m.ret.kind, .int .i64 m.ret.cls, .int .i64 m.stack, .int .i64 m.locs, .int .i64 m.regs, .slice C m.code.length c, .slice K m.hands.length k]
abbrev fiV (nc nm : Nat) (A B : Option Addr) (a b : Nat) : Value := .agg #[.slice A nc a, .slice B nm b]

/-- A file's cells in a box. -/
def FiBox (w : World) (b off : Nat) (nc nm : Nat) (A B : Option Addr) (x y : Nat) : Prop :=
  w.cell? ⟨b, off, none⟩ = some (.slice A nc x) ∧ w.cell? ⟨b, off + 1, none⟩ = some (.slice B nm y)
theorem FiBox.bl {w w' : World} (h : Bl w w') {b off nc nm : Nat} {A B : Option Addr} {x y : Nat} (hb : FiBox w b off nc nm A B x y) : FiBox w' b off nc nm A B x y := ⟨h.cell hb.1, h.cell hb.2⟩

theorem boxes_new (w : World) (nc nm : Nat) (A B : Option Addr) (x y : Nat) (m : Me) (P C K : Option Addr) (p c k : Nat) (t t' : TypeId) :
    FiBox ((w.alloc (.cells #[.slice A nc x, .slice B nm y] t)).alloc (.cells #[.slice P m.params.length p, .int .i64 m.ret.kind, .int .i64 m.ret.cls, .int .i64 m.stack, .int .i64 m.locs, .int .i64 m.regs, .slice C m.code.length c, .slice K m.hands.length k] t')) w.heap.size 0 nc nm A B x y
    ∧ MeBox ((w.alloc (.cells #[.slice A nc x, .slice B nm y] t)).alloc (.cells #[.slice P m.params.length p, .int .i64 m.ret.kind, .int .i64 m.ret.cls, .int .i64 m.stack, .int .i64 m.locs, .int .i64 m.regs, .slice C m.code.length c, .slice K m.hands.length k] t')) (w.heap.size + 1) 0 m P C K p c k := by
  refine ⟨⟨?_, ?_⟩, ⟨?_, ?_, ?_, ?_, ?_, ?_, ?_, ?_⟩⟩ <;> simp

theorem head_few {nc : Nat} {m : Me} {most : Int} (h : ¬ (m.params.length ≤ 4 ∧ m.hands.length ≤ 8 ∧ 1 ≤ m.code.length ∧ (m.code.length : Int) ≤ most)) : headB nc m most = false := by
  unfold headB; rw [decide_eq_false h]; rfl
theorem head_par {nc : Nat} {m : Me} {most : Int} {q : Nat} (hq : q < m.params.length) (h : tyB nc (nth ty0 m.params q) = false) : headB nc m most = false := by
  unfold headB; rw [all_bad hq h]; simp
theorem head_hand {nc : Nat} {m : Me} {most : Int} {q : Nat} (hq : q < m.hands.length) (h : hdB nc m.code.length (nth hd0 m.hands q) = false) : headB nc m most = false := by
  unfold headB; rw [all_bad hq h]; simp
theorem head_good {nc : Nat} {m : Me} {most : Int} (h : m.params.length ≤ 4 ∧ m.hands.length ≤ 8 ∧ 1 ≤ m.code.length ∧ (m.code.length : Int) ≤ most)
    (hp : ∀ q, q < m.params.length → tyB nc (nth ty0 m.params q) = true) (hh : ∀ q, q < m.hands.length → hdB nc m.code.length (nth hd0 m.hands q) = true) : headB nc m most = retB nc m.ret := by
  unfold headB; rw [decide_eq_true h, all_good hp, all_good hh]; simp

set_option maxHeartbeats 8000000 in
theorem rhead_any (nc nm : Nat) (A B : Option Addr) (a b : Nat) (m : Me) (P C K : Option Addr) (p c k : Nat) (most : Int) (w : World) (hP : TysAt w P m.params) (hK : HdsAt w K m.hands) (hnc : nc ≤ 12) (hcode : m.code.length ≤ maxLen) :
    Calls Try.prog 42 #[fiV nc nm A B a b, meV m P C K p c k, .int .i64 most] w fun e w' => e = .returned (.bool (headB nc m most)) ∧ Bl w w' := by
  have HP : Hid (TysAt w P m.params) := hP
  have HK : Hid (HdsAt w K m.hands) := hK
  have hpm := hP.1
  have hkm := hK.1
  unfold maxLen at hcode hpm hkm
  clear hP hK
  by_cases h1 : 4 < m.params.length
  · have hb := head_few (nc := nc) (m := m) (most := most) (by omega)
    rw [hb]
    go_enter Try.func42, Try.ntmps42
    go_wp2
    go_ret
    exact ⟨rfl, ((Bl.refl _).alloc _).alloc _⟩
  by_cases h2 : 8 < m.hands.length
  · have hb := head_few (nc := nc) (m := m) (most := most) (by omega)
    rw [hb]
    go_enter Try.func42, Try.ntmps42
    go_wp2
    go_ret
    exact ⟨rfl, ((Bl.refl _).alloc _).alloc _⟩
  by_cases h3 : 1 ≤ (m.code.length : Int) ∧ (m.code.length : Int) ≤ most
  · have HG : Hid ((∀ q, q < m.params.length → tyB nc (nth ty0 m.params q) = true) → (∀ q, q < m.hands.length → hdB nc m.code.length (nth hd0 m.hands q) = true) → headB nc m most = retB nc m.ret) := head_good (by omega)
    have hd3 : decide (1 ≤ (m.code.length : Int) ∧ (m.code.length : Int) ≤ most) = true := decide_eq_true h3
    obtain ⟨f0, m0⟩ := boxes_new w nc nm A B a b m P C K p c k 25 50
    have HF : Hid (FiBox _ w.heap.size 0 nc nm A B a b) := f0
    have HM : Hid (MeBox _ (w.heap.size + 1) 0 m P C K p c k) := m0
    clear f0 m0
    go_enter Try.func42, Try.ntmps42
    go_wp2_with (go_at_call 41; refine (within_any _ _ _ _).mono ?_; rintro e w' ⟨he, rfl⟩; rw [hd3] at he; subst he)
    go_loopw [7] (fun i wr => ∃ q : Nat, q ≤ m.params.length ∧ i = .int .i64 q ∧ Hid (∀ j, j < q → tyB nc (nth ty0 m.params j) = true) ∧ Hid (Bl w wr) ∧ Hid (FiBox wr w.heap.size 0 nc nm A B a b) ∧ Hid (MeBox wr (w.heap.size + 1) 0 m P C K p c k)) (fun i _ => m.params.length - (intOf i).toNat)
    case atStart => exact ⟨0, Nat.zero_le _, rfl, fun j hj => absurd hj (Nat.not_lt_zero _), ((Bl.refl _).alloc _).alloc _, HF, HM⟩
    case round =>
      clear HF HM
      obtain ⟨q, hq, rfl, hgq, hg, HF, HM⟩ := hrel
      have hf0 := HF.out.1
      have hm0 := HM.out.1
      have hm7 := HM.out.2.2.2.2.2.2.2
      simp only [Nat.zero_add] at hm7
      by_cases hql : q < m.params.length
      · have hty := HP.out.bl hg.out
        rcases hty.2 with h0 | ⟨b', off', rfl, hcell⟩
        · omega
        obtain ⟨ht1, ht2, -, -⟩ := hcell q hql
        clear hty hcell
        have gf := fut_cell hf0
        have gm := fut_cell hm0
        have g1 := fut_cell ht1
        have g2 := fut_cell ht2
        clear hm7
        cases hT : tyB nc (nth ty0 m.params q)
        · have hT' : tyB nc ⟨(nth ty0 m.params q).kind, (nth ty0 m.params q).cls⟩ = false := hT
          have HB := head_par (most := most) hql hT
          clear hT HG
          go_wp2
          refine wp_region_fut (by kernel_rfl) (by kernel_rfl) fun hne => ?_
          repeat (go_big_quiet_step ((go_at_call 71; exact Calls.fut_eq _ (rtype_any _ _ _ _ _ _) (congrArg Value.bool hT'))))
          refine wpQuiet_nil ?_
          rintro _ ⟨⟨w2, hw2⟩, rfl⟩
          go_wp2
          go_ret
          exact ⟨ret_bool HB.symm, hg.out.trans hw2⟩
        · have hT' : tyB nc ⟨(nth ty0 m.params q).kind, (nth ty0 m.params q).cls⟩ = true := hT
          have HT : Hid (tyB nc (nth ty0 m.params q) = true) := hT
          clear hT HG
          go_wp2
          refine wp_region_fut (by kernel_rfl) (by kernel_rfl) fun hne => ?_
          repeat (go_big_quiet_step ((go_at_call 71; exact Calls.fut_eq _ (rtype_any _ _ _ _ _ _) (congrArg Value.bool hT'))))
          refine wpQuiet_nil ?_
          rintro _ ⟨⟨w2, hw2⟩, rfl⟩
          go_wp2
          go_roundw
          case rel => exact ⟨q + 1, by omega, by go_num, fun j hj => if h : j < q then hgq.out j h else by have : j = q := by omega
                                                                                                           subst this; exact HT.out, hg.out.trans hw2, HF.out.bl hw2, HM.out.bl hw2⟩
          case measure => simp [intOf]; omega
      · obtain rfl : q = m.params.length := by omega
        have HG2 : Hid ((∀ q, q < m.hands.length → hdB nc m.code.length (nth hd0 m.hands q) = true) → headB nc m most = retB nc m.ret) := HG.out hgq.out
        clear HG hgq hql hq
        go_wp2
        clear hf0 hm0 hm7
        go_loopw [8] (fun i wr => ∃ q : Nat, q ≤ m.hands.length ∧ i = .int .i64 q ∧ Hid (∀ j, j < q → hdB nc m.code.length (nth hd0 m.hands j) = true) ∧ Hid (Bl w wr) ∧ Hid (FiBox wr w.heap.size 0 nc nm A B a b) ∧ Hid (MeBox wr (w.heap.size + 1) 0 m P C K p c k)) (fun i _ => m.hands.length - (intOf i).toNat)
        case atStart => exact ⟨0, Nat.zero_le _, rfl, fun j hj => absurd hj (Nat.not_lt_zero _), hg, HF, HM⟩
        case round =>
          clear HF HM hg
          obtain ⟨q, hq, rfl, hgq, hg, HF, HM⟩ := hrel
          have hf0 := HF.out.1
          have hm1 := HM.out.2.1
          have hm2 := HM.out.2.2.1
          have hm6 := HM.out.2.2.2.2.2.2.1
          have hm7 := HM.out.2.2.2.2.2.2.2
          simp only [Nat.zero_add] at hm1 hm2 hm6 hm7
          by_cases hql : q < m.hands.length
          · have hty := HK.out.bl hg.out
            rcases hty.2 with h0 | ⟨b', off', rfl, hcell⟩
            · omega
            obtain ⟨g0, g1, g2, g3, -⟩ := hcell q hql
            clear hty hcell hm1 hm2
            have HB : Hid (hdB nc m.code.length (nth hd0 m.hands q) = false → headB nc m most = false) := head_hand hql
            have HD : Hid (hdB nc m.code.length (nth hd0 m.hands q) = decide (0 ≤ (nth hd0 m.hands q).fr ∧ (nth hd0 m.hands q).fr < (nth hd0 m.hands q).til ∧ (nth hd0 m.hands q).til ≤ m.code.length ∧ 0 ≤ (nth hd0 m.hands q).pc ∧ (nth hd0 m.hands q).pc < m.code.length ∧ 0 ≤ (nth hd0 m.hands q).cls ∧ (nth hd0 m.hands q).cls < nc)) := rfl
            generalize hX : nth hd0 m.hands q = X at *
            have qf0 : ∀ o, (wr.alloc o).cell? ⟨w.heap.size, 0, none⟩ = some (.slice A nc a) := fun o => ((Bl.refl wr).alloc o).cell hf0
            have qm6 : ∀ o, (wr.alloc o).cell? ⟨w.heap.size + 1, 6, none⟩ = some (.slice C m.code.length c) := fun o => ((Bl.refl wr).alloc o).cell hm6
            by_cases t1 : X.fr < 0
            · have HF' : Hid (headB nc m most = false) := HB.out (HD.out.trans (decide_eq_false (by omega)))
              go_wp2
              go_ret
              exact ⟨ret_bool HF'.out.symm, hg.out.alloc _⟩
            by_cases t2 : X.til ≤ X.fr
            · have HF' : Hid (headB nc m most = false) := HB.out (HD.out.trans (decide_eq_false (by omega)))
              go_wp2
              go_ret
              exact ⟨ret_bool HF'.out.symm, hg.out.alloc _⟩
            by_cases t3 : (m.code.length : Int) < X.til
            · have HF' : Hid (headB nc m most = false) := HB.out (HD.out.trans (decide_eq_false (by omega)))
              go_wp2
              go_ret
              exact ⟨ret_bool HF'.out.symm, hg.out.alloc _⟩
            by_cases t4 : 0 ≤ X.pc ∧ X.pc ≤ (m.code.length : Int) - 1
            · have d4 : decide (0 ≤ X.pc ∧ X.pc ≤ (m.code.length : Int) - 1) = true := decide_eq_true t4
              by_cases t5 : 0 ≤ X.cls ∧ X.cls ≤ (nc : Int) - 1
              · have d5 : decide (0 ≤ X.cls ∧ X.cls ≤ (nc : Int) - 1) = true := decide_eq_true t5
                have HT : Hid (hdB nc m.code.length X = true) := HD.out.trans (decide_eq_true (by omega))
                go_wp2_with (go_at_call 41; refine (within_any _ _ _ _).mono ?_; rintro e w' ⟨he, rfl⟩; (first | rw [d4] at he | rw [d5] at he); subst he)
                go_roundw
                case rel => exact ⟨q + 1, by omega, by go_num, fun j hj => if h : j < q then hgq.out j h else by have : j = q := by omega
                                                                                                                 subst this; rw [hX]; exact HT.out, hg.out.alloc _, HF.out.bl ((Bl.refl _).alloc _), HM.out.bl ((Bl.refl _).alloc _)⟩
                case measure => simp [intOf]; omega
              · have d5 : decide (0 ≤ X.cls ∧ X.cls ≤ (nc : Int) - 1) = false := decide_eq_false t5
                have HF' : Hid (headB nc m most = false) := HB.out (HD.out.trans (decide_eq_false (by omega)))
                go_wp2_with (go_at_call 41; refine (within_any _ _ _ _).mono ?_; rintro e w' ⟨he, rfl⟩; (first | rw [d4] at he | rw [d5] at he); subst he)
                go_ret
                exact ⟨ret_bool HF'.out.symm, hg.out.alloc _⟩
            · have d4 : decide (0 ≤ X.pc ∧ X.pc ≤ (m.code.length : Int) - 1) = false := decide_eq_false t4
              have HF' : Hid (headB nc m most = false) := HB.out (HD.out.trans (decide_eq_false (by omega)))
              go_wp2_with (go_at_call 41; refine (within_any _ _ _ _).mono ?_; rintro e w' ⟨he, rfl⟩; rw [d4] at he; subst he)
              go_ret
              exact ⟨ret_bool HF'.out.symm, hg.out.alloc _⟩
          · obtain rfl : q = m.hands.length := by omega
            have HG3 : Hid (headB nc m most = (decide (m.ret.kind = 0 ∧ m.ret.cls = 0) || tyB nc ⟨m.ret.kind, m.ret.cls⟩)) := HG2.out hgq.out
            clear HG2 hgq hql hq
            by_cases t1 : m.ret.kind = 0
            · by_cases t2 : m.ret.cls = 0
              · have HF' : headB nc m most = true := HG3.out.trans (by rw [decide_eq_true ⟨t1, t2⟩]; rfl)
                rw [t1] at hm1
                rw [t2] at hm2
                clear t1 t2
                go_wp2
                go_ret
                exact ⟨ret_bool HF'.symm, hg.out⟩
              · have HF' : Hid (headB nc m most = tyB nc ⟨m.ret.kind, m.ret.cls⟩) := HG3.out.trans (by rw [decide_eq_false (by omega)]; rfl)
                have t2' : (m.ret.cls == 0) = false := by simpa using t2
                have HT1 : Hid (m.ret.kind = 0) := t1
                rw [t1] at hm1
                clear t1 t2
                go_wp2_with (go_at_call 71; refine (rtype_any _ _ _ _ _ _).mono ?_; rintro e w' ⟨rfl, hg2⟩)
                go_ret
                exact ⟨ret_bool (by rw [HF'.out, HT1.out]), hg.out.trans hg2⟩
            · have HF' : Hid (headB nc m most = tyB nc ⟨m.ret.kind, m.ret.cls⟩) := HG3.out.trans (by rw [decide_eq_false (by omega)]; rfl)
              have t1' : (m.ret.kind == 0) = false := by simpa using t1
              clear t1
              go_wp2_with (go_at_call 71; refine (rtype_any _ _ _ _ _ _).mono ?_; rintro e w' ⟨rfl, hg2⟩)
              go_ret
              exact ⟨ret_bool HF'.out.symm, hg.out.trans hg2⟩
  · have hb := head_few (nc := nc) (m := m) (most := most) (by omega)
    rw [hb]
    have hd3 : decide (1 ≤ (m.code.length : Int) ∧ (m.code.length : Int) ≤ most) = false := decide_eq_false h3
    go_enter Try.func42, Try.ntmps42
    go_wp2_with (go_at_call 41; refine (within_any _ _ _ _).mono ?_; rintro e w' ⟨he, rfl⟩; rw [hd3] at he; subst he)
    go_ret
    exact ⟨rfl, ((Bl.refl _).alloc _).alloc _⟩

end Go.Proofs.Ytgiiapenmjollab
namespace Go.Proofs.Ytgiiapenmjollab
open Go.RowKit
set_option linter.unusedVariables false
set_option linter.unusedSimpArgs false

/-- An instruction's cells in a box. -/
def InBox (w : World) (b off : Nat) (i : In) (Q : Option Addr) (q : Nat) : Prop :=
  w.cell? ⟨b, off, none⟩ = some (.int .i64 i.op) ∧ w.cell? ⟨b, off + 1, none⟩ = some (.int .i64 i.a) ∧ w.cell? ⟨b, off + 2, none⟩ = some (.int .i64 i.b)
    ∧ w.cell? ⟨b, off + 3, none⟩ = some (.int .i64 i.c) ∧ w.cell? ⟨b, off + 4, none⟩ = some (.int .i64 i.n) ∧ w.cell? ⟨b, off + 5, none⟩ = some (.slice Q i.args.length q)
/-- An instruction as a value. -/
abbrev inV (i : In) (Q : Option Addr) (q : Nat) : Value := .agg #[.int .i64 i.op, .int .i64 i.a, .int .i64 i.b, .int .i64 i.c, .int .i64 i.n, .slice Q i.args.length q]

/-- Three boxes. -/
abbrev boxed3 (w : World) (nc nm : Nat) (A B : Option Addr) (x y : Nat) (m : Me) (P C K : Option Addr) (p c k : Nat) (i : In) (Q : Option Addr) (q : Nat) : World :=
  ((w.alloc (.cells #[.slice A nc x, .slice B nm y] 25)).alloc (.cells #[.slice P m.params.length p, .int .i64 m.ret.kind, .int .i64 m.ret.cls, .int .i64 m.stack, .int .i64 m.locs, .int .i64 m.regs, .slice C m.code.length c, .slice K m.hands.length k] 50)).alloc
    (.cells #[.int .i64 i.op, .int .i64 i.a, .int .i64 i.b, .int .i64 i.c, .int .i64 i.n, .slice Q i.args.length q] 53)

set_option maxRecDepth 100000 in
set_option maxHeartbeats 4000000 in
theorem rins_bad (i : In) (cs : List Cl) (nm : Nat) (A B : Option Addr) (x y : Nat) (m : Me) (P C K : Option Addr) (p c k : Nat) (Q : Option Addr) (q : Nat) (w : World) (hnc : cs.length ≤ 12) (hnm : nm ≤ 8) (hcode : m.code.length ≤ maxLen) (hlo : 0 ≤ m.locs) (hhi : m.locs ≤ 60) (h : ¬ (i.c = 0 ∧ i.args.length = 0)) :
    Calls Try.prog 44 #[fiV cs.length nm A B x y, meV m P C K p c k, inV i Q q] w fun e w' => e = .returned (.bool (sinB cs nm m.code.length m.locs i)) ∧ Bl w w' := by
  have hb : sinB cs nm m.code.length m.locs i = false := by unfold sinB; rw [decide_eq_false h]; rfl
  rw [hb]
  clear hb
  unfold maxLen at hcode
  by_cases h1 : i.c = 0
  · have h2 : 0 < i.args.length := by omega
    go_enter Try.func44, Try.ntmps44
    go_wp2
    go_ret
    exact ⟨rfl, (((Bl.refl _).alloc _).alloc _).alloc _⟩
  · have h1' : (i.c != 0) = true := by simpa using h1
    go_enter Try.func44, Try.ntmps44
    go_wp2
    go_ret
    exact ⟨rfl, (((Bl.refl _).alloc _).alloc _).alloc _⟩

set_option maxRecDepth 100000 in
set_option maxHeartbeats 8000000 in
theorem rins_1 (a b n : Int) (cs : List Cl) (nm : Nat) (A B : Option Addr) (x y : Nat) (m : Me) (P C K : Option Addr) (p c k : Nat) (Q : Option Addr) (q : Nat) (w : World) (hnc : cs.length ≤ 12) (hnm : nm ≤ 8) (hcode : m.code.length ≤ maxLen) (hlo : 0 ≤ m.locs) (hhi : m.locs ≤ 60) :
    Calls Try.prog 44 #[fiV cs.length nm A B x y, meV m P C K p c k, inV ⟨1, a, b, 0, n, []⟩ Q q] w fun e w' => e = .returned (.bool (sinB cs nm m.code.length m.locs ⟨1, a, b, 0, n, []⟩)) ∧ Bl w w' := by
  unfold maxLen at hcode
  by_cases ha : a = 0
  · subst ha
    by_cases hb : b = 0
    · subst hb
      go_enter Try.func44, Try.ntmps44
      go_wp2_with (go_at_call 41; refine (within_any _ _ _ _).mono ?_; rintro e w' ⟨rfl, rfl⟩)
      all_goals
        go_ret
        refine ⟨ret_bool ?_, (((Bl.refl _).alloc _).alloc _).alloc _⟩
        rw [Bool.eq_iff_iff]; simp [sinB]; try omega
    · have hb' : (b == 0) = false := by simpa using hb
      go_enter Try.func44, Try.ntmps44
      go_wp2_with (go_at_call 41; refine (within_any _ _ _ _).mono ?_; rintro e w' ⟨rfl, rfl⟩)
      all_goals
        go_ret
        refine ⟨ret_bool ?_, (((Bl.refl _).alloc _).alloc _).alloc _⟩
        rw [Bool.eq_iff_iff]; simp [sinB, hb]; try omega
  · have ha' : (a == 0) = false := by simpa using ha
    go_enter Try.func44, Try.ntmps44
    go_wp2_with (go_at_call 41; refine (within_any _ _ _ _).mono ?_; rintro e w' ⟨rfl, rfl⟩)
    all_goals
      go_ret
      refine ⟨ret_bool ?_, (((Bl.refl _).alloc _).alloc _).alloc _⟩
      rw [Bool.eq_iff_iff]; simp [sinB, ha]; try omega

set_option maxRecDepth 100000 in
set_option maxHeartbeats 8000000 in
theorem rins_2 (a b n : Int) (cs : List Cl) (nm : Nat) (A B : Option Addr) (x y : Nat) (m : Me) (P C K : Option Addr) (p c k : Nat) (Q : Option Addr) (q : Nat) (w : World) (hnc : cs.length ≤ 12) (hnm : nm ≤ 8) (hcode : m.code.length ≤ maxLen) (hlo : 0 ≤ m.locs) (hhi : m.locs ≤ 60) :
    Calls Try.prog 44 #[fiV cs.length nm A B x y, meV m P C K p c k, inV ⟨2, a, b, 0, n, []⟩ Q q] w fun e w' => e = .returned (.bool (sinB cs nm m.code.length m.locs ⟨2, a, b, 0, n, []⟩)) ∧ Bl w w' := by
  unfold maxLen at hcode
  by_cases ha : a = 0
  · subst ha
    by_cases hb : b = 0
    · subst hb
      go_enter Try.func44, Try.ntmps44
      go_wp2_with (go_at_call 41; refine (within_any _ _ _ _).mono ?_; rintro e w' ⟨rfl, rfl⟩)
      all_goals
        go_ret
        refine ⟨ret_bool ?_, (((Bl.refl _).alloc _).alloc _).alloc _⟩
        rw [Bool.eq_iff_iff]; simp [sinB]; try omega
    · have hb' : (b == 0) = false := by simpa using hb
      go_enter Try.func44, Try.ntmps44
      go_wp2_with (go_at_call 41; refine (within_any _ _ _ _).mono ?_; rintro e w' ⟨rfl, rfl⟩)
      all_goals
        go_ret
        refine ⟨ret_bool ?_, (((Bl.refl _).alloc _).alloc _).alloc _⟩
        rw [Bool.eq_iff_iff]; simp [sinB, hb]; try omega
  · have ha' : (a == 0) = false := by simpa using ha
    go_enter Try.func44, Try.ntmps44
    go_wp2_with (go_at_call 41; refine (within_any _ _ _ _).mono ?_; rintro e w' ⟨rfl, rfl⟩)
    all_goals
      go_ret
      refine ⟨ret_bool ?_, (((Bl.refl _).alloc _).alloc _).alloc _⟩
      rw [Bool.eq_iff_iff]; simp [sinB, ha]; try omega

set_option maxRecDepth 100000 in
set_option maxHeartbeats 8000000 in
theorem rins_n (op a b n : Int) (h1 : op ≠ 1) (h2 : op ≠ 2) (hn : n ≠ 0) (cs : List Cl) (nm : Nat) (A B : Option Addr) (x y : Nat) (m : Me) (P C K : Option Addr) (p c k : Nat) (Q : Option Addr) (q : Nat) (w : World) (hnc : cs.length ≤ 12) (hnm : nm ≤ 8) (hcode : m.code.length ≤ maxLen) (hlo : 0 ≤ m.locs) (hhi : m.locs ≤ 60) :
    Calls Try.prog 44 #[fiV cs.length nm A B x y, meV m P C K p c k, inV ⟨op, a, b, 0, n, []⟩ Q q] w fun e w' => e = .returned (.bool (sinB cs nm m.code.length m.locs ⟨op, a, b, 0, n, []⟩)) ∧ Bl w w' := by
  unfold maxLen at hcode
  have hn' : (n != 0) = true := by simpa using hn
  have z1 : (op == 1) = false := by simp; omega
  have z2 : (op == 2) = false := by simp; omega
  go_enter Try.func44, Try.ntmps44
  go_wp2_with (go_at_call 41; refine (within_any _ _ _ _).mono ?_; rintro e w' ⟨rfl, rfl⟩)
  all_goals
    go_ret
    refine ⟨ret_bool ?_, (((Bl.refl _).alloc _).alloc _).alloc _⟩
    rw [Bool.eq_iff_iff]; simp [sinB, h1, h2, hn]; try omega

set_option maxRecDepth 100000 in
set_option maxHeartbeats 8000000 in
theorem rins_4 (a b : Int) (cs : List Cl) (nm : Nat) (A B : Option Addr) (x y : Nat) (m : Me) (P C K : Option Addr) (p c k : Nat) (Q : Option Addr) (q : Nat) (w : World) (hnc : cs.length ≤ 12) (hnm : nm ≤ 8) (hcode : m.code.length ≤ maxLen) (hlo : 0 ≤ m.locs) (hhi : m.locs ≤ 60) :
    Calls Try.prog 44 #[fiV cs.length nm A B x y, meV m P C K p c k, inV ⟨4, a, b, 0, 0, []⟩ Q q] w fun e w' => e = .returned (.bool (sinB cs nm m.code.length m.locs ⟨4, a, b, 0, 0, []⟩)) ∧ Bl w w' := by
  unfold maxLen at hcode
  by_cases hb : b = 2
  · subst hb
    go_enter Try.func44, Try.ntmps44
    go_wp2_with (go_at_call 41; refine (within_any _ _ _ _).mono ?_; rintro e w' ⟨rfl, rfl⟩)
    all_goals
      go_ret
      refine ⟨ret_bool ?_, (((Bl.refl _).alloc _).alloc _).alloc _⟩
      rw [Bool.eq_iff_iff]; simp [sinB]; try omega
  · have hb' : (b == 2) = false := by simpa using hb
    go_enter Try.func44, Try.ntmps44
    go_wp2_with (go_at_call 41; refine (within_any _ _ _ _).mono ?_; rintro e w' ⟨rfl, rfl⟩)
    all_goals
      go_ret
      refine ⟨ret_bool ?_, (((Bl.refl _).alloc _).alloc _).alloc _⟩
      rw [Bool.eq_iff_iff]; simp [sinB, hb]; try omega

set_option maxRecDepth 100000 in
set_option maxHeartbeats 8000000 in
theorem rins_5 (a b : Int) (cs : List Cl) (nm : Nat) (A B : Option Addr) (x y : Nat) (m : Me) (P C K : Option Addr) (p c k : Nat) (Q : Option Addr) (q : Nat) (w : World) (hnc : cs.length ≤ 12) (hnm : nm ≤ 8) (hcode : m.code.length ≤ maxLen) (hlo : 0 ≤ m.locs) (hhi : m.locs ≤ 60) :
    Calls Try.prog 44 #[fiV cs.length nm A B x y, meV m P C K p c k, inV ⟨5, a, b, 0, 0, []⟩ Q q] w fun e w' => e = .returned (.bool (sinB cs nm m.code.length m.locs ⟨5, a, b, 0, 0, []⟩)) ∧ Bl w w' := by
  unfold maxLen at hcode
  by_cases hb : b = 2
  · subst hb
    go_enter Try.func44, Try.ntmps44
    go_wp2_with (go_at_call 41; refine (within_any _ _ _ _).mono ?_; rintro e w' ⟨rfl, rfl⟩)
    all_goals
      go_ret
      refine ⟨ret_bool ?_, (((Bl.refl _).alloc _).alloc _).alloc _⟩
      rw [Bool.eq_iff_iff]; simp [sinB]; try omega
  · have hb' : (b == 2) = false := by simpa using hb
    go_enter Try.func44, Try.ntmps44
    go_wp2_with (go_at_call 41; refine (within_any _ _ _ _).mono ?_; rintro e w' ⟨rfl, rfl⟩)
    all_goals
      go_ret
      refine ⟨ret_bool ?_, (((Bl.refl _).alloc _).alloc _).alloc _⟩
      rw [Bool.eq_iff_iff]; simp [sinB, hb]; try omega

set_option maxRecDepth 100000 in
set_option maxHeartbeats 8000000 in
theorem rins_12 (a b : Int) (cs : List Cl) (nm : Nat) (A B : Option Addr) (x y : Nat) (m : Me) (P C K : Option Addr) (p c k : Nat) (Q : Option Addr) (q : Nat) (w : World) (hnc : cs.length ≤ 12) (hnm : nm ≤ 8) (hcode : m.code.length ≤ maxLen) (hlo : 0 ≤ m.locs) (hhi : m.locs ≤ 60) :
    Calls Try.prog 44 #[fiV cs.length nm A B x y, meV m P C K p c k, inV ⟨12, a, b, 0, 0, []⟩ Q q] w fun e w' => e = .returned (.bool (sinB cs nm m.code.length m.locs ⟨12, a, b, 0, 0, []⟩)) ∧ Bl w w' := by
  unfold maxLen at hcode
  go_enter Try.func44, Try.ntmps44
  go_wp2_with (go_at_call 41; refine (within_any _ _ _ _).mono ?_; rintro e w' ⟨rfl, rfl⟩)
  all_goals
    go_ret
    refine ⟨ret_bool ?_, (((Bl.refl _).alloc _).alloc _).alloc _⟩
    rw [Bool.eq_iff_iff]; simp [sinB]; try omega

set_option maxRecDepth 100000 in
set_option maxHeartbeats 8000000 in
theorem rins_b (op a b : Int) (h : op ≠ 1 ∧ op ≠ 2 ∧ op ≠ 4 ∧ op ≠ 5 ∧ op ≠ 12 ∧ op ≠ 15 ∧ op ≠ 16) (hb : b ≠ 0) (cs : List Cl) (nm : Nat) (A B : Option Addr) (x y : Nat) (m : Me) (P C K : Option Addr) (p c k : Nat) (Q : Option Addr) (q : Nat) (w : World) (hnc : cs.length ≤ 12) (hnm : nm ≤ 8) (hcode : m.code.length ≤ maxLen) (hlo : 0 ≤ m.locs) (hhi : m.locs ≤ 60) :
    Calls Try.prog 44 #[fiV cs.length nm A B x y, meV m P C K p c k, inV ⟨op, a, b, 0, 0, []⟩ Q q] w fun e w' => e = .returned (.bool (sinB cs nm m.code.length m.locs ⟨op, a, b, 0, 0, []⟩)) ∧ Bl w w' := by
  unfold maxLen at hcode
  have hb' : (b != 0) = true := by simpa using hb
  have z1 : (op == 1) = false := by simp; omega
  have z2 : (op == 2) = false := by simp; omega
  have z4 : (op == 4) = false := by simp; omega
  have z5 : (op == 5) = false := by simp; omega
  have z12 : (op == 12) = false := by simp; omega
  have z15 : (op == 15) = false := by simp; omega
  have z16 : (op == 16) = false := by simp; omega
  obtain ⟨h1, h2, h4, h5, h12, h15, h16⟩ := h
  go_enter Try.func44, Try.ntmps44
  go_wp2_with (go_at_call 41; refine (within_any _ _ _ _).mono ?_; rintro e w' ⟨rfl, rfl⟩)
  all_goals
    go_ret
    refine ⟨ret_bool ?_, (((Bl.refl _).alloc _).alloc _).alloc _⟩
    rw [Bool.eq_iff_iff]; simp [sinB, h1, h2, h4, h5, h12, h15, h16, hb]; try omega

set_option maxRecDepth 100000 in
set_option maxHeartbeats 8000000 in
theorem rins_3 (a : Int) (cs : List Cl) (nm : Nat) (A B : Option Addr) (x y : Nat) (m : Me) (P C K : Option Addr) (p c k : Nat) (Q : Option Addr) (q : Nat) (w : World) (hnc : cs.length ≤ 12) (hnm : nm ≤ 8) (hcode : m.code.length ≤ maxLen) (hlo : 0 ≤ m.locs) (hhi : m.locs ≤ 60) :
    Calls Try.prog 44 #[fiV cs.length nm A B x y, meV m P C K p c k, inV ⟨3, a, 0, 0, 0, []⟩ Q q] w fun e w' => e = .returned (.bool (sinB cs nm m.code.length m.locs ⟨3, a, 0, 0, 0, []⟩)) ∧ Bl w w' := by
  unfold maxLen at hcode
  go_enter Try.func44, Try.ntmps44
  go_wp2_with (go_at_call 41; refine (within_any _ _ _ _).mono ?_; rintro e w' ⟨rfl, rfl⟩)
  all_goals
    go_ret
    refine ⟨ret_bool ?_, (((Bl.refl _).alloc _).alloc _).alloc _⟩
    rw [Bool.eq_iff_iff]; simp [sinB]; try omega

set_option maxRecDepth 100000 in
set_option maxHeartbeats 8000000 in
theorem rins_8 (a : Int) (cs : List Cl) (nm : Nat) (A B : Option Addr) (x y : Nat) (m : Me) (P C K : Option Addr) (p c k : Nat) (Q : Option Addr) (q : Nat) (w : World) (hnc : cs.length ≤ 12) (hnm : nm ≤ 8) (hcode : m.code.length ≤ maxLen) (hlo : 0 ≤ m.locs) (hhi : m.locs ≤ 60) :
    Calls Try.prog 44 #[fiV cs.length nm A B x y, meV m P C K p c k, inV ⟨8, a, 0, 0, 0, []⟩ Q q] w fun e w' => e = .returned (.bool (sinB cs nm m.code.length m.locs ⟨8, a, 0, 0, 0, []⟩)) ∧ Bl w w' := by
  unfold maxLen at hcode
  go_enter Try.func44, Try.ntmps44
  go_wp2_with (go_at_call 41; refine (within_any _ _ _ _).mono ?_; rintro e w' ⟨rfl, rfl⟩)
  all_goals
    go_ret
    refine ⟨ret_bool ?_, (((Bl.refl _).alloc _).alloc _).alloc _⟩
    rw [Bool.eq_iff_iff]; simp [sinB]; try omega

set_option maxRecDepth 100000 in
set_option maxHeartbeats 8000000 in
theorem rins_9 (a : Int) (cs : List Cl) (nm : Nat) (A B : Option Addr) (x y : Nat) (m : Me) (P C K : Option Addr) (p c k : Nat) (Q : Option Addr) (q : Nat) (w : World) (hnc : cs.length ≤ 12) (hnm : nm ≤ 8) (hcode : m.code.length ≤ maxLen) (hlo : 0 ≤ m.locs) (hhi : m.locs ≤ 60) :
    Calls Try.prog 44 #[fiV cs.length nm A B x y, meV m P C K p c k, inV ⟨9, a, 0, 0, 0, []⟩ Q q] w fun e w' => e = .returned (.bool (sinB cs nm m.code.length m.locs ⟨9, a, 0, 0, 0, []⟩)) ∧ Bl w w' := by
  unfold maxLen at hcode
  go_enter Try.func44, Try.ntmps44
  go_wp2_with (go_at_call 41; refine (within_any _ _ _ _).mono ?_; rintro e w' ⟨rfl, rfl⟩)
  all_goals
    go_ret
    refine ⟨ret_bool ?_, (((Bl.refl _).alloc _).alloc _).alloc _⟩
    rw [Bool.eq_iff_iff]; simp [sinB]; try omega

set_option maxRecDepth 100000 in
set_option maxHeartbeats 8000000 in
theorem rins_10 (a : Int) (cs : List Cl) (nm : Nat) (A B : Option Addr) (x y : Nat) (m : Me) (P C K : Option Addr) (p c k : Nat) (Q : Option Addr) (q : Nat) (w : World) (hnc : cs.length ≤ 12) (hnm : nm ≤ 8) (hcode : m.code.length ≤ maxLen) (hlo : 0 ≤ m.locs) (hhi : m.locs ≤ 60) :
    Calls Try.prog 44 #[fiV cs.length nm A B x y, meV m P C K p c k, inV ⟨10, a, 0, 0, 0, []⟩ Q q] w fun e w' => e = .returned (.bool (sinB cs nm m.code.length m.locs ⟨10, a, 0, 0, 0, []⟩)) ∧ Bl w w' := by
  unfold maxLen at hcode
  go_enter Try.func44, Try.ntmps44
  go_wp2_with (go_at_call 41; refine (within_any _ _ _ _).mono ?_; rintro e w' ⟨rfl, rfl⟩)
  all_goals
    go_ret
    refine ⟨ret_bool ?_, (((Bl.refl _).alloc _).alloc _).alloc _⟩
    rw [Bool.eq_iff_iff]; simp [sinB]; try omega

set_option maxRecDepth 100000 in
set_option maxHeartbeats 8000000 in
theorem rins_20 (a : Int) (cs : List Cl) (nm : Nat) (A B : Option Addr) (x y : Nat) (m : Me) (P C K : Option Addr) (p c k : Nat) (Q : Option Addr) (q : Nat) (w : World) (hnc : cs.length ≤ 12) (hnm : nm ≤ 8) (hcode : m.code.length ≤ maxLen) (hlo : 0 ≤ m.locs) (hhi : m.locs ≤ 60) :
    Calls Try.prog 44 #[fiV cs.length nm A B x y, meV m P C K p c k, inV ⟨20, a, 0, 0, 0, []⟩ Q q] w fun e w' => e = .returned (.bool (sinB cs nm m.code.length m.locs ⟨20, a, 0, 0, 0, []⟩)) ∧ Bl w w' := by
  unfold maxLen at hcode
  go_enter Try.func44, Try.ntmps44
  go_wp2_with (go_at_call 41; refine (within_any _ _ _ _).mono ?_; rintro e w' ⟨rfl, rfl⟩)
  all_goals
    go_ret
    refine ⟨ret_bool ?_, (((Bl.refl _).alloc _).alloc _).alloc _⟩
    rw [Bool.eq_iff_iff]; simp [sinB]; try omega

set_option maxRecDepth 100000 in
set_option maxHeartbeats 8000000 in
theorem rins_21 (a : Int) (cs : List Cl) (nm : Nat) (A B : Option Addr) (x y : Nat) (m : Me) (P C K : Option Addr) (p c k : Nat) (Q : Option Addr) (q : Nat) (w : World) (hnc : cs.length ≤ 12) (hnm : nm ≤ 8) (hcode : m.code.length ≤ maxLen) (hlo : 0 ≤ m.locs) (hhi : m.locs ≤ 60) :
    Calls Try.prog 44 #[fiV cs.length nm A B x y, meV m P C K p c k, inV ⟨21, a, 0, 0, 0, []⟩ Q q] w fun e w' => e = .returned (.bool (sinB cs nm m.code.length m.locs ⟨21, a, 0, 0, 0, []⟩)) ∧ Bl w w' := by
  unfold maxLen at hcode
  go_enter Try.func44, Try.ntmps44
  go_wp2_with (go_at_call 41; refine (within_any _ _ _ _).mono ?_; rintro e w' ⟨rfl, rfl⟩)
  all_goals
    go_ret
    refine ⟨ret_bool ?_, (((Bl.refl _).alloc _).alloc _).alloc _⟩
    rw [Bool.eq_iff_iff]; simp [sinB]; try omega

set_option maxRecDepth 100000 in
set_option maxHeartbeats 8000000 in
theorem rins_22 (a : Int) (cs : List Cl) (nm : Nat) (A B : Option Addr) (x y : Nat) (m : Me) (P C K : Option Addr) (p c k : Nat) (Q : Option Addr) (q : Nat) (w : World) (hnc : cs.length ≤ 12) (hnm : nm ≤ 8) (hcode : m.code.length ≤ maxLen) (hlo : 0 ≤ m.locs) (hhi : m.locs ≤ 60) :
    Calls Try.prog 44 #[fiV cs.length nm A B x y, meV m P C K p c k, inV ⟨22, a, 0, 0, 0, []⟩ Q q] w fun e w' => e = .returned (.bool (sinB cs nm m.code.length m.locs ⟨22, a, 0, 0, 0, []⟩)) ∧ Bl w w' := by
  unfold maxLen at hcode
  go_enter Try.func44, Try.ntmps44
  go_wp2_with (go_at_call 41; refine (within_any _ _ _ _).mono ?_; rintro e w' ⟨rfl, rfl⟩)
  all_goals
    go_ret
    refine ⟨ret_bool ?_, (((Bl.refl _).alloc _).alloc _).alloc _⟩
    rw [Bool.eq_iff_iff]; simp [sinB]; try omega

set_option maxRecDepth 100000 in
set_option maxHeartbeats 8000000 in
theorem rins_23 (a : Int) (cs : List Cl) (nm : Nat) (A B : Option Addr) (x y : Nat) (m : Me) (P C K : Option Addr) (p c k : Nat) (Q : Option Addr) (q : Nat) (w : World) (hnc : cs.length ≤ 12) (hnm : nm ≤ 8) (hcode : m.code.length ≤ maxLen) (hlo : 0 ≤ m.locs) (hhi : m.locs ≤ 60) :
    Calls Try.prog 44 #[fiV cs.length nm A B x y, meV m P C K p c k, inV ⟨23, a, 0, 0, 0, []⟩ Q q] w fun e w' => e = .returned (.bool (sinB cs nm m.code.length m.locs ⟨23, a, 0, 0, 0, []⟩)) ∧ Bl w w' := by
  unfold maxLen at hcode
  go_enter Try.func44, Try.ntmps44
  go_wp2_with (go_at_call 41; refine (within_any _ _ _ _).mono ?_; rintro e w' ⟨rfl, rfl⟩)
  all_goals
    go_ret
    refine ⟨ret_bool ?_, (((Bl.refl _).alloc _).alloc _).alloc _⟩
    rw [Bool.eq_iff_iff]; simp [sinB]; try omega

set_option maxRecDepth 100000 in
set_option maxHeartbeats 8000000 in
theorem rins_25 (a : Int) (cs : List Cl) (nm : Nat) (A B : Option Addr) (x y : Nat) (m : Me) (P C K : Option Addr) (p c k : Nat) (Q : Option Addr) (q : Nat) (w : World) (hnc : cs.length ≤ 12) (hnm : nm ≤ 8) (hcode : m.code.length ≤ maxLen) (hlo : 0 ≤ m.locs) (hhi : m.locs ≤ 60) :
    Calls Try.prog 44 #[fiV cs.length nm A B x y, meV m P C K p c k, inV ⟨25, a, 0, 0, 0, []⟩ Q q] w fun e w' => e = .returned (.bool (sinB cs nm m.code.length m.locs ⟨25, a, 0, 0, 0, []⟩)) ∧ Bl w w' := by
  unfold maxLen at hcode
  go_enter Try.func44, Try.ntmps44
  go_wp2_with (go_at_call 41; refine (within_any _ _ _ _).mono ?_; rintro e w' ⟨rfl, rfl⟩)
  all_goals
    go_ret
    refine ⟨ret_bool ?_, (((Bl.refl _).alloc _).alloc _).alloc _⟩
    rw [Bool.eq_iff_iff]; simp [sinB]; try omega

set_option maxRecDepth 100000 in
set_option maxHeartbeats 8000000 in
theorem rins_6 (a : Int) (cs : List Cl) (nm : Nat) (A B : Option Addr) (x y : Nat) (m : Me) (P C K : Option Addr) (p c k : Nat) (Q : Option Addr) (q : Nat) (w : World) (hnc : cs.length ≤ 12) (hnm : nm ≤ 8) (hcode : m.code.length ≤ maxLen) (hlo : 0 ≤ m.locs) (hhi : m.locs ≤ 60) :
    Calls Try.prog 44 #[fiV cs.length nm A B x y, meV m P C K p c k, inV ⟨6, a, 0, 0, 0, []⟩ Q q] w fun e w' => e = .returned (.bool (sinB cs nm m.code.length m.locs ⟨6, a, 0, 0, 0, []⟩)) ∧ Bl w w' := by
  unfold maxLen at hcode
  go_enter Try.func44, Try.ntmps44
  go_wp2_with (go_at_call 41; refine (within_any _ _ _ _).mono ?_; rintro e w' ⟨rfl, rfl⟩)
  all_goals
    go_ret
    refine ⟨ret_bool ?_, (((Bl.refl _).alloc _).alloc _).alloc _⟩
    rw [Bool.eq_iff_iff]; simp [sinB]; try omega

set_option maxRecDepth 100000 in
set_option maxHeartbeats 8000000 in
theorem rins_7 (a : Int) (cs : List Cl) (nm : Nat) (A B : Option Addr) (x y : Nat) (m : Me) (P C K : Option Addr) (p c k : Nat) (Q : Option Addr) (q : Nat) (w : World) (hnc : cs.length ≤ 12) (hnm : nm ≤ 8) (hcode : m.code.length ≤ maxLen) (hlo : 0 ≤ m.locs) (hhi : m.locs ≤ 60) :
    Calls Try.prog 44 #[fiV cs.length nm A B x y, meV m P C K p c k, inV ⟨7, a, 0, 0, 0, []⟩ Q q] w fun e w' => e = .returned (.bool (sinB cs nm m.code.length m.locs ⟨7, a, 0, 0, 0, []⟩)) ∧ Bl w w' := by
  unfold maxLen at hcode
  go_enter Try.func44, Try.ntmps44
  go_wp2_with (go_at_call 41; refine (within_any _ _ _ _).mono ?_; rintro e w' ⟨rfl, rfl⟩)
  all_goals
    go_ret
    refine ⟨ret_bool ?_, (((Bl.refl _).alloc _).alloc _).alloc _⟩
    rw [Bool.eq_iff_iff]; simp [sinB]; try omega

set_option maxRecDepth 100000 in
set_option maxHeartbeats 8000000 in
theorem rins_11 (a : Int) (cs : List Cl) (nm : Nat) (A B : Option Addr) (x y : Nat) (m : Me) (P C K : Option Addr) (p c k : Nat) (Q : Option Addr) (q : Nat) (w : World) (hnc : cs.length ≤ 12) (hnm : nm ≤ 8) (hcode : m.code.length ≤ maxLen) (hlo : 0 ≤ m.locs) (hhi : m.locs ≤ 60) :
    Calls Try.prog 44 #[fiV cs.length nm A B x y, meV m P C K p c k, inV ⟨11, a, 0, 0, 0, []⟩ Q q] w fun e w' => e = .returned (.bool (sinB cs nm m.code.length m.locs ⟨11, a, 0, 0, 0, []⟩)) ∧ Bl w w' := by
  unfold maxLen at hcode
  go_enter Try.func44, Try.ntmps44
  go_wp2_with (go_at_call 41; refine (within_any _ _ _ _).mono ?_; rintro e w' ⟨rfl, rfl⟩)
  all_goals
    go_ret
    refine ⟨ret_bool ?_, (((Bl.refl _).alloc _).alloc _).alloc _⟩
    rw [Bool.eq_iff_iff]; simp [sinB]; try omega

set_option maxRecDepth 100000 in
set_option maxHeartbeats 8000000 in
theorem rins_13 (a : Int) (cs : List Cl) (nm : Nat) (A B : Option Addr) (x y : Nat) (m : Me) (P C K : Option Addr) (p c k : Nat) (Q : Option Addr) (q : Nat) (w : World) (hnc : cs.length ≤ 12) (hnm : nm ≤ 8) (hcode : m.code.length ≤ maxLen) (hlo : 0 ≤ m.locs) (hhi : m.locs ≤ 60) :
    Calls Try.prog 44 #[fiV cs.length nm A B x y, meV m P C K p c k, inV ⟨13, a, 0, 0, 0, []⟩ Q q] w fun e w' => e = .returned (.bool (sinB cs nm m.code.length m.locs ⟨13, a, 0, 0, 0, []⟩)) ∧ Bl w w' := by
  unfold maxLen at hcode
  go_enter Try.func44, Try.ntmps44
  go_wp2_with (go_at_call 41; refine (within_any _ _ _ _).mono ?_; rintro e w' ⟨rfl, rfl⟩)
  all_goals
    go_ret
    refine ⟨ret_bool ?_, (((Bl.refl _).alloc _).alloc _).alloc _⟩
    rw [Bool.eq_iff_iff]; simp [sinB]; try omega

set_option maxRecDepth 100000 in
set_option maxHeartbeats 8000000 in
theorem rins_14 (a : Int) (cs : List Cl) (nm : Nat) (A B : Option Addr) (x y : Nat) (m : Me) (P C K : Option Addr) (p c k : Nat) (Q : Option Addr) (q : Nat) (w : World) (hnc : cs.length ≤ 12) (hnm : nm ≤ 8) (hcode : m.code.length ≤ maxLen) (hlo : 0 ≤ m.locs) (hhi : m.locs ≤ 60) :
    Calls Try.prog 44 #[fiV cs.length nm A B x y, meV m P C K p c k, inV ⟨14, a, 0, 0, 0, []⟩ Q q] w fun e w' => e = .returned (.bool (sinB cs nm m.code.length m.locs ⟨14, a, 0, 0, 0, []⟩)) ∧ Bl w w' := by
  unfold maxLen at hcode
  go_enter Try.func44, Try.ntmps44
  go_wp2_with (go_at_call 41; refine (within_any _ _ _ _).mono ?_; rintro e w' ⟨rfl, rfl⟩)
  all_goals
    go_ret
    refine ⟨ret_bool ?_, (((Bl.refl _).alloc _).alloc _).alloc _⟩
    rw [Bool.eq_iff_iff]; simp [sinB]; try omega

set_option maxRecDepth 100000 in
set_option maxHeartbeats 8000000 in
theorem rins_17 (a : Int) (cs : List Cl) (nm : Nat) (A B : Option Addr) (x y : Nat) (m : Me) (P C K : Option Addr) (p c k : Nat) (Q : Option Addr) (q : Nat) (w : World) (hnc : cs.length ≤ 12) (hnm : nm ≤ 8) (hcode : m.code.length ≤ maxLen) (hlo : 0 ≤ m.locs) (hhi : m.locs ≤ 60) :
    Calls Try.prog 44 #[fiV cs.length nm A B x y, meV m P C K p c k, inV ⟨17, a, 0, 0, 0, []⟩ Q q] w fun e w' => e = .returned (.bool (sinB cs nm m.code.length m.locs ⟨17, a, 0, 0, 0, []⟩)) ∧ Bl w w' := by
  unfold maxLen at hcode
  go_enter Try.func44, Try.ntmps44
  go_wp2_with (go_at_call 41; refine (within_any _ _ _ _).mono ?_; rintro e w' ⟨rfl, rfl⟩)
  all_goals
    go_ret
    refine ⟨ret_bool ?_, (((Bl.refl _).alloc _).alloc _).alloc _⟩
    rw [Bool.eq_iff_iff]; simp [sinB]; try omega

set_option maxRecDepth 100000 in
set_option maxHeartbeats 8000000 in
theorem rins_18 (a : Int) (cs : List Cl) (nm : Nat) (A B : Option Addr) (x y : Nat) (m : Me) (P C K : Option Addr) (p c k : Nat) (Q : Option Addr) (q : Nat) (w : World) (hnc : cs.length ≤ 12) (hnm : nm ≤ 8) (hcode : m.code.length ≤ maxLen) (hlo : 0 ≤ m.locs) (hhi : m.locs ≤ 60) :
    Calls Try.prog 44 #[fiV cs.length nm A B x y, meV m P C K p c k, inV ⟨18, a, 0, 0, 0, []⟩ Q q] w fun e w' => e = .returned (.bool (sinB cs nm m.code.length m.locs ⟨18, a, 0, 0, 0, []⟩)) ∧ Bl w w' := by
  unfold maxLen at hcode
  go_enter Try.func44, Try.ntmps44
  go_wp2_with (go_at_call 41; refine (within_any _ _ _ _).mono ?_; rintro e w' ⟨rfl, rfl⟩)
  all_goals
    go_ret
    refine ⟨ret_bool ?_, (((Bl.refl _).alloc _).alloc _).alloc _⟩
    rw [Bool.eq_iff_iff]; simp [sinB]; try omega

set_option maxRecDepth 100000 in
set_option maxHeartbeats 8000000 in
theorem rins_19 (a : Int) (cs : List Cl) (nm : Nat) (A B : Option Addr) (x y : Nat) (m : Me) (P C K : Option Addr) (p c k : Nat) (Q : Option Addr) (q : Nat) (w : World) (hnc : cs.length ≤ 12) (hnm : nm ≤ 8) (hcode : m.code.length ≤ maxLen) (hlo : 0 ≤ m.locs) (hhi : m.locs ≤ 60) :
    Calls Try.prog 44 #[fiV cs.length nm A B x y, meV m P C K p c k, inV ⟨19, a, 0, 0, 0, []⟩ Q q] w fun e w' => e = .returned (.bool (sinB cs nm m.code.length m.locs ⟨19, a, 0, 0, 0, []⟩)) ∧ Bl w w' := by
  unfold maxLen at hcode
  go_enter Try.func44, Try.ntmps44
  go_wp2_with (go_at_call 41; refine (within_any _ _ _ _).mono ?_; rintro e w' ⟨rfl, rfl⟩)
  all_goals
    go_ret
    refine ⟨ret_bool ?_, (((Bl.refl _).alloc _).alloc _).alloc _⟩
    rw [Bool.eq_iff_iff]; simp [sinB]; try omega

set_option maxRecDepth 100000 in
set_option maxHeartbeats 8000000 in
theorem rins_24 (a : Int) (cs : List Cl) (nm : Nat) (A B : Option Addr) (x y : Nat) (m : Me) (P C K : Option Addr) (p c k : Nat) (Q : Option Addr) (q : Nat) (w : World) (hnc : cs.length ≤ 12) (hnm : nm ≤ 8) (hcode : m.code.length ≤ maxLen) (hlo : 0 ≤ m.locs) (hhi : m.locs ≤ 60) :
    Calls Try.prog 44 #[fiV cs.length nm A B x y, meV m P C K p c k, inV ⟨24, a, 0, 0, 0, []⟩ Q q] w fun e w' => e = .returned (.bool (sinB cs nm m.code.length m.locs ⟨24, a, 0, 0, 0, []⟩)) ∧ Bl w w' := by
  unfold maxLen at hcode
  go_enter Try.func44, Try.ntmps44
  go_wp2_with (go_at_call 41; refine (within_any _ _ _ _).mono ?_; rintro e w' ⟨rfl, rfl⟩)
  all_goals
    go_ret
    refine ⟨ret_bool ?_, (((Bl.refl _).alloc _).alloc _).alloc _⟩
    rw [Bool.eq_iff_iff]; simp [sinB]; try omega

end Go.Proofs.Ytgiiapenmjollab
namespace Go.Proofs.Ytgiiapenmjollab
open Go.RowKit
set_option linter.unusedVariables false
set_option linter.unusedSimpArgs false

set_option maxRecDepth 100000 in
set_option maxHeartbeats 8000000 in
theorem rins_o (op a : Int) (h : op < 1 ∨ 25 < op) (cs : List Cl) (nm : Nat) (A B : Option Addr) (x y : Nat) (m : Me) (P C K : Option Addr) (p c k : Nat) (Q : Option Addr) (q : Nat) (w : World) (hnc : cs.length ≤ 12) (hnm : nm ≤ 8) (hcode : m.code.length ≤ maxLen) (hlo : 0 ≤ m.locs) (hhi : m.locs ≤ 60) :
    Calls Try.prog 44 #[fiV cs.length nm A B x y, meV m P C K p c k, inV ⟨op, a, 0, 0, 0, []⟩ Q q] w fun e w' => e = .returned (.bool (sinB cs nm m.code.length m.locs ⟨op, a, 0, 0, 0, []⟩)) ∧ Bl w w' := by
  unfold maxLen at hcode
  have z1 : (op == 1) = false := by simp; omega
  have z2 : (op == 2) = false := by simp; omega
  have z3 : (op == 3) = false := by simp; omega
  have z4 : (op == 4) = false := by simp; omega
  have z5 : (op == 5) = false := by simp; omega
  have z6 : (op == 6) = false := by simp; omega
  have z7 : (op == 7) = false := by simp; omega
  have z8 : (op == 8) = false := by simp; omega
  have z9 : (op == 9) = false := by simp; omega
  have z10 : (op == 10) = false := by simp; omega
  have z11 : (op == 11) = false := by simp; omega
  have z12 : (op == 12) = false := by simp; omega
  have z13 : (op == 13) = false := by simp; omega
  have z14 : (op == 14) = false := by simp; omega
  have z15 : (op == 15) = false := by simp; omega
  have z16 : (op == 16) = false := by simp; omega
  have z17 : (op == 17) = false := by simp; omega
  have z18 : (op == 18) = false := by simp; omega
  have z19 : (op == 19) = false := by simp; omega
  have z20 : (op == 20) = false := by simp; omega
  have z21 : (op == 21) = false := by simp; omega
  have z22 : (op == 22) = false := by simp; omega
  have z23 : (op == 23) = false := by simp; omega
  have z24 : (op == 24) = false := by simp; omega
  have z25 : (op == 25) = false := by simp; omega
  have hs : sinB cs nm m.code.length m.locs ⟨op, a, 0, 0, 0, []⟩ = false := by
    unfold sinB
    dsimp only
    rw [if_neg (by omega), if_neg (by omega), if_neg (by omega), if_neg (by omega), if_neg (by omega), if_neg (by omega), if_neg (by omega), if_neg (by omega), if_neg (by omega), if_neg (by omega), if_neg (by omega)]
    simp
  rw [hs]
  clear hs
  go_enter Try.func44, Try.ntmps44
  go_wp2
  go_ret
  exact ⟨rfl, (((Bl.refl _).alloc _).alloc _).alloc _⟩

set_option maxRecDepth 100000 in
set_option maxHeartbeats 8000000 in
theorem rins_15 (a b : Int) (cs : List Cl) (nm : Nat) (A B : Option Addr) (x y : Nat) (m : Me) (P C K : Option Addr) (p c k : Nat) (Q : Option Addr) (q : Nat) (w : World) (hnc : cs.length ≤ 12) (hnm : nm ≤ 8) (hcode : m.code.length ≤ maxLen) (hlo : 0 ≤ m.locs) (hhi : m.locs ≤ 60) (hl : ClsAt w A cs) :
    Calls Try.prog 44 #[fiV cs.length nm A B x y, meV m P C K p c k, inV ⟨15, a, b, 0, 0, []⟩ Q q] w fun e w' => e = .returned (.bool (sinB cs nm m.code.length m.locs ⟨15, a, b, 0, 0, []⟩)) ∧ Bl w w' := by
  unfold maxLen at hcode
  have f0 : (boxed3 w cs.length nm A B x y m P C K p c k ⟨15, a, b, 0, 0, []⟩ Q q).cell? ⟨w.heap.size, 0, none⟩ = some (.slice A cs.length x) := (((Bl.refl _).alloc _).alloc _).cell (cell_of_new rfl)
  have f1 : (boxed3 w cs.length nm A B x y m P C K p c k ⟨15, a, b, 0, 0, []⟩ Q q).cell? ⟨w.heap.size + 1 + 1, 1, none⟩ = some (.int .i64 a) := by
    have := cell_of_new (w := (w.alloc (.cells #[.slice A cs.length x, .slice B nm y] 25)).alloc (.cells #[.slice P m.params.length p, .int .i64 m.ret.kind, .int .i64 m.ret.cls, .int .i64 m.stack, .int .i64 m.locs, .int .i64 m.regs, .slice C m.code.length c, .slice K m.hands.length k] 50)) (cs := #[.int .i64 15, .int .i64 a, .int .i64 b, .int .i64 0, .int .i64 0, .slice Q 0 q]) (t := 53) (o := 1) rfl
    rw [World.size_alloc, World.size_alloc] at this
    exact this
  have f2 : (boxed3 w cs.length nm A B x y m P C K p c k ⟨15, a, b, 0, 0, []⟩ Q q).cell? ⟨w.heap.size + 1 + 1, 2, none⟩ = some (.int .i64 b) := by
    have := cell_of_new (w := (w.alloc (.cells #[.slice A cs.length x, .slice B nm y] 25)).alloc (.cells #[.slice P m.params.length p, .int .i64 m.ret.kind, .int .i64 m.ret.cls, .int .i64 m.stack, .int .i64 m.locs, .int .i64 m.regs, .slice C m.code.length c, .slice K m.hands.length k] 50)) (cs := #[.int .i64 15, .int .i64 a, .int .i64 b, .int .i64 0, .int .i64 0, .slice Q 0 q]) (t := 53) (o := 2) rfl
    rw [World.size_alloc, World.size_alloc] at this
    exact this
  have g0 := fut_cell f0
  have g1 := fut_cell f1
  have g2 := fut_cell f2
  have hg : Bl w (boxed3 w cs.length nm A B x y m P C K p c k ⟨15, a, b, 0, 0, []⟩ Q q) := (((Bl.refl w).alloc _).alloc _).alloc _
  have HL := hl.bl hg
  clear f0 f1 f2 hl
  have HB : Hid (Bl w (boxed3 w cs.length nm A B x y m P C K p c k ⟨15, a, b, 0, 0, []⟩ Q q)) := hg
  clear hg
  unfold boxed3 at g0 g1 g2 HL HB
  by_cases ha : 0 ≤ a ∧ a ≤ (cs.length : Int) - 1
  · have da : decide (0 ≤ a ∧ a ≤ (cs.length : Int) - 1) = true := decide_eq_true ha
    obtain ⟨u, rfl⟩ := Int.eq_ofNat_of_zero_le ha.1
    rcases HL.2 with h0 | ⟨b', off', rfl, hc⟩
    · omega
    obtain ⟨-, -, A', c', h1, h2⟩ := hc u (by omega)
    have hfl := h2.1
    unfold maxLen at hfl
    have g3 := fut_cell h1
    have HS : Hid (sinB cs nm m.code.length m.locs ⟨15, (u : Int), b, 0, 0, []⟩ = decide (0 ≤ b ∧ b ≤ ((nth cl0 cs u).fields.length : Int) - 1)) := by
      show sinB _ _ _ _ _ = _
      rw [Bool.eq_iff_iff]; simp [sinB]; omega
    clear h1 h2 hc HL
    cases db : decide (0 ≤ b ∧ b ≤ ((nth cl0 cs u).fields.length : Int) - 1)
    all_goals
      rw [db] at HS
      go_enter Try.func44, Try.ntmps44
      go_wp2
      refine wp_region_fut (by kernel_rfl) (by kernel_rfl) fun hne => ?_
      repeat (go_big_quiet_step ((go_at_call 41; exact Calls.fut_same_eq _ (within_any _ _ _ _) (congrArg Value.bool (by first | exact da | exact db)))))
      refine wpQuiet_nil ?_
      rintro _ ⟨⟨w2, hw2⟩, rfl⟩
      go_wp2
      go_ret
      exact ⟨ret_bool HS.out.symm, HB.out.trans hw2⟩
  · have da : decide (0 ≤ a ∧ a ≤ (cs.length : Int) - 1) = false := decide_eq_false ha
    have HS : Hid (sinB cs nm m.code.length m.locs ⟨15, a, b, 0, 0, []⟩ = false) := by
      show sinB _ _ _ _ _ = _
      rw [Bool.eq_iff_iff]; simp [sinB]; omega
    clear HL
    go_enter Try.func44, Try.ntmps44
    go_wp2
    refine wp_region_fut (by kernel_rfl) (by kernel_rfl) fun hne => ?_
    repeat (go_big_quiet_step ((go_at_call 41; exact Calls.fut_same_eq _ (within_any _ _ _ _) (congrArg Value.bool da))))
    refine wpQuiet_nil ?_
    rintro _ ⟨⟨w2, hw2⟩, rfl⟩
    go_wp2
    go_ret
    exact ⟨ret_bool HS.out.symm, HB.out.trans hw2⟩

set_option maxRecDepth 100000 in
set_option maxHeartbeats 8000000 in
theorem rins_16 (a b : Int) (cs : List Cl) (nm : Nat) (A B : Option Addr) (x y : Nat) (m : Me) (P C K : Option Addr) (p c k : Nat) (Q : Option Addr) (q : Nat) (w : World) (hnc : cs.length ≤ 12) (hnm : nm ≤ 8) (hcode : m.code.length ≤ maxLen) (hlo : 0 ≤ m.locs) (hhi : m.locs ≤ 60) (hl : ClsAt w A cs) :
    Calls Try.prog 44 #[fiV cs.length nm A B x y, meV m P C K p c k, inV ⟨16, a, b, 0, 0, []⟩ Q q] w fun e w' => e = .returned (.bool (sinB cs nm m.code.length m.locs ⟨16, a, b, 0, 0, []⟩)) ∧ Bl w w' := by
  unfold maxLen at hcode
  have f0 : (boxed3 w cs.length nm A B x y m P C K p c k ⟨16, a, b, 0, 0, []⟩ Q q).cell? ⟨w.heap.size, 0, none⟩ = some (.slice A cs.length x) := (((Bl.refl _).alloc _).alloc _).cell (cell_of_new rfl)
  have f1 : (boxed3 w cs.length nm A B x y m P C K p c k ⟨16, a, b, 0, 0, []⟩ Q q).cell? ⟨w.heap.size + 1 + 1, 1, none⟩ = some (.int .i64 a) := by
    have := cell_of_new (w := (w.alloc (.cells #[.slice A cs.length x, .slice B nm y] 25)).alloc (.cells #[.slice P m.params.length p, .int .i64 m.ret.kind, .int .i64 m.ret.cls, .int .i64 m.stack, .int .i64 m.locs, .int .i64 m.regs, .slice C m.code.length c, .slice K m.hands.length k] 50)) (cs := #[.int .i64 16, .int .i64 a, .int .i64 b, .int .i64 0, .int .i64 0, .slice Q 0 q]) (t := 53) (o := 1) rfl
    rw [World.size_alloc, World.size_alloc] at this
    exact this
  have f2 : (boxed3 w cs.length nm A B x y m P C K p c k ⟨16, a, b, 0, 0, []⟩ Q q).cell? ⟨w.heap.size + 1 + 1, 2, none⟩ = some (.int .i64 b) := by
    have := cell_of_new (w := (w.alloc (.cells #[.slice A cs.length x, .slice B nm y] 25)).alloc (.cells #[.slice P m.params.length p, .int .i64 m.ret.kind, .int .i64 m.ret.cls, .int .i64 m.stack, .int .i64 m.locs, .int .i64 m.regs, .slice C m.code.length c, .slice K m.hands.length k] 50)) (cs := #[.int .i64 16, .int .i64 a, .int .i64 b, .int .i64 0, .int .i64 0, .slice Q 0 q]) (t := 53) (o := 2) rfl
    rw [World.size_alloc, World.size_alloc] at this
    exact this
  have g0 := fut_cell f0
  have g1 := fut_cell f1
  have g2 := fut_cell f2
  have hg : Bl w (boxed3 w cs.length nm A B x y m P C K p c k ⟨16, a, b, 0, 0, []⟩ Q q) := (((Bl.refl w).alloc _).alloc _).alloc _
  have HL := hl.bl hg
  clear f0 f1 f2 hl
  have HB : Hid (Bl w (boxed3 w cs.length nm A B x y m P C K p c k ⟨16, a, b, 0, 0, []⟩ Q q)) := hg
  clear hg
  unfold boxed3 at g0 g1 g2 HL HB
  by_cases ha : 0 ≤ a ∧ a ≤ (cs.length : Int) - 1
  · have da : decide (0 ≤ a ∧ a ≤ (cs.length : Int) - 1) = true := decide_eq_true ha
    obtain ⟨u, rfl⟩ := Int.eq_ofNat_of_zero_le ha.1
    rcases HL.2 with h0 | ⟨b', off', rfl, hc⟩
    · omega
    obtain ⟨-, -, A', c', h1, h2⟩ := hc u (by omega)
    have hfl := h2.1
    unfold maxLen at hfl
    have g3 := fut_cell h1
    have HS : Hid (sinB cs nm m.code.length m.locs ⟨16, (u : Int), b, 0, 0, []⟩ = decide (0 ≤ b ∧ b ≤ ((nth cl0 cs u).fields.length : Int) - 1)) := by
      show sinB _ _ _ _ _ = _
      rw [Bool.eq_iff_iff]; simp [sinB]; omega
    clear h1 h2 hc HL
    cases db : decide (0 ≤ b ∧ b ≤ ((nth cl0 cs u).fields.length : Int) - 1)
    all_goals
      rw [db] at HS
      go_enter Try.func44, Try.ntmps44
      go_wp2
      refine wp_region_fut (by kernel_rfl) (by kernel_rfl) fun hne => ?_
      repeat (go_big_quiet_step ((go_at_call 41; exact Calls.fut_same_eq _ (within_any _ _ _ _) (congrArg Value.bool (by first | exact da | exact db)))))
      refine wpQuiet_nil ?_
      rintro _ ⟨⟨w2, hw2⟩, rfl⟩
      go_wp2
      go_ret
      exact ⟨ret_bool HS.out.symm, HB.out.trans hw2⟩
  · have da : decide (0 ≤ a ∧ a ≤ (cs.length : Int) - 1) = false := decide_eq_false ha
    have HS : Hid (sinB cs nm m.code.length m.locs ⟨16, a, b, 0, 0, []⟩ = false) := by
      show sinB _ _ _ _ _ = _
      rw [Bool.eq_iff_iff]; simp [sinB]; omega
    clear HL
    go_enter Try.func44, Try.ntmps44
    go_wp2
    refine wp_region_fut (by kernel_rfl) (by kernel_rfl) fun hne => ?_
    repeat (go_big_quiet_step ((go_at_call 41; exact Calls.fut_same_eq _ (within_any _ _ _ _) (congrArg Value.bool da))))
    refine wpQuiet_nil ?_
    rintro _ ⟨⟨w2, hw2⟩, rfl⟩
    go_wp2
    go_ret
    exact ⟨ret_bool HS.out.symm, HB.out.trans hw2⟩

theorem rins_any (i : In) (cs : List Cl) (nm : Nat) (A B : Option Addr) (x y : Nat) (m : Me) (P C K : Option Addr) (p c k : Nat) (Q : Option Addr) (q : Nat) (w : World) (hnc : cs.length ≤ 12) (hnm : nm ≤ 8) (hcode : m.code.length ≤ maxLen) (hlo : 0 ≤ m.locs) (hhi : m.locs ≤ 60) (hl : ClsAt w A cs) :
    Calls Try.prog 44 #[fiV cs.length nm A B x y, meV m P C K p c k, inV i Q q] w fun e w' => e = .returned (.bool (sinB cs nm m.code.length m.locs i)) ∧ Bl w w' := by
  by_cases hbad : i.c = 0 ∧ i.args.length = 0
  · obtain ⟨op, a, b, c', n, ar⟩ := i
    obtain ⟨rfl, has⟩ : c' = 0 ∧ ar.length = 0 := hbad
    obtain rfl : ar = [] := List.length_eq_zero_iff.1 has
    by_cases h1 : op = 1
    · subst h1; exact rins_1 a b n cs nm A B x y m P C K p c k Q q w hnc hnm hcode hlo hhi
    by_cases h2 : op = 2
    · subst h2; exact rins_2 a b n cs nm A B x y m P C K p c k Q q w hnc hnm hcode hlo hhi
    by_cases hn : n = 0
    · subst hn
      by_cases h4 : op = 4
      · subst h4; exact rins_4 a b cs nm A B x y m P C K p c k Q q w hnc hnm hcode hlo hhi
      by_cases h5 : op = 5
      · subst h5; exact rins_5 a b cs nm A B x y m P C K p c k Q q w hnc hnm hcode hlo hhi
      by_cases h12 : op = 12
      · subst h12; exact rins_12 a b cs nm A B x y m P C K p c k Q q w hnc hnm hcode hlo hhi
      by_cases h15 : op = 15
      · subst h15; exact rins_15 a b cs nm A B x y m P C K p c k Q q w hnc hnm hcode hlo hhi hl
      by_cases h16 : op = 16
      · subst h16; exact rins_16 a b cs nm A B x y m P C K p c k Q q w hnc hnm hcode hlo hhi hl
      by_cases hb : b = 0
      · subst hb
        by_cases h3 : op = 3
        · subst h3; exact rins_3 a cs nm A B x y m P C K p c k Q q w hnc hnm hcode hlo hhi
        by_cases h8 : op = 8
        · subst h8; exact rins_8 a cs nm A B x y m P C K p c k Q q w hnc hnm hcode hlo hhi
        by_cases h9 : op = 9
        · subst h9; exact rins_9 a cs nm A B x y m P C K p c k Q q w hnc hnm hcode hlo hhi
        by_cases h10 : op = 10
        · subst h10; exact rins_10 a cs nm A B x y m P C K p c k Q q w hnc hnm hcode hlo hhi
        by_cases h20 : op = 20
        · subst h20; exact rins_20 a cs nm A B x y m P C K p c k Q q w hnc hnm hcode hlo hhi
        by_cases h21 : op = 21
        · subst h21; exact rins_21 a cs nm A B x y m P C K p c k Q q w hnc hnm hcode hlo hhi
        by_cases h22 : op = 22
        · subst h22; exact rins_22 a cs nm A B x y m P C K p c k Q q w hnc hnm hcode hlo hhi
        by_cases h23 : op = 23
        · subst h23; exact rins_23 a cs nm A B x y m P C K p c k Q q w hnc hnm hcode hlo hhi
        by_cases h25 : op = 25
        · subst h25; exact rins_25 a cs nm A B x y m P C K p c k Q q w hnc hnm hcode hlo hhi
        by_cases h6 : op = 6
        · subst h6; exact rins_6 a cs nm A B x y m P C K p c k Q q w hnc hnm hcode hlo hhi
        by_cases h7 : op = 7
        · subst h7; exact rins_7 a cs nm A B x y m P C K p c k Q q w hnc hnm hcode hlo hhi
        by_cases h11 : op = 11
        · subst h11; exact rins_11 a cs nm A B x y m P C K p c k Q q w hnc hnm hcode hlo hhi
        by_cases h13 : op = 13
        · subst h13; exact rins_13 a cs nm A B x y m P C K p c k Q q w hnc hnm hcode hlo hhi
        by_cases h14 : op = 14
        · subst h14; exact rins_14 a cs nm A B x y m P C K p c k Q q w hnc hnm hcode hlo hhi
        by_cases h17 : op = 17
        · subst h17; exact rins_17 a cs nm A B x y m P C K p c k Q q w hnc hnm hcode hlo hhi
        by_cases h18 : op = 18
        · subst h18; exact rins_18 a cs nm A B x y m P C K p c k Q q w hnc hnm hcode hlo hhi
        by_cases h19 : op = 19
        · subst h19; exact rins_19 a cs nm A B x y m P C K p c k Q q w hnc hnm hcode hlo hhi
        by_cases h24 : op = 24
        · subst h24; exact rins_24 a cs nm A B x y m P C K p c k Q q w hnc hnm hcode hlo hhi
        exact rins_o op a (by omega) cs nm A B x y m P C K p c k Q q w hnc hnm hcode hlo hhi
      · exact rins_b op a b (by omega) hb cs nm A B x y m P C K p c k Q q w hnc hnm hcode hlo hhi
    · exact rins_n op a b n h1 h2 hn cs nm A B x y m P C K p c k Q q w hnc hnm hcode hlo hhi
  · exact rins_bad i cs nm A B x y m P C K p c k Q q w hnc hnm hcode hlo hhi hbad

end Go.Proofs.Ytgiiapenmjollab
namespace Go.Proofs.Ytgiiapenmjollab
open Go.RowKit
set_option linter.unusedVariables false
set_option linter.unusedSimpArgs false

theorem sme_head {cs : List Cl} {nm : Nat} {m : Me} (h : headB cs.length m 400 = false) : smeB cs nm m = false := by unfold smeB; rw [h]; rfl
theorem sme_nums {cs : List Cl} {nm : Nat} {m : Me} (h : ¬ (m.regs = 0 ∧ 0 ≤ m.stack ∧ m.stack ≤ 30 ∧ (slotsN m.params : Int) ≤ m.locs ∧ m.locs ≤ 60)) : smeB cs nm m = false := by
  unfold smeB; rw [decide_eq_false h, Bool.and_false]; rfl
theorem sme_ins {cs : List Cl} {nm : Nat} {m : Me} {q : Nat} (hq : q < m.code.length) (h : sinB cs nm m.code.length m.locs (nth in0 m.code q) = false) : smeB cs nm m = false := by
  unfold smeB; rw [all_bad hq h, Bool.and_false]
theorem sme_good {cs : List Cl} {nm : Nat} {m : Me} (h0 : headB cs.length m 400 = true) (h : m.regs = 0 ∧ 0 ≤ m.stack ∧ m.stack ≤ 30 ∧ (slotsN m.params : Int) ≤ m.locs ∧ m.locs ≤ 60)
    (hi : ∀ q, q < m.code.length → sinB cs nm m.code.length m.locs (nth in0 m.code q) = true) : smeB cs nm m = true := by
  unfold smeB; rw [h0, decide_eq_true h, all_good hi]; rfl
theorem smay_cls {f : Fi} (h : mayB f.classes = false) : smayB f = false := by unfold smayB; rw [h]; rfl
theorem smay_many {f : Fi} (h : ¬ (1 ≤ f.methods.length ∧ f.methods.length ≤ 8)) : smayB f = false := by unfold smayB; rw [decide_eq_false h, Bool.and_false]; rfl
theorem smay_me {f : Fi} {q : Nat} (hq : q < f.methods.length) (h : smeB f.classes f.methods.length (nth me0 f.methods q) = false) : smayB f = false := by
  unfold smayB; rw [all_bad hq h, Bool.and_false]
theorem smay_good {f : Fi} (h0 : mayB f.classes = true) (h : 1 ≤ f.methods.length ∧ f.methods.length ≤ 8)
    (hi : ∀ q, q < f.methods.length → smeB f.classes f.methods.length (nth me0 f.methods q) = true) : smayB f = true := by
  unfold smayB; rw [h0, decide_eq_true h, all_good hi]; rfl
theorem head_few4 {nc : Nat} {m : Me} {most : Int} (h : headB nc m most = true) : m.params.length ≤ 4 ∧ m.hands.length ≤ 8 ∧ 1 ≤ m.code.length ∧ (m.code.length : Int) ≤ most :=
  Decidable.byContradiction fun hc => by rw [head_few hc] at h; exact absurd h (by decide)

set_option maxRecDepth 100000 in
set_option maxHeartbeats 16000000 in
theorem rsmay_any (f : Fi) (A B : Option Addr) (a b : Nat) (w : World) (hA : ClsAt w A f.classes) (hB : MesAt w B f.methods) :
    Calls Try.prog 15 #[fiV f.classes.length f.methods.length A B a b] w fun e w' => e = .returned (.bool (smayB f)) ∧ Bl w w' := by
  have HA : Hid (ClsAt w A f.classes) := hA
  have HB : Hid (MesAt w B f.methods) := hB
  have hcm := hA.1
  have hmm := hB.1
  unfold maxLen at hcm hmm
  clear hA hB
  have HF : Hid (FiBox (w.alloc (.cells #[.slice A f.classes.length a, .slice B f.methods.length b] 25)) w.heap.size 0 f.classes.length f.methods.length A B a b) := ⟨cell_of_new rfl, cell_of_new rfl⟩
  have HW : Hid (Bl w (w.alloc (.cells #[.slice A f.classes.length a, .slice B f.methods.length b] 25))) := (Bl.refl w).alloc _
  cases hm : mayB f.classes
  · have hb := smay_cls hm
    rw [hb]
    go_enter Try.func15, Try.ntmps15
    go_wp2_with (go_at_call 40; refine (rmay_any _ _ _ _ (HA.out.bl HW.out)).mono ?_; rintro e w1 ⟨he, g1⟩; rw [hm] at he; subst he)
    go_ret
    exact ⟨rfl, HW.out.trans g1⟩
  by_cases hn : 1 ≤ (f.methods.length : Int) ∧ (f.methods.length : Int) ≤ 8
  · have dn : decide (1 ≤ (f.methods.length : Int) ∧ (f.methods.length : Int) ≤ 8) = true := decide_eq_true hn
    have HG : Hid ((∀ q, q < f.methods.length → smeB f.classes f.methods.length (nth me0 f.methods q) = true) → smayB f = true) := smay_good hm (by omega)
    have hnc := (may_tree hm).2.2
    go_enter Try.func15, Try.ntmps15
    go_wp2_with (first
      | (go_at_call 40; refine (rmay_any _ _ _ _ (HA.out.bl HW.out)).mono ?_; rintro e w1 ⟨he, g1⟩; rw [hm] at he; subst he; have q1 := (HF.out.bl g1).2; simp only [Nat.zero_add] at q1)
      | (go_at_call 41; refine (within_any _ _ _ _).mono ?_; rintro e w2 ⟨he, rfl⟩; rw [dn] at he; subst he))
    go_loopw [3] (fun i wr => ∃ k : Nat, k ≤ f.methods.length ∧ i = .int .i64 k ∧ Hid (∀ j, j < k → smeB f.classes f.methods.length (nth me0 f.methods j) = true) ∧ Hid (Bl w wr) ∧ Hid (FiBox wr w.heap.size 0 f.classes.length f.methods.length A B a b)) (fun i _ => f.methods.length - (intOf i).toNat)
    case atStart => exact ⟨0, Nat.zero_le _, rfl, fun j hj => absurd hj (Nat.not_lt_zero _), HW.out.trans g1, HF.out.bl g1⟩
    case round =>
      clear HF HW q1 g1 hm
      obtain ⟨k, hk, rfl, hgk, hg, HF⟩ := hrel
      rename World => w0
      have hf1 := HF.out.2
      simp only [Nat.zero_add] at hf1
      by_cases hkl : k < f.methods.length
      · have hmes := HB.out.bl hg.out
        rcases hmes.2 with h0 | ⟨b', off', rfl, hcell⟩
        · omega
        obtain ⟨P, C, K, p, c, kk, c0, c1, c2, c3, c4, c5, c6, c7, hme⟩ := hcell k hkl
        have HBAD : Hid (smeB f.classes f.methods.length (nth me0 f.methods k) = false → smayB f = false) := smay_me hkl
        generalize hM : nth me0 f.methods k = m at *
        have HM : Hid (nth me0 f.methods k = m) := hM
        have hcl := hme.2.1.1
        have hpl := hme.1.1
        clear hmes hcell hM
        have bm : MeBox (w0.alloc (.cells #[.slice P m.params.length p, .int .i64 m.ret.kind, .int .i64 m.ret.cls, .int .i64 m.stack, .int .i64 m.locs, .int .i64 m.regs, .slice C m.code.length c, .slice K m.hands.length kk] 50)) w0.heap.size 0 m P C K p c kk := ⟨cell_of_new rfl, cell_of_new rfl, cell_of_new rfl, cell_of_new rfl, cell_of_new rfl, cell_of_new rfl, cell_of_new rfl, cell_of_new rfl⟩
        have hal : Bl w0 (w0.alloc (.cells #[.slice P m.params.length p, .int .i64 m.ret.kind, .int .i64 m.ret.cls, .int .i64 m.stack, .int .i64 m.locs, .int .i64 m.regs, .slice C m.code.length c, .slice K m.hands.length kk] 50)) := (Bl.refl w0).alloc _
        have bf := HF.out.bl hal
        have XP : Hid (∀ x : Fut (w0.alloc (.cells #[.slice P m.params.length p, .int .i64 m.ret.kind, .int .i64 m.ret.cls, .int .i64 m.stack, .int .i64 m.locs, .int .i64 m.regs, .slice C m.code.length c, .slice K m.hands.length kk] 50)), TysAt x.to P m.params) := fun x => hme.1.bl (hal.trans x.is)
        have XK : Hid (∀ x : Fut (w0.alloc (.cells #[.slice P m.params.length p, .int .i64 m.ret.kind, .int .i64 m.ret.cls, .int .i64 m.stack, .int .i64 m.locs, .int .i64 m.regs, .slice C m.code.length c, .slice K m.hands.length kk] 50)), HdsAt x.to K m.hands) := fun x => hme.2.2.1.bl (hal.trans x.is)
        have HC : Hid (InsAt w0 C m.code) := hme.2.1
        have HAL : Hid (Bl w0 (w0.alloc (.cells #[.slice P m.params.length p, .int .i64 m.ret.kind, .int .i64 m.ret.cls, .int .i64 m.stack, .int .i64 m.locs, .int .i64 m.regs, .slice C m.code.length c, .slice K m.hands.length kk] 50))) := hal
        have HBM : Hid (MeBox (w0.alloc (.cells #[.slice P m.params.length p, .int .i64 m.ret.kind, .int .i64 m.ret.cls, .int .i64 m.stack, .int .i64 m.locs, .int .i64 m.regs, .slice C m.code.length c, .slice K m.hands.length kk] 50)) w0.heap.size 0 m P C K p c kk) := bm
        have HBF : Hid (FiBox (w0.alloc (.cells #[.slice P m.params.length p, .int .i64 m.ret.kind, .int .i64 m.ret.cls, .int .i64 m.stack, .int .i64 m.locs, .int .i64 m.regs, .slice C m.code.length c, .slice K m.hands.length kk] 50)) w.heap.size 0 f.classes.length f.methods.length (A) (some ⟨b', off', none⟩) a b) := bf
        have x0 := fut_cell bf.1
        have x1 := fut_cell bf.2
        have y0 := fut_cell bm.1
        have y1 := fut_cell bm.2.1
        have y2 := fut_cell bm.2.2.1
        have y3 := fut_cell bm.2.2.2.1
        have y4 := fut_cell bm.2.2.2.2.1
        have y5 := fut_cell bm.2.2.2.2.2.1
        have y6 := fut_cell bm.2.2.2.2.2.2.1
        have y7 := fut_cell bm.2.2.2.2.2.2.2
        clear bm bf hal hme HF
        cases hh : headB f.classes.length m 400
        · have HN : Hid (smayB f = false) := HBAD.out (sme_head hh)
          have ds := hh
          have dl := hh
          go_wp2
          refine wp_region_fut (by kernel_rfl) (by kernel_rfl) fun hne => ?_
          repeat (go_big_quiet_step (first
            | (go_at_call 42; exact Calls.fut_eq _ (rhead_any _ _ _ _ _ _ m _ _ _ _ _ _ _ _ (XP.out _) (XK.out _) hnc hcl) (congrArg Value.bool hh))
            | (go_at_call 43; exact Calls.fut_same _ (rslots_any _ _ _ _ (XP.out _) (by omega)))
            | (go_at_call 41; exact Calls.fut_same_eq _ (within_any _ _ _ _) (congrArg Value.bool (by first | exact ds | exact dl)))))
          refine wpQuiet_nil ?_
          rintro _ ⟨⟨w2, hw2⟩, rfl⟩
          go_wp2
          go_ret
          exact ⟨ret_bool HN.out.symm, (hg.out.trans HAL.out).trans hw2⟩
        · have hfew := head_few4 hh
          by_cases hr : m.regs = 0
          · have hr' : (m.regs != 0) = false := by simpa using hr
            have HR : Hid (m.regs = 0) := hr
            clear hr
            by_cases hs : 0 ≤ m.stack ∧ m.stack ≤ 30
            · have ds : decide (0 ≤ m.stack ∧ m.stack ≤ 30) = true := decide_eq_true hs
              by_cases hl : (slotsN m.params : Int) ≤ m.locs ∧ m.locs ≤ 60
              · have dl : decide ((slotsN m.params : Int) ≤ m.locs ∧ m.locs ≤ 60) = true := decide_eq_true hl
                have HGM : Hid ((∀ q, q < m.code.length → sinB f.classes f.methods.length m.code.length m.locs (nth in0 m.code q) = true) → smeB f.classes f.methods.length m = true) := sme_good hh ⟨HR.out, by omega⟩
                go_wp2
                refine wp_region_fut (by kernel_rfl) (by kernel_rfl) fun hne => ?_
                repeat (go_big_quiet_step (first
                  | (go_at_call 42; exact Calls.fut_eq _ (rhead_any _ _ _ _ _ _ m _ _ _ _ _ _ _ _ (XP.out _) (XK.out _) hnc hcl) (congrArg Value.bool hh))
                  | (go_at_call 43; exact Calls.fut_same _ (rslots_any _ _ _ _ (XP.out _) (by omega)))
                  | (go_at_call 41; exact Calls.fut_same_eq _ (within_any _ _ _ _) (congrArg Value.bool (by first | exact ds | exact dl)))))
                refine wpQuiet_nil ?_
                rintro _ ⟨⟨w2, hw2⟩, rfl⟩
                go_wp2
                clear x0 x1 y0 y1 y2 y3 y4 y5 y6 y7 hne
                go_loopw [5] (fun i wr2 => ∃ q : Nat, q ≤ m.code.length ∧ i = .int .i64 q ∧ Hid (∀ j, j < q → sinB f.classes f.methods.length m.code.length m.locs (nth in0 m.code j) = true) ∧ Hid (Bl w0 wr2) ∧ Hid (FiBox wr2 w.heap.size 0 f.classes.length f.methods.length A (some ⟨b', off', none⟩) a b) ∧ Hid (MeBox wr2 w0.heap.size 0 m P C K p c kk)) (fun i _ => m.code.length - (intOf i).toNat)
                case atStart => exact ⟨0, Nat.zero_le _, rfl, fun j hj => absurd hj (Nat.not_lt_zero _), HAL.out.trans hw2, HBF.out.bl hw2, HBM.out.bl hw2⟩
                case round =>
                  clear HBF HBM HAL hw2 XP XK
                  obtain ⟨q, hq, rfl, hgq, hg2, HBF, HBM⟩ := hrel
                  have hm6 := HBM.out.2.2.2.2.2.2.1
                  simp only [Nat.zero_add] at hm6
                  by_cases hql : q < m.code.length
                  · have hic := HC.out.bl hg2.out
                    rcases hic.2 with h0 | ⟨b2, off2, rfl, hcell⟩
                    · omega
                    obtain ⟨c0, c1, c2, c3, c4, -, A', ca, c5, -⟩ := hcell q hql
                    have HNI : Hid (sinB f.classes f.methods.length m.code.length m.locs (nth in0 m.code q) = false → smayB f = false) := fun h => HBAD.out (sme_ins hql h)
                    generalize hX : nth in0 m.code q = X at *
                    have HX : Hid (nth in0 m.code q = X) := hX
                    clear hic hcell hX
                    have x0 := fut_cell HBF.out.1
                    have x1 := fut_cell HBF.out.2
                    have y0 := fut_cell HBM.out.1
                    have y1 := fut_cell HBM.out.2.1
                    have y2 := fut_cell HBM.out.2.2.1
                    have y3 := fut_cell HBM.out.2.2.2.1
                    have y4 := fut_cell HBM.out.2.2.2.2.1
                    have y5 := fut_cell HBM.out.2.2.2.2.2.1
                    have y6 := fut_cell HBM.out.2.2.2.2.2.2.1
                    have y7 := fut_cell HBM.out.2.2.2.2.2.2.2
                    have z0 := fut_cell c0
                    have z1 := fut_cell c1
                    have z2 := fut_cell c2
                    have z3 := fut_cell c3
                    have z4 := fut_cell c4
                    have z5 := fut_cell c5
                    clear c0 c1 c2 c3 c4 c5
                    have XA : Hid (∀ x : Fut wr, ClsAt x.to A f.classes) := fun x => HA.out.bl ((hg.out.trans hg2.out).trans x.is)
                    have hlo : 0 ≤ m.locs := by omega
                    cases hi : sinB f.classes f.methods.length m.code.length m.locs X
                    · have HN : Hid (smayB f = false) := HNI.out hi
                      go_wp2
                      refine wp_region_fut (by kernel_rfl) (by kernel_rfl) fun hne => ?_
                      repeat (go_big_quiet_step ((go_at_call 44; exact Calls.fut_eq _ (rins_any X f.classes _ _ _ _ _ m _ _ _ _ _ _ _ _ _ hnc (by omega) hcl hlo hl.2 (XA.out _)) (congrArg Value.bool hi))))
                      refine wpQuiet_nil ?_
                      rintro _ ⟨⟨w3, hw3⟩, rfl⟩
                      go_wp2
                      go_ret
                      exact ⟨ret_bool HN.out.symm, (hg.out.trans hg2.out).trans hw3⟩
                    · have HI : Hid (sinB f.classes f.methods.length m.code.length m.locs X = true) := hi
                      go_wp2
                      refine wp_region_fut (by kernel_rfl) (by kernel_rfl) fun hne => ?_
                      repeat (go_big_quiet_step ((go_at_call 44; exact Calls.fut_eq _ (rins_any X f.classes _ _ _ _ _ m _ _ _ _ _ _ _ _ _ hnc (by omega) hcl hlo hl.2 (XA.out _)) (congrArg Value.bool hi))))
                      refine wpQuiet_nil ?_
                      rintro _ ⟨⟨w3, hw3⟩, rfl⟩
                      go_wp2
                      go_roundw
                      case rel => exact ⟨q + 1, by omega, by go_num, fun j hj => if h : j < q then hgq.out j h else by have : j = q := by omega
                                                                                                                       subst this; rw [HX.out]; exact HI.out, hg2.out.trans hw3, HBF.out.bl hw3, HBM.out.bl hw3⟩
                      case measure => simp [intOf]; omega
                  · obtain rfl : q = m.code.length := by omega
                    have HT : Hid (smeB f.classes f.methods.length m = true) := HGM.out hgq.out
                    go_wp2
                    go_roundw
                    case rel => exact ⟨k + 1, by omega, by go_num, fun j hj => if h : j < k then hgk.out j h else by have : j = k := by omega
                                                                                                                     subst this; rw [HM.out]; exact HT.out, hg.out.trans hg2.out, HBF⟩
                    case measure => simp [intOf]; omega
              · have dl : decide ((slotsN m.params : Int) ≤ m.locs ∧ m.locs ≤ 60) = false := decide_eq_false hl
                have HN : Hid (smayB f = false) := HBAD.out (sme_nums (by omega))
                go_wp2
                refine wp_region_fut (by kernel_rfl) (by kernel_rfl) fun hne => ?_
                repeat (go_big_quiet_step (first
                  | (go_at_call 42; exact Calls.fut_eq _ (rhead_any _ _ _ _ _ _ m _ _ _ _ _ _ _ _ (XP.out _) (XK.out _) hnc hcl) (congrArg Value.bool hh))
                  | (go_at_call 43; exact Calls.fut_same _ (rslots_any _ _ _ _ (XP.out _) (by omega)))
                  | (go_at_call 41; exact Calls.fut_same_eq _ (within_any _ _ _ _) (congrArg Value.bool (by first | exact ds | exact dl)))))
                refine wpQuiet_nil ?_
                rintro _ ⟨⟨w2, hw2⟩, rfl⟩
                go_wp2
                go_ret
                exact ⟨ret_bool HN.out.symm, (hg.out.trans HAL.out).trans hw2⟩
            · have ds : decide (0 ≤ m.stack ∧ m.stack ≤ 30) = false := decide_eq_false hs
              have dl := hh
              have HN : Hid (smayB f = false) := HBAD.out (sme_nums (by omega))
              go_wp2
              refine wp_region_fut (by kernel_rfl) (by kernel_rfl) fun hne => ?_
              repeat (go_big_quiet_step (first
                | (go_at_call 42; exact Calls.fut_eq _ (rhead_any _ _ _ _ _ _ m _ _ _ _ _ _ _ _ (XP.out _) (XK.out _) hnc hcl) (congrArg Value.bool hh))
                | (go_at_call 43; exact Calls.fut_same _ (rslots_any _ _ _ _ (XP.out _) (by omega)))
                | (go_at_call 41; exact Calls.fut_same_eq _ (within_any _ _ _ _) (congrArg Value.bool (by first | exact ds | exact dl)))))
              refine wpQuiet_nil ?_
              rintro _ ⟨⟨w2, hw2⟩, rfl⟩
              go_wp2
              go_ret
              exact ⟨ret_bool HN.out.symm, (hg.out.trans HAL.out).trans hw2⟩
          · have hr' : (m.regs != 0) = true := by simpa using hr
            have ds := hh
            have dl := hh
            have HN : Hid (smayB f = false) := HBAD.out (sme_nums (by omega))
            go_wp2
            refine wp_region_fut (by kernel_rfl) (by kernel_rfl) fun hne => ?_
            repeat (go_big_quiet_step (first
              | (go_at_call 42; exact Calls.fut_eq _ (rhead_any _ _ _ _ _ _ m _ _ _ _ _ _ _ _ (XP.out _) (XK.out _) hnc hcl) (congrArg Value.bool hh))
              | (go_at_call 43; exact Calls.fut_same _ (rslots_any _ _ _ _ (XP.out _) (by omega)))
              | (go_at_call 41; exact Calls.fut_same_eq _ (within_any _ _ _ _) (congrArg Value.bool (by first | exact ds | exact dl)))))
            refine wpQuiet_nil ?_
            rintro _ ⟨⟨w2, hw2⟩, rfl⟩
            go_wp2
            go_ret
            exact ⟨ret_bool HN.out.symm, (hg.out.trans HAL.out).trans hw2⟩
      · obtain rfl : k = f.methods.length := by omega
        have HN : Hid (smayB f = true) := HG.out hgk.out
        go_wp2
        go_ret
        exact ⟨ret_bool HN.out.symm, hg.out⟩
  · have hb := smay_many (f := f) (by omega)
    rw [hb]
    have dn : decide (1 ≤ (f.methods.length : Int) ∧ (f.methods.length : Int) ≤ 8) = false := decide_eq_false hn
    go_enter Try.func15, Try.ntmps15
    go_wp2_with (first
      | (go_at_call 40; refine (rmay_any _ _ _ _ (HA.out.bl HW.out)).mono ?_; rintro e w1 ⟨he, g1⟩; rw [hm] at he; subst he; have q1 := (HF.out.bl g1).2; simp only [Nat.zero_add] at q1)
      | (go_at_call 41; refine (within_any _ _ _ _).mono ?_; rintro e w2 ⟨he, rfl⟩; rw [dn] at he; subst he))
    go_ret
    exact ⟨rfl, HW.out.trans g1⟩

end Go.Proofs.Ytgiiapenmjollab
