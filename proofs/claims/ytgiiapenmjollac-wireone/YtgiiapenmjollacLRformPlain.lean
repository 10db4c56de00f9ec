/-
  An instruction on registers, as the program tells it: plain facts.
-/
import Derived.Test.YtgiiapenmjollacLRegPlain
import Derived.Test.YtgiiapenmjollacLSformHead
namespace Go.Proofs.Ytgiiapenmjollac
open Go.RowKit

/-- Can a value of a kind stand in each of the registers? -/
def phldB (regs kind : Int) (rs : List Int) : Bool := decide (1 ≤ kind ∧ kind ≤ 3) && rs.all (fun r => decide (0 ≤ r ∧ r ≤ regs - widI kind))
/-- The kind of a field, or none. -/
def kofI (cs : List Cl) (c n : Int) : Int := if 0 ≤ c ∧ c < cs.length ∧ 0 ≤ n ∧ n < (nth cl0 cs c.toNat).fields.length then (nth ty0 (nth cl0 cs c.toNat).fields n.toNat).kind else 0
def pargsB (ms : List Me) (regs : Int) (i : In) : Bool :=
  decide (0 ≤ i.a ∧ i.a < ms.length ∧ i.args.length = (nth me0 ms i.a.toNat).params.length) &&
    (List.range i.args.length).all (fun k => phldB regs (nth ty0 (nth me0 ms i.a.toNat).params k).kind [nth (0 : Int) i.args k])
def pretB (regs ret a : Int) : Bool := if ret = 0 then decide (a = 0) else phldB regs ret [a]
/-- The fields that are registers. -/
def pregB (cs : List Cl) (ms : List Me) (regs ret : Int) (i : In) : Bool :=
  if i.op = 1 ∨ i.op = 3 ∨ i.op = 13 ∨ i.op = 16 ∨ i.op = 21 ∨ i.op = 22 then phldB regs 1 [i.a]
  else if i.op = 2 ∨ i.op = 24 then phldB regs 2 [i.a]
  else if i.op = 4 then phldB regs i.c [i.a, i.b]
  else if i.op = 5 then phldB regs 1 [i.a, i.b, i.c]
  else if i.op = 6 then phldB regs 2 [i.a, i.b, i.c]
  else if i.op = 7 then phldB regs 2 [i.a] && phldB regs 1 [i.b]
  else if i.op = 8 then phldB regs 1 [i.a] && phldB regs 2 [i.b]
  else if i.op = 9 then phldB regs 1 [i.a] && phldB regs 2 [i.b, i.c]
  else if i.op = 11 ∨ i.op = 12 then phldB regs 1 [i.c]
  else if i.op = 14 ∨ i.op = 15 then phldB regs (kofI cs i.c i.n) [i.a] && phldB regs 3 [i.b]
  else if i.op = 17 then phldB regs 1 [i.a, i.b]
  else if i.op = 18 then pargsB ms regs i
  else if i.op = 19 ∨ i.op = 23 then phldB regs i.b [i.a]
  else if i.op = 20 then pretB regs ret i.a
  else true
/-- The other numbers. -/
def pnumB (nc ncode : Nat) (i : In) : Bool :=
  if i.op = 1 then decide (-2147483648 ≤ i.n ∧ i.n ≤ 2147483647)
  else if i.op = 5 ∨ i.op = 6 then decide (1 ≤ i.n ∧ i.n ≤ 8)
  else if i.op = 10 ∨ i.op = 12 then decide (0 ≤ i.a ∧ i.a < ncode)
  else if i.op = 11 then decide (0 ≤ i.a ∧ i.a < ncode) && decide (1 ≤ i.b ∧ i.b ≤ 4)
  else if i.op = 13 ∨ i.op = 16 then decide (0 ≤ i.b ∧ i.b < nc)
  else if i.op = 17 then decide (0 ≤ i.c ∧ i.c < nc)
  else if i.op = 23 then decide (i.b ≠ 3)
  else true
def nmsB (op : Int) : Bool := decide (op = 4 ∨ op = 5 ∨ op = 6 ∨ op = 7 ∨ op = 8 ∨ op = 9 ∨ op = 11 ∨ op = 13 ∨ op = 14 ∨ op = 15 ∨ op = 16 ∨ op = 17 ∨ op = 19 ∨ op = 23)
def nmsC (op : Int) : Bool := decide (op = 4 ∨ op = 5 ∨ op = 6 ∨ op = 9 ∨ op = 11 ∨ op = 12 ∨ op = 14 ∨ op = 15 ∨ op = 17)
def nmsN (op : Int) : Bool := decide (op = 1 ∨ op = 2 ∨ op = 5 ∨ op = 6 ∨ op = 14 ∨ op = 15)
/-- What no row names. -/
def prestB (i : In) : Bool := (nmsB i.op || decide (i.b = 0)) && ((nmsC i.op || decide (i.c = 0)) && ((nmsN i.op || decide (i.n = 0)) && decide (i.op = 18 ∨ i.args.length = 0)))
def pinB (cs : List Cl) (ms : List Me) (ncode : Nat) (regs ret : Int) (i : In) : Bool :=
  decide (1 ≤ i.op ∧ i.op ≤ 24) && (pregB cs ms regs ret i && (pnumB cs.length ncode i && prestB i))

theorem phld_reg (regs kind n : Int) (h : 1 ≤ kind ∧ kind ≤ 3) : phldB regs kind [n] = regB regs n kind := by
  have : widI kind = if kind = 2 then 2 else 1 := by unfold widI; rw [if_neg (by omega)]
  unfold phldB regB; rw [decide_eq_true h, this]; simp
theorem phld_bad (regs kind : Int) (l : List Int) (h : ¬ (1 ≤ kind ∧ kind ≤ 3)) : phldB regs kind l = false := by unfold phldB; rw [decide_eq_false h]; rfl
theorem phld_two (regs kind a b : Int) : phldB regs kind [a, b] = (phldB regs kind [a] && phldB regs kind [b]) := by
  unfold phldB; cases decide (1 ≤ kind ∧ kind ≤ 3) <;> simp
theorem phld_three (regs kind a b c : Int) : phldB regs kind [a, b, c] = (phldB regs kind [a] && (phldB regs kind [b] && phldB regs kind [c])) := by
  unfold phldB; cases decide (1 ≤ kind ∧ kind ≤ 3) <;> simp

/-- Fields', results' and parameters' kinds are kinds. -/
structure KindsOk (cs : List Cl) (ms : List Me) (ret : Int) : Prop where
  fld : ∀ c, c < cs.length → ∀ n, n < (nth cl0 cs c).fields.length → 1 ≤ (nth ty0 (nth cl0 cs c).fields n).kind ∧ (nth ty0 (nth cl0 cs c).fields n).kind ≤ 3
  ret : 0 ≤ ret ∧ ret ≤ 3
  prm : ∀ m, m < ms.length → ∀ n, n < (nth me0 ms m).params.length → 1 ≤ (nth ty0 (nth me0 ms m).params n).kind ∧ (nth ty0 (nth me0 ms m).params n).kind ≤ 3

theorem pargs_eq {cs : List Cl} {ms : List Me} {ret : Int} (hk : KindsOk cs ms ret) (regs : Int) (i : In) : pargsB ms regs i =
    (decide (0 ≤ i.a ∧ i.a < ms.length ∧ i.args.length = (nth me0 ms i.a.toNat).params.length) &&
      (List.range i.args.length).all (fun k => regB regs (nth (0 : Int) i.args k) (nth ty0 (nth me0 ms i.a.toNat).params k).kind)) := by
  unfold pargsB
  by_cases h : 0 ≤ i.a ∧ i.a < ms.length ∧ i.args.length = (nth me0 ms i.a.toNat).params.length
  · rw [decide_eq_true h, Bool.true_and, Bool.true_and, Bool.eq_iff_iff, List.all_eq_true, List.all_eq_true]
    constructor
    · intro g x hx
      have := g x hx
      rw [List.mem_range] at hx
      rwa [phld_reg _ _ _ (hk.prm _ (by omega) _ (by omega))] at this
    · intro g x hx
      have := g x hx
      rw [List.mem_range] at hx
      rwa [phld_reg _ _ _ (hk.prm _ (by omega) _ (by omega))]
  · rw [decide_eq_false h, Bool.false_and, Bool.false_and]

set_option maxHeartbeats 4000000 in
theorem pin_is {cs : List Cl} {ms : List Me} {ret : Int} (hk : KindsOk cs ms ret) (ncode : Nat) (regs : Int) (i : In) :
    rinB cs ms ncode regs ret i = pinB cs ms ncode regs ret i := by
  have ha := pargs_eq hk regs i
  obtain ⟨op, a, b, c, n, args⟩ := i
  dsimp only at ha
  have w1 : widI 1 = 1 := rfl
  have w2 : widI 2 = 2 := rfl
  have w3 : widI 3 = 1 := rfl
  by_cases h : 1 ≤ op ∧ op ≤ 24
  · have : op = 1 ∨ op = 2 ∨ op = 3 ∨ op = 4 ∨ op = 5 ∨ op = 6 ∨ op = 7 ∨ op = 8 ∨ op = 9 ∨ op = 10 ∨ op = 11 ∨ op = 12 ∨ op = 13 ∨ op = 14 ∨ op = 15 ∨ op = 16 ∨ op = 17 ∨ op = 18 ∨ op = 19 ∨ op = 20 ∨ op = 21 ∨ op = 22 ∨ op = 23 ∨ op = 24 := by omega
    have kf : ∀ x y : Int, phldB regs (kofI cs x y) [a] = (decide (0 ≤ x ∧ x < cs.length ∧ 0 ≤ y ∧ y < (nth cl0 cs x.toNat).fields.length) && regB regs a (nth ty0 (nth cl0 cs x.toNat).fields y.toNat).kind) := by
      intro x y
      by_cases g : 0 ≤ x ∧ x < cs.length ∧ 0 ≤ y ∧ y < (nth cl0 cs x.toNat).fields.length
      · unfold kofI; rw [if_pos g, decide_eq_true g, phld_reg _ _ _ (hk.fld _ (by omega) _ (by omega))]; rfl
      · unfold kofI; rw [if_neg g, decide_eq_false g, phld_bad _ _ _ (by omega)]; rfl
    have kr : pretB regs ret a = if ret = 0 then decide (a = 0) else regB regs a ret := by
      unfold pretB
      by_cases g : ret = 0
      · rw [if_pos g, if_pos g]
      · have := hk.ret; rw [if_neg g, if_neg g, phld_reg _ _ _ (by omega)]
    have kc : ∀ k x : Int, phldB regs k [x] = (decide (1 ≤ k ∧ k ≤ 3) && regB regs x k) := by
      intro k x
      by_cases g : 1 ≤ k ∧ k ≤ 3
      · rw [phld_reg _ _ _ g, decide_eq_true g]; rfl
      · rw [phld_bad _ _ _ g, decide_eq_false g]; rfl
    clear hk
    rcases this with rfl | rfl | rfl | rfl | rfl | rfl | rfl | rfl | rfl | rfl | rfl | rfl | rfl | rfl | rfl | rfl | rfl | rfl | rfl | rfl | rfl | rfl | rfl | rfl
    all_goals
      simp only [rinB, kindsOf, pinB, pregB, pnumB, prestB, rrestB, rfldB, nmsB, nmsC, nmsN, phld_two, phld_three]
      simp only [ha, kf, kr]
      try simp only [kc]
      generalize args.length = L at *
      try generalize (List.range L).all _ = AL at *
      try generalize (nth me0 ms a.toNat).params.length = PL at *
      rw [Bool.eq_iff_iff]
      simp [regB]
      try first
        | ((repeat' split) <;> omega)
        | (cases AL <;> simp <;> omega)
  · have hn : kindsOf op = none := by
      unfold kindsOf
      repeat rw [if_neg (by omega)]
    have e : decide (1 ≤ op ∧ op ≤ 24) = false := decide_eq_false h
    unfold rinB pinB
    dsimp only
    rw [hn, e, Bool.false_and]

def proomB (m : Me) : Bool := decide (m.stack = 0) && (decide (m.locs = 0) && decide (max 1 (slotsN m.params : Int) ≤ m.regs ∧ m.regs ≤ 90))
def pcodeB (cs : List Cl) (ms : List Me) (m : Me) : Bool := decide (1 ≤ (m.code.length : Int) ∧ (m.code.length : Int) ≤ 2400) && m.code.all (pinB cs ms m.code.length m.regs m.ret.kind)
/-- A method, as the program tells it. -/
def pmeB (cs : List Cl) (ms : List Me) (m : Me) : Bool := mhB cs.length m && (proomB m && pcodeB cs ms m)
def pmayB (f : Fi) : Bool := mayB f.classes && (decide (1 ≤ (f.methods.length : Int) ∧ (f.methods.length : Int) ≤ 8) && f.methods.all (pmeB f.classes f.methods))

theorem rty_kind {nc : Nat} {t : Ty} (h : tyB nc t = true) : 1 ≤ t.kind ∧ t.kind ≤ 3 := by
  unfold tyB at h; rw [decide_eq_true_eq] at h; omega
theorem ret_kind {nc : Nat} {t : Ty} (h : retB nc t = true) : 0 ≤ t.kind ∧ t.kind ≤ 3 := by
  unfold retB tyB at h; rw [Bool.or_eq_true, decide_eq_true_eq, decide_eq_true_eq] at h; omega
theorem mh_prm {nc : Nat} {m : Me} (h : mhB nc m = true) : ∀ n, n < m.params.length → 1 ≤ (nth ty0 m.params n).kind ∧ (nth ty0 m.params n).kind ≤ 3 := by
  unfold mhB at h; rw [Bool.and_eq_true, Bool.and_eq_true] at h
  exact fun n hn => rty_kind (List.all_eq_true.1 h.2.1 _ (nth_mem (d := ty0) hn))
theorem mh_ret {nc : Nat} {m : Me} (h : mhB nc m = true) : 0 ≤ m.ret.kind ∧ m.ret.kind ≤ 3 := by
  unfold mhB at h; rw [Bool.and_eq_true, Bool.and_eq_true, Bool.and_eq_true] at h
  exact ret_kind h.2.2.1
theorem may_fkinds {cs : List Cl} (h : mayB cs = true) : ∀ c, c < cs.length → ∀ n, n < (nth cl0 cs c).fields.length → 1 ≤ (nth ty0 (nth cl0 cs c).fields n).kind ∧ (nth ty0 (nth cl0 cs c).fields n).kind ≤ 3 := by
  unfold mayB at h; rw [Bool.and_eq_true] at h
  intro c hc n hn
  have := List.all_eq_true.1 h.2 c (List.mem_range.2 hc)
  unfold clB at this; rw [Bool.and_eq_true] at this
  exact rty_kind (List.all_eq_true.1 this.2 _ (nth_mem (d := ty0) hn))

theorem all_same {α : Type} {p q : α → Bool} {l : List α} (h : ∀ x ∈ l, p x = q x) : l.all p = l.all q := by
  induction l with
  | nil => rfl
  | cons a l ih =>
    rw [List.all_cons, List.all_cons, h a (List.mem_cons_self ..), ih fun x hx => h x (List.mem_cons_of_mem _ hx)]

theorem rme_head_of {cs : List Cl} {ms : List Me} {m : Me} (h : rmeB cs ms m = true) : mhB cs.length m = true := by
  simp only [rmeB, headB, mhB, handsB, Bool.and_eq_true, decide_eq_true_eq] at h ⊢
  obtain ⟨⟨⟨⟨⟨⟨a, b, c, d⟩, e⟩, f⟩, g⟩, h, i, j, k, l⟩, o⟩ := h
  exact ⟨a, e, g, b, f⟩
theorem rme_parts {cs : List Cl} {ms : List Me} {m : Me} (hk : KindsOk cs ms m.ret.kind) : rmeB cs ms m = pmeB cs ms m := by
  have hi : m.code.all (rinB cs ms m.code.length m.regs m.ret.kind) = m.code.all (pinB cs ms m.code.length m.regs m.ret.kind) := all_same fun x _ => pin_is hk ..
  rw [Bool.eq_iff_iff]
  simp only [rmeB, pmeB, headB, mhB, proomB, pcodeB, handsB, Bool.and_eq_true, decide_eq_true_eq, hi]
  constructor
  · rintro ⟨⟨⟨⟨⟨⟨a, b, c, d⟩, e⟩, f⟩, g⟩, h, i, j, k, l⟩, o⟩
    exact ⟨⟨a, e, g, b, f⟩, ⟨h, i, by omega, k⟩, ⟨by omega, d⟩, o⟩
  · rintro ⟨⟨a, e, g, b, f⟩, ⟨h, i, j, k⟩, ⟨c, d⟩, o⟩
    exact ⟨⟨⟨⟨⟨⟨a, b, by omega, d⟩, e⟩, f⟩, g⟩, h, i, by omega, k, by omega⟩, o⟩

theorem pmay_is (f : Fi) : rfmayB f = pmayB f := by
  unfold rfmayB pmayB
  cases hm : mayB f.classes
  · rfl
  have hn : decide (1 ≤ f.methods.length ∧ f.methods.length ≤ 8) = decide (1 ≤ (f.methods.length : Int) ∧ (f.methods.length : Int) ≤ 8) := by
    rw [Bool.eq_iff_iff, decide_eq_true_eq, decide_eq_true_eq]; omega
  rw [hn, Bool.and_assoc]
  congr 2
  by_cases hh : ∀ m ∈ f.methods, mhB f.classes.length m = true
  · exact all_same fun m hmm => rme_parts ⟨may_fkinds hm, mh_ret (hh m hmm), fun k hk => mh_prm (hh _ (nth_mem (d := me0) hk))⟩
  · have e1 : f.methods.all (rmeB f.classes f.methods) = false := by
      rw [Bool.eq_false_iff]; intro hc
      exact hh fun m hmm => rme_head_of (List.all_eq_true.1 hc m hmm)
    have e2 : f.methods.all (pmeB f.classes f.methods) = false := by
      rw [Bool.eq_false_iff]; intro hc
      refine hh fun m hmm => ?_
      have := List.all_eq_true.1 hc m hmm
      unfold pmeB at this; rw [Bool.and_eq_true] at this; exact this.1
    rw [e1, e2]

end Go.Proofs.Ytgiiapenmjollac
