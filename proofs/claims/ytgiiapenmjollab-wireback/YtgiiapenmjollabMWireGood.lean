/-
  Classes and their types as plain lists, and where they lie in memory: what is read of a list of classes, cell by cell; it stays so when new memory is laid.
-/
import Derived.WalkKit
import Derived.RowKit3
import Derived.Deep.Slices
import Derived.Below
namespace Go.Proofs.Ytgiiapenmjollab
open Go.RowKit

structure Ty where
  kind : Int
  cls : Int
structure Cl where
  super : Int
  fields : List Ty
structure In where
  op : Int
  a : Int
  b : Int
  c : Int
  n : Int
  args : List Int
structure Hd where
  fr : Int
  til : Int
  pc : Int
  cls : Int
structure Me where
  params : List Ty
  ret : Ty
  stack : Int
  locs : Int
  regs : Int
  code : List In
  hands : List Hd
structure Fi where
  classes : List Cl
  methods : List Me
def ty0 : Ty := ⟨0, 0⟩
def cl0 : Cl := ⟨0, []⟩
def in0 : In := ⟨0, 0, 0, 0, 0, []⟩
def hd0 : Hd := ⟨0, 0, 0, 0⟩
def me0 : Me := ⟨[], ty0, 0, 0, 0, [], []⟩

/-- The element at a place. -/
def nth {α : Type} (d : α) (l : List α) (i : Nat) : α := l.getD i d
theorem nth_mem {α : Type} {d : α} {l : List α} {i : Nat} (h : i < l.length) : nth d l i ∈ l := by simp [nth, List.getD, h]
theorem nth_get {α : Type} {d : α} {l : List α} {i : Nat} (h : i < l.length) : nth d l i = l[i] := by simp [nth, List.getD, h]

def I64 (n : Int) : Prop := -9223372036854775808 ≤ n ∧ n ≤ 9223372036854775807

/-- Types in a row. -/
def TysAt (w : World) (A : Option Addr) (l : List Ty) : Prop :=
  l.length ≤ maxLen ∧ (l.length = 0 ∨ ∃ b off, A = some ⟨b, off, none⟩ ∧ ∀ i, i < l.length →
    w.cell? ⟨b, off + i * 2, none⟩ = some (.int .i64 (nth ty0 l i).kind) ∧ w.cell? ⟨b, off + i * 2 + 1, none⟩ = some (.int .i64 (nth ty0 l i).cls)
    ∧ I64 (nth ty0 l i).kind ∧ I64 (nth ty0 l i).cls)

/-- Classes in a row. -/
def ClsAt (w : World) (A : Option Addr) (l : List Cl) : Prop :=
  l.length ≤ maxLen ∧ (l.length = 0 ∨ ∃ b off, A = some ⟨b, off, none⟩ ∧ ∀ i, i < l.length →
    w.cell? ⟨b, off + i * 2, none⟩ = some (.int .i64 (nth cl0 l i).super) ∧ I64 (nth cl0 l i).super ∧
    ∃ A' c, w.cell? ⟨b, off + i * 2 + 1, none⟩ = some (.slice A' (nth cl0 l i).fields.length c) ∧ TysAt w A' (nth cl0 l i).fields)

/-- Numbers in a row. -/
def IntsAt (w : World) (A : Option Addr) (l : List Int) : Prop :=
  l.length ≤ maxLen ∧ (l.length = 0 ∨ ∃ b off, A = some ⟨b, off, none⟩ ∧ ∀ i, i < l.length → w.cell? ⟨b, off + i, none⟩ = some (.int .i64 (nth (0 : Int) l i)) ∧ I64 (nth (0 : Int) l i))

def In.ok (x : In) : Prop := I64 x.op ∧ I64 x.a ∧ I64 x.b ∧ I64 x.c ∧ I64 x.n
/-- Instructions in a row. -/
def InsAt (w : World) (A : Option Addr) (l : List In) : Prop :=
  l.length ≤ maxLen ∧ (l.length = 0 ∨ ∃ b off, A = some ⟨b, off, none⟩ ∧ ∀ i, i < l.length →
    w.cell? ⟨b, off + i * 6, none⟩ = some (.int .i64 (nth in0 l i).op) ∧ w.cell? ⟨b, off + i * 6 + 1, none⟩ = some (.int .i64 (nth in0 l i).a) ∧ w.cell? ⟨b, off + i * 6 + 2, none⟩ = some (.int .i64 (nth in0 l i).b)
    ∧ w.cell? ⟨b, off + i * 6 + 3, none⟩ = some (.int .i64 (nth in0 l i).c) ∧ w.cell? ⟨b, off + i * 6 + 4, none⟩ = some (.int .i64 (nth in0 l i).n) ∧ (nth in0 l i).ok
    ∧ ∃ A' c, w.cell? ⟨b, off + i * 6 + 5, none⟩ = some (.slice A' (nth in0 l i).args.length c) ∧ IntsAt w A' (nth in0 l i).args)

def Hd.ok (x : Hd) : Prop := I64 x.fr ∧ I64 x.til ∧ I64 x.pc ∧ I64 x.cls
/-- Handlers in a row. -/
def HdsAt (w : World) (A : Option Addr) (l : List Hd) : Prop :=
  l.length ≤ maxLen ∧ (l.length = 0 ∨ ∃ b off, A = some ⟨b, off, none⟩ ∧ ∀ i, i < l.length →
    w.cell? ⟨b, off + i * 4, none⟩ = some (.int .i64 (nth hd0 l i).fr) ∧ w.cell? ⟨b, off + i * 4 + 1, none⟩ = some (.int .i64 (nth hd0 l i).til) ∧ w.cell? ⟨b, off + i * 4 + 2, none⟩ = some (.int .i64 (nth hd0 l i).pc)
    ∧ w.cell? ⟨b, off + i * 4 + 3, none⟩ = some (.int .i64 (nth hd0 l i).cls) ∧ (nth hd0 l i).ok)

def Me.ok (x : Me) : Prop := I64 x.ret.kind ∧ I64 x.ret.cls ∧ I64 x.stack ∧ I64 x.locs ∧ I64 x.regs
/-- What lies behind a method's three lists. -/
def MeAt (w : World) (m : Me) (P C K : Option Addr) : Prop := TysAt w P m.params ∧ InsAt w C m.code ∧ HdsAt w K m.hands ∧ m.ok
/-- Methods in a row. -/
def MesAt (w : World) (A : Option Addr) (l : List Me) : Prop :=
  l.length ≤ maxLen ∧ (l.length = 0 ∨ ∃ b off, A = some ⟨b, off, none⟩ ∧ ∀ i, i < l.length → ∃ P C K p c k,
    w.cell? ⟨b, off + i * 8, none⟩ = some (.slice P (nth me0 l i).params.length p) ∧ w.cell? ⟨b, off + i * 8 + 1, none⟩ = some (.int .i64 (nth me0 l i).ret.kind) ∧ w.cell? ⟨b, off + i * 8 + 2, none⟩ = some (.int .i64 (nth me0 l i).ret.cls)
    ∧ w.cell? ⟨b, off + i * 8 + 3, none⟩ = some (.int .i64 (nth me0 l i).stack) ∧ w.cell? ⟨b, off + i * 8 + 4, none⟩ = some (.int .i64 (nth me0 l i).locs) ∧ w.cell? ⟨b, off + i * 8 + 5, none⟩ = some (.int .i64 (nth me0 l i).regs)
    ∧ w.cell? ⟨b, off + i * 8 + 6, none⟩ = some (.slice C (nth me0 l i).code.length c) ∧ w.cell? ⟨b, off + i * 8 + 7, none⟩ = some (.slice K (nth me0 l i).hands.length k) ∧ MeAt w (nth me0 l i) P C K)

/-- Whatever lay when a call began lies as it lay. -/
def Bl (w w' : World) : Prop := Below w.heap.size w w'
theorem Bl.refl (w : World) : Bl w w := Below.refl _ _
theorem Bl.trans {a b c : World} (h : Bl a b) (k : Bl b c) : Bl a c := Below.trans h (Below.mono k h.size)
theorem Bl.alloc {a w : World} (h : Bl a w) (o : Obj) : Bl a (w.alloc o) := Below.alloc h h.size o
theorem Bl.drew {a w : World} (h : Bl a w) : Bl a w.drew := Below.drew h
theorem Bl.setCell {a w : World} (h : Bl a w) {p : Addr} (hp : a.heap.size ≤ p.block) (u : Value) : Bl a (w.setCell p u) := Below.setCell h hp u
theorem Bl.size {a w : World} (h : Bl a w) : a.heap.size ≤ w.heap.size := Below.size h
theorem cell_lt {w : World} {b o : Nat} {v : Value} (hc : w.cell? ⟨b, o, none⟩ = some v) : b < w.heap.size := by
  by_cases hb : b < w.heap.size
  · exact hb
  · simp [World.cell?, hb] at hc
theorem cell_of_new {w : World} {cs : Array Value} {t : TypeId} {o : Nat} {v : Value} (h : cs[o]? = some v) : (w.alloc (.cells cs t)).cell? ⟨w.heap.size, o, none⟩ = some v := by
  have e : (w.alloc (.cells cs t)).heap[w.heap.size]? = some (.cells cs t) := by
    show (w.heap.push _)[w.heap.size]? = _
    simp
  unfold World.cell?
  rw [e]
  simpa using h
theorem Bl.cell {W w' : World} (h : Bl W w') {b o : Nat} {v : Value} (hc : W.cell? ⟨b, o, none⟩ = some v) : w'.cell? ⟨b, o, none⟩ = some v :=
  (Below.cell h (p := ⟨b, o, none⟩) (cell_lt hc)).trans hc

theorem IntsAt.bl {W w' : World} (h : Bl W w') {A : Option Addr} {l : List Int} (hl : IntsAt W A l) : IntsAt w' A l := by
  refine ⟨hl.1, ?_⟩
  rcases hl.2 with h0 | ⟨b, off, rfl, hi⟩
  · exact Or.inl h0
  right
  exact ⟨b, off, rfl, fun i hlt => ⟨h.cell (hi i hlt).1, (hi i hlt).2⟩⟩

theorem InsAt.bl {W w' : World} (h : Bl W w') {A : Option Addr} {l : List In} (hl : InsAt W A l) : InsAt w' A l := by
  refine ⟨hl.1, ?_⟩
  rcases hl.2 with h0 | ⟨b, off, rfl, hi⟩
  · exact Or.inl h0
  right
  refine ⟨b, off, rfl, fun i hlt => ?_⟩
  obtain ⟨h0, h1, h2, h3, h4, h5, A', c, h6, h7⟩ := hi i hlt
  exact ⟨h.cell h0, h.cell h1, h.cell h2, h.cell h3, h.cell h4, h5, A', c, h.cell h6, h7.bl h⟩

theorem HdsAt.bl {W w' : World} (h : Bl W w') {A : Option Addr} {l : List Hd} (hl : HdsAt W A l) : HdsAt w' A l := by
  refine ⟨hl.1, ?_⟩
  rcases hl.2 with h0 | ⟨b, off, rfl, hi⟩
  · exact Or.inl h0
  right
  refine ⟨b, off, rfl, fun i hlt => ?_⟩
  obtain ⟨h0, h1, h2, h3, h4⟩ := hi i hlt
  exact ⟨h.cell h0, h.cell h1, h.cell h2, h.cell h3, h4⟩

theorem TysAt.bl {W w' : World} (h : Bl W w') {A : Option Addr} {l : List Ty} (hl : TysAt W A l) : TysAt w' A l := by
  refine ⟨hl.1, ?_⟩
  rcases hl.2 with h0 | ⟨b, off, rfl, hi⟩
  · exact Or.inl h0
  right
  exact ⟨b, off, rfl, fun i hlt => ⟨h.cell (hi i hlt).1, h.cell (hi i hlt).2.1, (hi i hlt).2.2⟩⟩

theorem ClsAt.bl {W w' : World} (h : Bl W w') {A : Option Addr} {l : List Cl} (hl : ClsAt W A l) : ClsAt w' A l := by
  refine ⟨hl.1, ?_⟩
  rcases hl.2 with h0 | ⟨b, off, rfl, hi⟩
  · exact Or.inl h0
  right
  refine ⟨b, off, rfl, fun i hlt => ⟨h.cell (hi i hlt).1, (hi i hlt).2.1, ?_⟩⟩
  obtain ⟨A', c, h1, h2⟩ := (hi i hlt).2.2
  exact ⟨A', c, h.cell h1, h2.bl h⟩

theorem MeAt.bl {W w' : World} (h : Bl W w') {m : Me} {P C K : Option Addr} (hl : MeAt W m P C K) : MeAt w' m P C K :=
  ⟨hl.1.bl h, hl.2.1.bl h, hl.2.2.1.bl h, hl.2.2.2⟩

theorem MesAt.bl {W w' : World} (h : Bl W w') {A : Option Addr} {l : List Me} (hl : MesAt W A l) : MesAt w' A l := by
  refine ⟨hl.1, ?_⟩
  rcases hl.2 with h0 | ⟨b, off, rfl, hi⟩
  · exact Or.inl h0
  right
  refine ⟨b, off, rfl, fun i hlt => ?_⟩
  obtain ⟨P, C, K, p, c, k, h0, h1, h2, h3, h4, h5, h6, h7, h8⟩ := hi i hlt
  exact ⟨P, C, K, p, c, k, h.cell h0, h.cell h1, h.cell h2, h.cell h3, h.cell h4, h.cell h5, h.cell h6, h.cell h7, h8.bl h⟩

/-- May a type be that of a value, among n classes? -/
def tyB (n : Nat) (t : Ty) : Bool := decide ((t.kind = 3 ∧ 0 ≤ t.cls ∧ t.cls < n) ∨ ((t.kind = 1 ∨ t.kind = 2) ∧ t.cls = 0))

/-- Is the class i as it may be? -/
def clB (l : List Cl) (i : Nat) : Bool :=
  decide ((i = 0 ∨ (0 ≤ (nth cl0 l i).super ∧ (nth cl0 l i).super < i)) ∧ (nth cl0 l i).fields.length ≤ 6) && (nth cl0 l i).fields.all (tyB l.length)
/-- May the classes be? -/
def mayB (l : List Cl) : Bool := decide (4 ≤ l.length ∧ l.length ≤ 12 ∧ (nth cl0 l 0).super = -1) && (List.range l.length).all (clB l)

theorem may_few {l : List Cl} (h : l.length < 4 ∨ 12 < l.length ∨ (nth cl0 l 0).super ≠ -1) : mayB l = false := by
  have : ¬ (4 ≤ l.length ∧ l.length ≤ 12 ∧ (nth cl0 l 0).super = -1) := by omega
  unfold mayB; rw [decide_eq_false this]; rfl
theorem may_cl {l : List Cl} {i : Nat} (hi : i < l.length) (h : clB l i = false) : mayB l = false := by
  have : (List.range l.length).all (clB l) = false := by
    rw [List.all_eq_false]; exact ⟨i, by simpa using hi, by simp [h]⟩
  simp [mayB, this]
theorem cl_bad {l : List Cl} {i : Nat} (h : ¬ ((i = 0 ∨ (0 ≤ (nth cl0 l i).super ∧ (nth cl0 l i).super < i)) ∧ (nth cl0 l i).fields.length ≤ 6)) : clB l i = false := by
  unfold clB; rw [decide_eq_false h]; rfl
theorem cl_ty {l : List Cl} {i k : Nat} (hk : k < (nth cl0 l i).fields.length) (h : tyB l.length (nth ty0 (nth cl0 l i).fields k) = false) : clB l i = false := by
  have : (nth cl0 l i).fields.all (tyB l.length) = false := by
    rw [List.all_eq_false]
    exact ⟨nth ty0 (nth cl0 l i).fields k, nth_mem hk, by rw [h]; decide⟩
  unfold clB; rw [this, Bool.and_false]
theorem cl_good {l : List Cl} {i : Nat} (h : (i = 0 ∨ (0 ≤ (nth cl0 l i).super ∧ (nth cl0 l i).super < i)) ∧ (nth cl0 l i).fields.length ≤ 6)
    (ht : ∀ k, k < (nth cl0 l i).fields.length → tyB l.length (nth ty0 (nth cl0 l i).fields k) = true) : clB l i = true := by
  have : (nth cl0 l i).fields.all (tyB l.length) = true := by
    generalize (nth cl0 l i).fields = f at ht
    rw [List.all_eq_true]
    intro x hx
    obtain ⟨k, hk, rfl⟩ := List.getElem_of_mem hx
    rw [← nth_get hk]; exact ht k hk
  unfold clB; rw [this, decide_eq_true h]; rfl
theorem may_good {l : List Cl} (h : 4 ≤ l.length ∧ l.length ≤ 12 ∧ (nth cl0 l 0).super = -1) (hc : ∀ i, i < l.length → clB l i = true) : mayB l = true := by
  have : (List.range l.length).all (clB l) = true := by
    rw [List.all_eq_true]; intro i hi; exact hc i (by simpa using hi)
  unfold mayB; rw [this, decide_eq_true h]; rfl

end Go.Proofs.Ytgiiapenmjollab
namespace Go.Proofs.Ytgiiapenmjollab
open Go.RowKit

/-- How many slots types take. -/
def slotsN : List Ty → Nat
  | [] => 0
  | t :: l => (if t.kind = 2 then 2 else 1) + slotsN l
def hdB (nc n : Nat) (h : Hd) : Bool := decide (0 ≤ h.fr ∧ h.fr < h.til ∧ h.til ≤ n ∧ 0 ≤ h.pc ∧ h.pc < n ∧ 0 ≤ h.cls ∧ h.cls < nc)
def retB (nc : Nat) (t : Ty) : Bool := decide (t.kind = 0 ∧ t.cls = 0) || tyB nc t
/-- What both forms have in common of a method. -/
def headB (nc : Nat) (m : Me) (most : Int) : Bool :=
  decide (m.params.length ≤ 4 ∧ m.hands.length ≤ 8 ∧ 1 ≤ m.code.length ∧ (m.code.length : Int) ≤ most) && m.params.all (tyB nc) && m.hands.all (hdB nc m.code.length) && retB nc m.ret

/-- An instruction on a stack. -/
def sinB (cs : List Cl) (nm ncode : Nat) (locs : Int) (i : In) : Bool :=
  decide (i.c = 0 ∧ i.args.length = 0) &&
  (if i.op = 1 then decide (i.a = 0 ∧ i.b = 0 ∧ -2147483648 ≤ i.n ∧ i.n ≤ 2147483647)
  else if i.op = 2 then decide (i.a = 0 ∧ i.b = 0)
  else decide (i.n = 0) &&
    (if i.op = 4 ∨ i.op = 5 then decide ((i.b = 2 ∧ 0 ≤ i.a ∧ i.a ≤ locs - 2) ∨ ((i.b = 1 ∨ i.b = 3) ∧ 0 ≤ i.a ∧ i.a < locs))
    else if i.op = 12 then decide (0 ≤ i.a ∧ i.a < ncode ∧ 1 ≤ i.b ∧ i.b ≤ 4)
    else if i.op = 15 ∨ i.op = 16 then decide (0 ≤ i.a ∧ i.a < cs.length ∧ 0 ≤ i.b ∧ i.b < (nth cl0 cs i.a.toNat).fields.length)
    else decide (i.b = 0) &&
      (if i.op = 3 ∨ i.op = 8 ∨ i.op = 9 ∨ i.op = 10 ∨ i.op = 20 ∨ i.op = 21 ∨ i.op = 22 ∨ i.op = 23 ∨ i.op = 25 then decide (i.a = 0)
      else if i.op = 6 ∨ i.op = 7 then decide (1 ≤ i.a ∧ i.a ≤ 8)
      else if i.op = 11 ∨ i.op = 13 then decide (0 ≤ i.a ∧ i.a < ncode)
      else if i.op = 14 ∨ i.op = 17 ∨ i.op = 18 then decide (0 ≤ i.a ∧ i.a < cs.length)
      else if i.op = 19 then decide (0 ≤ i.a ∧ i.a < nm)
      else if i.op = 24 then decide (1 ≤ i.a ∧ i.a ≤ 2)
      else false)))

/-- A method on a stack, among classes and so many methods. -/
def smeB (cs : List Cl) (nm : Nat) (m : Me) : Bool :=
  headB cs.length m 400 && decide (m.regs = 0 ∧ 0 ≤ m.stack ∧ m.stack ≤ 30 ∧ (slotsN m.params : Int) ≤ m.locs ∧ m.locs ≤ 60) && m.code.all (sinB cs nm m.code.length m.locs)
/-- A file on a stack. -/
def smayB (f : Fi) : Bool := mayB f.classes && decide (1 ≤ f.methods.length ∧ f.methods.length ≤ 8) && f.methods.all (smeB f.classes f.methods.length)

theorem all_bad {α : Type} {d : α} {p : α → Bool} {l : List α} {k : Nat} (hk : k < l.length) (h : p (nth d l k) = false) : l.all p = false := by
  rw [List.all_eq_false]
  exact ⟨nth d l k, nth_mem hk, by rw [h]; decide⟩
theorem all_good {α : Type} {d : α} {p : α → Bool} {l : List α} (h : ∀ k, k < l.length → p (nth d l k) = true) : l.all p = true := by
  rw [List.all_eq_true]
  intro x hx
  obtain ⟨k, hk, rfl⟩ := List.getElem_of_mem hx
  rw [← nth_get (d := d) hk]; exact h k hk

theorem slotsN_le (l : List Ty) : slotsN l ≤ 2 * l.length := by
  induction l with
  | nil => simp [slotsN]
  | cons t l ih => simp only [slotsN, List.length_cons]; split <;> omega
theorem slotsN_take (l : List Ty) (k : Nat) (h : k < l.length) : slotsN (l.take (k + 1)) = slotsN (l.take k) + (if (nth ty0 l k).kind = 2 then 2 else 1) := by
  induction l generalizing k with
  | nil => simp at h
  | cons t l ih =>
    cases k with
    | zero => simp [slotsN, nth]
    | succ k =>
      have := ih k (by simpa using h)
      have e : nth ty0 (t :: l) (k + 1) = nth ty0 l k := by simp [nth]
      rw [e, List.take_succ_cons, List.take_succ_cons, slotsN, slotsN, this]; omega

end Go.Proofs.Ytgiiapenmjollab
namespace Go.Proofs.Ytgiiapenmjollab
open Go.RowKit

/-- May a number be a register's, of a kind? -/
def regB (regs n kind : Int) : Bool := decide (0 ≤ n ∧ n ≤ regs - (if kind = 2 then 2 else 1))
/-- Which of an instruction's three fields are registers, and of which kinds. -/
def kindsOf (op : Int) : Option (Int × Int × Int) :=
  if op = 1 then some (1, 0, 0)
  else if op = 2 then some (2, 0, 0)
  else if op = 3 then some (3, 0, 0)
  else if op = 4 then some (-1, -1, -1)
  else if op = 5 then some (1, 1, 1)
  else if op = 6 then some (2, 2, 2)
  else if op = 7 then some (2, 1, 0)
  else if op = 8 then some (1, 2, 0)
  else if op = 9 then some (1, 2, 2)
  else if op = 10 then some (-1, 0, 0)
  else if op = 11 then some (-1, -1, 1)
  else if op = 12 then some (-1, 0, 3)
  else if op = 13 then some (3, -1, 0)
  else if op = 14 then some (-1, 3, -1)
  else if op = 15 then some (-1, 3, -1)
  else if op = 16 then some (3, -1, 0)
  else if op = 17 then some (1, 3, -1)
  else if op = 18 then some (-1, 0, 0)
  else if op = 19 then some (-1, -1, 0)
  else if op = 20 then some (-1, 0, 0)
  else if op = 21 then some (3, 0, 0)
  else if op = 22 then some (3, 0, 0)
  else if op = 23 then some (-1, -1, 0)
  else if op = 24 then some (2, 0, 0)
  else none
/-- Is a field as its kind asks? -/
def rfldB (regs n kind : Int) : Bool := if kind = 0 then decide (n = 0) else if 0 < kind then regB regs n kind else true

/-- What else is asked of an instruction on registers. -/
def rrestB (cs : List Cl) (ms : List Me) (ncode : Nat) (regs ret : Int) (i : In) : Bool :=
  decide (i.op = 18 ∨ i.args.length = 0) &&
  (if i.op = 14 ∨ i.op = 15 then decide (0 ≤ i.c ∧ i.c < cs.length ∧ 0 ≤ i.n ∧ i.n < (nth cl0 cs i.c.toNat).fields.length) && regB regs i.a (nth ty0 (nth cl0 cs i.c.toNat).fields i.n.toNat).kind
  else if i.op = 1 then decide (-2147483648 ≤ i.n ∧ i.n ≤ 2147483647)
  else if i.op = 2 then true
  else if i.op = 5 ∨ i.op = 6 then decide (1 ≤ i.n ∧ i.n ≤ 8)
  else decide (i.n = 0) &&
    (if i.op = 4 then decide (1 ≤ i.c ∧ i.c ≤ 3) && regB regs i.a i.c && regB regs i.b i.c
    else if i.op = 10 ∨ i.op = 12 then decide (0 ≤ i.a ∧ i.a < ncode)
    else if i.op = 11 then decide (0 ≤ i.a ∧ i.a < ncode ∧ 1 ≤ i.b ∧ i.b ≤ 4)
    else if i.op = 13 ∨ i.op = 16 then decide (0 ≤ i.b ∧ i.b < cs.length)
    else if i.op = 17 then decide (0 ≤ i.c ∧ i.c < cs.length)
    else if i.op = 19 then decide (1 ≤ i.b ∧ i.b ≤ 3) && regB regs i.a i.b
    else if i.op = 23 then decide (1 ≤ i.b ∧ i.b ≤ 2) && regB regs i.a i.b
    else if i.op = 20 then (if ret = 0 then decide (i.a = 0) else regB regs i.a ret)
    else if i.op = 18 then decide (0 ≤ i.a ∧ i.a < ms.length ∧ i.args.length = (nth me0 ms i.a.toNat).params.length) &&
      (List.range i.args.length).all (fun k => regB regs (nth (0 : Int) i.args k) (nth ty0 (nth me0 ms i.a.toNat).params k).kind)
    else true))

/-- An instruction on registers. -/
def rinB (cs : List Cl) (ms : List Me) (ncode : Nat) (regs ret : Int) (i : In) : Bool :=
  match kindsOf i.op with
  | none => false
  | some (x, y, z) => rfldB regs i.a x && rfldB regs i.b y && rfldB regs i.c z && rrestB cs ms ncode regs ret i

/-- A method on registers. -/
def rmeB (cs : List Cl) (ms : List Me) (m : Me) : Bool :=
  headB cs.length m 2400 && decide (m.stack = 0 ∧ m.locs = 0 ∧ 1 ≤ m.regs ∧ m.regs ≤ 90 ∧ (slotsN m.params : Int) ≤ m.regs) && m.code.all (rinB cs ms m.code.length m.regs m.ret.kind)
/-- A file on registers. -/
def rfmayB (f : Fi) : Bool := mayB f.classes && decide (1 ≤ f.methods.length ∧ f.methods.length ≤ 8) && f.methods.all (rmeB f.classes f.methods)

end Go.Proofs.Ytgiiapenmjollab
namespace Go.Proofs.Ytgiiapenmjollab
open Go.RowKit

theorem forms_apart (f : Fi) (h : smayB f = true) (k : rfmayB f = true) : False := by
  unfold smayB at h; unfold rfmayB at k
  simp only [Bool.and_eq_true, decide_eq_true_eq] at h k
  have h1 : 0 < f.methods.length := by omega
  have hs := List.all_eq_true.1 h.2 _ (nth_mem (d := me0) h1)
  have hr := List.all_eq_true.1 k.2 _ (nth_mem (d := me0) h1)
  unfold smeB at hs; unfold rmeB at hr
  simp only [Bool.and_eq_true, decide_eq_true_eq] at hs hr
  omega

end Go.Proofs.Ytgiiapenmjollab
namespace Go.Proofs.Ytgiiapenmjollab
open Go.RowKit

def BY (n : Int) : Prop := 0 ≤ n ∧ n < 256
def Bys (l : List Int) : Prop := ∀ x ∈ l, BY x
/-- Eight bytes, the highest first. -/
def wideL (n : Int) : List Int := [n / 72057594037927936 % 256, n / 281474976710656 % 256, n / 1099511627776 % 256, n / 4294967296 % 256, n / 16777216 % 256, n / 65536 % 256, n / 256 % 256, n % 256]
def encL {α : Type} (e : α → List Int) (l : List α) : List Int := wideL l.length ++ (l.map e).flatten
def encTy (t : Ty) : List Int := wideL t.kind ++ wideL t.cls
def encCl (c : Cl) : List Int := wideL c.super ++ encL encTy c.fields
def encIn (i : In) : List Int := wideL i.op ++ (wideL i.a ++ (wideL i.b ++ (wideL i.c ++ (wideL i.n ++ encL wideL i.args))))
def encHd (h : Hd) : List Int := wideL h.fr ++ (wideL h.til ++ (wideL h.pc ++ wideL h.cls))
def encMe (m : Me) : List Int := encL encTy m.params ++ (encTy m.ret ++ (wideL m.stack ++ (wideL m.locs ++ (wideL m.regs ++ (encL encIn m.code ++ encL encHd m.hands)))))
def encFi (f : Fi) : List Int := encL encCl f.classes ++ encL encMe f.methods
/-- The bytes of a file, if it may be. -/
def putP (f : Fi) : Option (List Int) := if smayB f = true then some (1 :: encFi f) else if rfmayB f = true then some (2 :: encFi f) else none

theorem wide_len (n : Int) : (wideL n).length = 8 := rfl
theorem wide_by (n : Int) : Bys (wideL n) := by
  intro x hx
  unfold wideL at hx
  simp only [List.mem_cons, List.not_mem_nil, or_false] at hx
  unfold BY
  rcases hx with rfl | rfl | rfl | rfl | rfl | rfl | rfl | rfl <;> omega
theorem Bys.append {a b : List Int} (h : Bys a) (k : Bys b) : Bys (a ++ b) := by
  intro x hx
  rcases List.mem_append.1 hx with h1 | h1
  · exact h x h1
  · exact k x h1
theorem Bys.flat {α : Type} {e : α → List Int} (h : ∀ x, Bys (e x)) (l : List α) : Bys (l.map e).flatten := by
  intro x hx
  simp only [List.mem_flatten, List.mem_map] at hx
  obtain ⟨_, ⟨y, _, rfl⟩, hy⟩ := hx
  exact h y x hy
theorem encL_by {α : Type} {e : α → List Int} (h : ∀ x, Bys (e x)) (l : List α) : Bys (encL e l) := (wide_by _).append (Bys.flat h l)
theorem encTy_by (t : Ty) : Bys (encTy t) := (wide_by _).append (wide_by _)
theorem encCl_by (c : Cl) : Bys (encCl c) := (wide_by _).append (encL_by encTy_by _)
theorem encIn_by (i : In) : Bys (encIn i) := (wide_by _).append ((wide_by _).append ((wide_by _).append ((wide_by _).append ((wide_by _).append (encL_by wide_by _)))))
theorem encHd_by (h : Hd) : Bys (encHd h) := (wide_by _).append ((wide_by _).append ((wide_by _).append (wide_by _)))
theorem encMe_by (m : Me) : Bys (encMe m) := (encL_by encTy_by _).append ((encTy_by _).append ((wide_by _).append ((wide_by _).append ((wide_by _).append ((encL_by encIn_by _).append (encL_by encHd_by _))))))
theorem encFi_by (f : Fi) : Bys (encFi f) := (encL_by encCl_by _).append (encL_by encMe_by _)
theorem putP_by {f : Fi} {b : List Int} (h : putP f = some b) : Bys b := by
  have k := encFi_by f
  unfold putP at h
  intro x hx
  split at h
  · injection h with h; subst h
    rcases List.mem_cons.1 hx with rfl | hx
    · unfold BY; omega
    · exact k x hx
  · split at h
    · injection h with h; subst h
      rcases List.mem_cons.1 hx with rfl | hx
      · unfold BY; omega
      · exact k x hx
    · cases h

/-- What eight bytes come to. -/
def valU (l : List Int) : Int := l.foldl (fun a b => a * 256 + b) 0
def valN (l : List Int) : Int := wrap64 (valU l)
abbrev Pa (α : Type) : Type := List Int → Option (α × List Int)
def pN : Pa Int := fun l => if 8 ≤ l.length then some (valN (l.take 8), l.drop 8) else none
def pMany {α : Type} (p : Pa α) : Nat → Pa (List α)
  | 0, l => some ([], l)
  | k + 1, l => (p l).bind fun x => (pMany p k x.2).bind fun y => some (x.1 :: y.1, y.2)
def pL {α : Type} (most : Int) (p : Pa α) : Pa (List α) := fun l => (pN l).bind fun x => if 0 ≤ x.1 ∧ x.1 ≤ most then pMany p x.1.toNat x.2 else none
/-- How many items each list may have. -/
structure Bd where
  cs : Int
  fs : Int
  ms : Int
  ps : Int
  co : Int
  hs : Int
  gs : Int
def pTy : Pa Ty := fun l => (pN l).bind fun k => (pN k.2).bind fun c => some (⟨k.1, c.1⟩, c.2)
def pCl (d : Bd) : Pa Cl := fun l => (pN l).bind fun s => (pL d.fs pTy s.2).bind fun t => some (⟨s.1, t.1⟩, t.2)
def pIn (d : Bd) : Pa In := fun l => (pN l).bind fun o => (pN o.2).bind fun a => (pN a.2).bind fun b => (pN b.2).bind fun c => (pN c.2).bind fun n => (pL d.gs pN n.2).bind fun g => some (⟨o.1, a.1, b.1, c.1, n.1, g.1⟩, g.2)
def pHd : Pa Hd := fun l => (pN l).bind fun a => (pN a.2).bind fun b => (pN b.2).bind fun c => (pN c.2).bind fun d => some (⟨a.1, b.1, c.1, d.1⟩, d.2)
def pMe (d : Bd) : Pa Me := fun l => (pL d.ps pTy l).bind fun p => (pTy p.2).bind fun t => (pN t.2).bind fun s => (pN s.2).bind fun o => (pN o.2).bind fun r =>
  (pL d.co (pIn d) r.2).bind fun c => (pL d.hs pHd c.2).bind fun h => some (⟨p.1, t.1, s.1, o.1, r.1, c.1, h.1⟩, h.2)
def pFi (d : Bd) : Pa Fi := fun l => (pL d.cs (pCl d) l).bind fun c => (pL d.ms (pMe d) c.2).bind fun m => some (⟨c.1, m.1⟩, m.2)

theorem val_of_wide (n : Int) (h : I64 n) : valN (wideL n) = n := by
  unfold valN valU wideL
  simp only [List.foldl_cons, List.foldl_nil]
  unfold I64 at h
  unfold wrap64
  omega
theorem wide_of_val (a b c d e f g h : Int) (ha : BY a) (hb : BY b) (hc : BY c) (hd : BY d) (he : BY e) (hf : BY f) (hg : BY g) (hh : BY h) : wideL (valN [a, b, c, d, e, f, g, h]) = [a, b, c, d, e, f, g, h] := by
  unfold valN valU
  simp only [List.foldl_cons, List.foldl_nil]
  unfold BY at *
  generalize hx1 : 0 * 256 + a = x1
  generalize hx2 : x1 * 256 + b = x2
  generalize hx3 : x2 * 256 + c = x3
  generalize hx4 : x3 * 256 + d = x4
  generalize hx5 : x4 * 256 + e = x5
  generalize hx6 : x5 * 256 + f = x6
  generalize hx7 : x6 * 256 + g = x7
  generalize hx8 : x7 * 256 + h = x8
  obtain ⟨q, hq⟩ : ∃ q : Int, wrap64 x8 = x8 + 18446744073709551616 * q := by
    unfold wrap64
    exact ⟨(((x8 + 9223372036854775808) % 18446744073709551616 - 9223372036854775808) - x8) / 18446744073709551616, by omega⟩
  rw [hq]
  unfold wideL
  have e0 : (x8 + 18446744073709551616 * q) % 256 = h := by omega
  have e1 : (x8 + 18446744073709551616 * q) / 256 = x7 + 72057594037927936 * q := by omega
  have e2 : (x8 + 18446744073709551616 * q) / 65536 = x6 + 281474976710656 * q := by omega
  have e3 : (x8 + 18446744073709551616 * q) / 16777216 = x5 + 1099511627776 * q := by omega
  have e4 : (x8 + 18446744073709551616 * q) / 4294967296 = x4 + 4294967296 * q := by omega
  have e5 : (x8 + 18446744073709551616 * q) / 1099511627776 = x3 + 16777216 * q := by omega
  have e6 : (x8 + 18446744073709551616 * q) / 281474976710656 = x2 + 65536 * q := by omega
  have e7 : (x8 + 18446744073709551616 * q) / 72057594037927936 = x1 + 256 * q := by omega
  rw [e0, e1, e2, e3, e4, e5, e6, e7]
  have f1 : (x7 + 72057594037927936 * q) % 256 = g := by omega
  have f2 : (x6 + 281474976710656 * q) % 256 = f := by omega
  have f3 : (x5 + 1099511627776 * q) % 256 = e := by omega
  have f4 : (x4 + 4294967296 * q) % 256 = d := by omega
  have f5 : (x3 + 16777216 * q) % 256 = c := by omega
  have f6 : (x2 + 65536 * q) % 256 = b := by omega
  have f7 : (x1 + 256 * q) % 256 = a := by omega
  rw [f1, f2, f3, f4, f5, f6, f7]
theorem val_i64 (l : List Int) : I64 (valN l) := by
  unfold valN I64 wrap64
  omega

theorem eight {l : List Int} (h : 8 ≤ l.length) : ∃ a b c d e f g k r, l = a :: b :: c :: d :: e :: f :: g :: k :: r := by
  match l, h with
  | a :: b :: c :: d :: e :: f :: g :: k :: r, _ => exact ⟨a, b, c, d, e, f, g, k, r, rfl⟩

/-- A length that a number can tell. -/
def Fits (n : Nat) : Prop := (n : Int) ≤ 9223372036854775807
/-- Reading undoes writing. -/
def Und {α : Type} (p : Pa α) (e : α → List Int) (x : α) : Prop := ∀ r, p (e x ++ r) = some (x, r)
/-- What is read was written. -/
def Snd {α : Type} (p : Pa α) (e : α → List Int) : Prop := ∀ l x r, Bys l → p l = some (x, r) → l = e x ++ r

theorem pN_und (n : Int) (h : I64 n) : Und pN wideL n := by
  intro r
  unfold pN
  rw [if_pos (by rw [List.length_append, wide_len]; omega)]
  have h1 : (wideL n ++ r).take 8 = wideL n := rfl
  have h2 : (wideL n ++ r).drop 8 = r := rfl
  rw [h1, h2, val_of_wide n h]
theorem pN_snd : Snd pN wideL := by
  intro l x r hl h
  unfold pN at h
  split at h
  · rename_i h8
    obtain ⟨a, b, c, d, e, f, g, k, t, rfl⟩ := eight h8
    simp only [Option.some.injEq, Prod.mk.injEq] at h
    obtain ⟨rfl, rfl⟩ := h
    have t8 : (a :: b :: c :: d :: e :: f :: g :: k :: t).take 8 = [a, b, c, d, e, f, g, k] := rfl
    have d8 : (a :: b :: c :: d :: e :: f :: g :: k :: t).drop 8 = t := rfl
    have m : ∀ x, x ∈ [a, b, c, d, e, f, g, k] → BY x := fun x hx => hl x (by
      rw [← t8] at hx; exact List.mem_of_mem_take hx)
    rw [t8, d8, wide_of_val a b c d e f g k (m a (by simp)) (m b (by simp)) (m c (by simp)) (m d (by simp)) (m e (by simp)) (m f (by simp)) (m g (by simp)) (m k (by simp))]
    rfl
  · cases h
theorem Bys.right {a b : List Int} (h : Bys (a ++ b)) : Bys b := fun x hx => h x (List.mem_append.2 (Or.inr hx))
theorem many_und {α : Type} {p : Pa α} {e : α → List Int} : ∀ (l : List α), (∀ x ∈ l, Und p e x) → ∀ r, pMany p l.length ((l.map e).flatten ++ r) = some (l, r)
  | [], _, r => rfl
  | x :: l, h, r => by
    have h1 := h x (List.mem_cons_self) ((l.map e).flatten ++ r)
    have h2 := many_und l (fun y hy => h y (List.mem_cons_of_mem _ hy)) r
    simp only [List.length_cons, pMany, List.map_cons, List.flatten_cons, List.append_assoc, h1, h2, Option.bind_some]
theorem many_snd {α : Type} {p : Pa α} {e : α → List Int} (hp : Snd p e) : ∀ (k : Nat) l x r, Bys l → pMany p k l = some (x, r) → l = (x.map e).flatten ++ r ∧ x.length = k
  | 0, l, x, r, _, h => by
    simp only [pMany, Option.some.injEq, Prod.mk.injEq] at h
    obtain ⟨rfl, rfl⟩ := h
    exact ⟨rfl, rfl⟩
  | k + 1, l, x, r, hl, h => by
    simp only [pMany] at h
    cases h1 : p l with
    | none => rw [h1] at h; cases h
    | some y =>
      rw [h1, Option.bind_some] at h
      cases h2 : pMany p k y.2 with
      | none => rw [h2] at h; cases h
      | some z =>
        rw [h2, Option.bind_some] at h
        simp only [Option.some.injEq, Prod.mk.injEq] at h
        obtain ⟨rfl, rfl⟩ := h
        have e1 := hp l y.1 y.2 hl h1
        rw [e1] at hl
        obtain ⟨e2, e3⟩ := many_snd hp k y.2 z.1 z.2 hl.right h2
        rw [e1]
        refine ⟨?_, by simp [e3]⟩
        simp only [List.map_cons, List.flatten_cons, List.append_assoc]
        rw [← e2]
theorem pL_und {α : Type} {p : Pa α} {e : α → List Int} {most : Int} (l : List α) (hm : (l.length : Int) ≤ most) (h63 : Fits l.length) (h : ∀ x ∈ l, Und p e x) : Und (pL most p) (encL e) l := by
  intro r
  have h1 := pN_und l.length (by unfold Fits at h63; unfold I64; omega) ((l.map e).flatten ++ r)
  unfold pL encL
  rw [List.append_assoc, h1, Option.bind_some]
  simp only
  rw [if_pos ⟨by omega, hm⟩]
  have : (l.length : Int).toNat = l.length := by omega
  rw [this]
  exact many_und l h r
theorem pL_snd {α : Type} {p : Pa α} {e : α → List Int} {most : Int} (hp : Snd p e) : Snd (pL most p) (encL e) := by
  intro l x r hl h
  unfold pL at h
  cases h1 : pN l with
  | none => rw [h1] at h; cases h
  | some y =>
    rw [h1, Option.bind_some] at h
    split at h
    · rename_i hy
      have e1 := pN_snd l y.1 y.2 hl h1
      rw [e1] at hl
      obtain ⟨e2, e3⟩ := many_snd hp _ y.2 x r hl.right h
      unfold encL
      rw [e1, List.append_assoc, ← e2, e3]
      have : ((y.1.toNat : Nat) : Int) = y.1 := by omega
      rw [this]
    · cases h

theorem pTy_und (t : Ty) (h : I64 t.kind ∧ I64 t.cls) : Und pTy encTy t := by
  intro r
  simp only [pTy, encTy, List.append_assoc, pN_und t.kind h.1 _, pN_und t.cls h.2 _, Option.bind_some]
theorem pTy_snd : Snd pTy encTy := by
  intro l x r hl h
  unfold pTy at h
  cases h1 : pN l with
  | none => rw [h1] at h; cases h
  | some y =>
    rw [h1, Option.bind_some] at h
    cases h2 : pN y.2 with
    | none => rw [h2] at h; cases h
    | some z =>
      rw [h2, Option.bind_some] at h
      simp only [Option.some.injEq, Prod.mk.injEq] at h
      obtain ⟨rfl, rfl⟩ := h
      have e1 := pN_snd l y.1 y.2 hl h1
      rw [e1] at hl
      have e2 := pN_snd y.2 z.1 z.2 hl.right h2
      rw [e1, e2]
      simp only [encTy, List.append_assoc]
def Cl.good (d : Bd) (c : Cl) : Prop := I64 c.super ∧ (c.fields.length : Int) ≤ d.fs ∧ Fits c.fields.length ∧ ∀ t ∈ c.fields, I64 t.kind ∧ I64 t.cls
def In.good (d : Bd) (i : In) : Prop := i.ok ∧ (i.args.length : Int) ≤ d.gs ∧ Fits i.args.length ∧ ∀ t ∈ i.args, I64 t
def Me.good (d : Bd) (m : Me) : Prop := m.ok ∧ ((m.params.length : Int) ≤ d.ps ∧ Fits m.params.length ∧ ∀ t ∈ m.params, I64 t.kind ∧ I64 t.cls)
  ∧ ((m.code.length : Int) ≤ d.co ∧ Fits m.code.length ∧ ∀ i ∈ m.code, i.good d) ∧ ((m.hands.length : Int) ≤ d.hs ∧ Fits m.hands.length ∧ ∀ h ∈ m.hands, h.ok)
def Fi.good (d : Bd) (f : Fi) : Prop := ((f.classes.length : Int) ≤ d.cs ∧ Fits f.classes.length ∧ ∀ c ∈ f.classes, c.good d) ∧ ((f.methods.length : Int) ≤ d.ms ∧ Fits f.methods.length ∧ ∀ m ∈ f.methods, m.good d)
theorem pCl_und (d : Bd) (c : Cl) (h : c.good d) : Und (pCl d) encCl c := by
  intro r
  obtain ⟨h1, h2, h3, h4⟩ := h
  have hf : pL d.fs pTy (encL encTy c.fields ++ r) = some (c.fields, r) := pL_und (p := pTy) (e := encTy) c.fields h2 h3 (fun t ht => pTy_und t (h4 t ht)) r
  have e1 : pN (wideL c.super ++ (encL encTy c.fields ++ r)) = some (c.super, encL encTy c.fields ++ r) := pN_und c.super h1 _
  unfold pCl encCl
  rw [List.append_assoc, e1, Option.bind_some, hf, Option.bind_some]
theorem pCl_snd (d : Bd) : Snd (pCl d) encCl := by
  intro l x r hl h
  unfold pCl at h
  cases h1 : pN l with
  | none => rw [h1] at h; cases h
  | some y =>
    rw [h1, Option.bind_some] at h
    cases h2 : pL d.fs pTy y.2 with
    | none => rw [h2] at h; cases h
    | some z =>
      rw [h2, Option.bind_some] at h
      simp only [Option.some.injEq, Prod.mk.injEq] at h
      obtain ⟨rfl, rfl⟩ := h
      have e1 := pN_snd l y.1 y.2 hl h1
      rw [e1] at hl
      have e2 := pL_snd pTy_snd y.2 z.1 z.2 hl.right h2
      rw [e1, e2]
      simp only [encCl, List.append_assoc]
theorem pIn_und (d : Bd) (i : In) (h : i.good d) : Und (pIn d) encIn i := by
  intro r
  obtain ⟨⟨h1, h2, h3, h4, h5⟩, h6, h7, h8⟩ := h
  have hf : pL d.gs pN (encL wideL i.args ++ r) = some (i.args, r) := pL_und (p := pN) (e := wideL) i.args h6 h7 (fun t ht => pN_und t (h8 t ht)) r
  have e : ∀ n, I64 n → ∀ r, pN (wideL n ++ r) = some (n, r) := fun n hn r => pN_und n hn r
  unfold pIn encIn
  simp only [List.append_assoc]
  rw [e _ h1, Option.bind_some, e _ h2, Option.bind_some, e _ h3, Option.bind_some, e _ h4, Option.bind_some, e _ h5, Option.bind_some, hf, Option.bind_some]
theorem bind_some_of {α β : Type} {o : Option α} {f : α → Option β} {b : β} (h : o.bind f = some b) : ∃ a, o = some a ∧ f a = some b := by
  cases o with
  | none => cases h
  | some a => exact ⟨a, rfl, h⟩
theorem pIn_snd (d : Bd) : Snd (pIn d) encIn := by
  intro l x r hl h
  unfold pIn at h
  obtain ⟨y1, h1, h⟩ := bind_some_of h
  obtain ⟨y2, h2, h⟩ := bind_some_of h
  obtain ⟨y3, h3, h⟩ := bind_some_of h
  obtain ⟨y4, h4, h⟩ := bind_some_of h
  obtain ⟨y5, h5, h⟩ := bind_some_of h
  obtain ⟨y6, h6, h⟩ := bind_some_of h
  simp only [Option.some.injEq, Prod.mk.injEq] at h
  obtain ⟨rfl, rfl⟩ := h
  have e1 := pN_snd l y1.1 y1.2 hl h1
  rw [e1] at hl; have b1 := hl.right
  have e2 := pN_snd y1.2 y2.1 y2.2 b1 h2
  rw [e2] at b1; have b2 := b1.right
  have e3 := pN_snd y2.2 y3.1 y3.2 b2 h3
  rw [e3] at b2; have b3 := b2.right
  have e4 := pN_snd y3.2 y4.1 y4.2 b3 h4
  rw [e4] at b3; have b4 := b3.right
  have e5 := pN_snd y4.2 y5.1 y5.2 b4 h5
  rw [e5] at b4; have b5 := b4.right
  have e6 := pL_snd pN_snd y5.2 y6.1 y6.2 b5 h6
  rw [e1, e2, e3, e4, e5, e6]
  simp only [encIn, List.append_assoc]
theorem pHd_und (h : Hd) (k : h.ok) : Und pHd encHd h := by
  intro r
  obtain ⟨h1, h2, h3, h4⟩ := k
  simp only [pHd, encHd, List.append_assoc, pN_und _ h1 _, pN_und _ h2 _, pN_und _ h3 _, pN_und _ h4 _, Option.bind_some]
theorem pHd_snd : Snd pHd encHd := by
  intro l x r hl h
  unfold pHd at h
  obtain ⟨y1, h1, h⟩ := bind_some_of h
  obtain ⟨y2, h2, h⟩ := bind_some_of h
  obtain ⟨y3, h3, h⟩ := bind_some_of h
  obtain ⟨y4, h4, h⟩ := bind_some_of h
  simp only [Option.some.injEq, Prod.mk.injEq] at h
  obtain ⟨rfl, rfl⟩ := h
  have e1 := pN_snd l y1.1 y1.2 hl h1
  rw [e1] at hl; have b1 := hl.right
  have e2 := pN_snd y1.2 y2.1 y2.2 b1 h2
  rw [e2] at b1; have b2 := b1.right
  have e3 := pN_snd y2.2 y3.1 y3.2 b2 h3
  rw [e3] at b2; have b3 := b2.right
  have e4 := pN_snd y3.2 y4.1 y4.2 b3 h4
  rw [e1, e2, e3, e4]
  simp only [encHd, List.append_assoc]
theorem pMe_und (d : Bd) (m : Me) (h : m.good d) : Und (pMe d) encMe m := by
  intro r
  obtain ⟨⟨h1, h2, h3, h4, h5⟩, ⟨p1, p2, p3⟩, ⟨c1, c2, c3⟩, k1, k2, k3⟩ := h
  have hp : ∀ r, pL d.ps pTy (encL encTy m.params ++ r) = some (m.params, r) := fun r => pL_und (p := pTy) (e := encTy) m.params p1 p2 (fun t ht => pTy_und t (p3 t ht)) r
  have hc : ∀ r, pL d.co (pIn d) (encL encIn m.code ++ r) = some (m.code, r) := fun r => pL_und (p := pIn d) (e := encIn) m.code c1 c2 (fun t ht => pIn_und d t (c3 t ht)) r
  have hh : ∀ r, pL d.hs pHd (encL encHd m.hands ++ r) = some (m.hands, r) := fun r => pL_und (p := pHd) (e := encHd) m.hands k1 k2 (fun t ht => pHd_und t (k3 t ht)) r
  have ht : ∀ r, pTy (encTy m.ret ++ r) = some (m.ret, r) := fun r => pTy_und m.ret ⟨h1, h2⟩ r
  have e : ∀ n, I64 n → ∀ r, pN (wideL n ++ r) = some (n, r) := fun n hn r => pN_und n hn r
  unfold pMe encMe
  simp only [List.append_assoc]
  rw [hp, Option.bind_some, ht, Option.bind_some, e _ h3, Option.bind_some, e _ h4, Option.bind_some, e _ h5, Option.bind_some, hc, Option.bind_some, hh, Option.bind_some]
theorem pMe_snd (d : Bd) : Snd (pMe d) encMe := by
  intro l x r hl h
  unfold pMe at h
  obtain ⟨y1, h1, h⟩ := bind_some_of h
  obtain ⟨y2, h2, h⟩ := bind_some_of h
  obtain ⟨y3, h3, h⟩ := bind_some_of h
  obtain ⟨y4, h4, h⟩ := bind_some_of h
  obtain ⟨y5, h5, h⟩ := bind_some_of h
  obtain ⟨y6, h6, h⟩ := bind_some_of h
  obtain ⟨y7, h7, h⟩ := bind_some_of h
  simp only [Option.some.injEq, Prod.mk.injEq] at h
  obtain ⟨rfl, rfl⟩ := h
  have e1 := pL_snd pTy_snd l y1.1 y1.2 hl h1
  rw [e1] at hl; have b1 := hl.right
  have e2 := pTy_snd y1.2 y2.1 y2.2 b1 h2
  rw [e2] at b1; have b2 := b1.right
  have e3 := pN_snd y2.2 y3.1 y3.2 b2 h3
  rw [e3] at b2; have b3 := b2.right
  have e4 := pN_snd y3.2 y4.1 y4.2 b3 h4
  rw [e4] at b3; have b4 := b3.right
  have e5 := pN_snd y4.2 y5.1 y5.2 b4 h5
  rw [e5] at b4; have b5 := b4.right
  have e6 := pL_snd (pIn_snd d) y5.2 y6.1 y6.2 b5 h6
  rw [e6] at b5; have b6 := b5.right
  have e7 := pL_snd pHd_snd y6.2 y7.1 y7.2 b6 h7
  rw [e1, e2, e3, e4, e5, e6, e7]
  simp only [encMe, List.append_assoc]
theorem pFi_und (d : Bd) (f : Fi) (h : f.good d) : Und (pFi d) encFi f := by
  intro r
  obtain ⟨⟨p1, p2, p3⟩, c1, c2, c3⟩ := h
  have hp : ∀ r, pL d.cs (pCl d) (encL encCl f.classes ++ r) = some (f.classes, r) := fun r => pL_und (p := pCl d) (e := encCl) f.classes p1 p2 (fun t ht => pCl_und d t (p3 t ht)) r
  have hc : ∀ r, pL d.ms (pMe d) (encL encMe f.methods ++ r) = some (f.methods, r) := fun r => pL_und (p := pMe d) (e := encMe) f.methods c1 c2 (fun t ht => pMe_und d t (c3 t ht)) r
  unfold pFi encFi
  rw [List.append_assoc, hp, Option.bind_some, hc, Option.bind_some]
theorem pFi_snd (d : Bd) : Snd (pFi d) encFi := by
  intro l x r hl h
  unfold pFi at h
  obtain ⟨y1, h1, h⟩ := bind_some_of h
  obtain ⟨y2, h2, h⟩ := bind_some_of h
  simp only [Option.some.injEq, Prod.mk.injEq] at h
  obtain ⟨rfl, rfl⟩ := h
  have e1 := pL_snd (pCl_snd d) l y1.1 y1.2 hl h1
  rw [e1] at hl; have b1 := hl.right
  have e2 := pL_snd (pMe_snd d) y1.2 y2.1 y2.2 b1 h2
  rw [e1, e2]
  simp only [encFi, List.append_assoc]

end Go.Proofs.Ytgiiapenmjollab
namespace Go.Proofs.Ytgiiapenmjollab
open Go.RowKit

structure Fi.few (f : Fi) : Prop where
  cs : f.classes.length ≤ 12
  fs : ∀ c ∈ f.classes, c.fields.length ≤ 6
  ms : f.methods.length ≤ 8
  ps : ∀ m ∈ f.methods, m.params.length ≤ 4 ∧ m.code.length ≤ 2400 ∧ m.hands.length ≤ 8
  gs : ∀ m ∈ f.methods, ∀ i ∈ m.code, i.args.length ≤ 4
theorem mem_nth {α : Type} (d : α) {l : List α} {x : α} (h : x ∈ l) : ∃ k, k < l.length ∧ nth d l k = x := by
  obtain ⟨k, hk, rfl⟩ := List.getElem_of_mem h
  exact ⟨k, hk, nth_get hk⟩
theorem mayB_few {l : List Cl} (h : mayB l = true) : l.length ≤ 12 ∧ ∀ c ∈ l, c.fields.length ≤ 6 := by
  unfold mayB at h
  simp only [Bool.and_eq_true, decide_eq_true_eq] at h
  refine ⟨h.1.2.1, fun c hc => ?_⟩
  obtain ⟨k, hk, rfl⟩ := mem_nth cl0 hc
  have := List.all_eq_true.1 h.2 k (List.mem_range.2 hk)
  unfold clB at this
  simp only [Bool.and_eq_true, decide_eq_true_eq] at this
  exact this.1.2
theorem headB_few {n : Nat} {m : Me} {most : Int} (h : headB n m most = true) : m.params.length ≤ 4 ∧ (m.code.length : Int) ≤ most ∧ m.hands.length ≤ 8 := by
  unfold headB at h
  simp only [Bool.and_eq_true, decide_eq_true_eq] at h
  exact ⟨h.1.1.1.1, h.1.1.1.2.2.2, h.1.1.1.2.1⟩
theorem smayB_few {f : Fi} (h : smayB f = true) : f.few := by
  unfold smayB at h
  simp only [Bool.and_eq_true, decide_eq_true_eq] at h
  have hc := mayB_few h.1.1
  have hm := List.all_eq_true.1 h.2
  have hh : ∀ m ∈ f.methods, headB f.classes.length m 400 = true ∧ ∀ i ∈ m.code, sinB f.classes f.methods.length m.code.length m.locs i = true := fun m hx => by
    have := hm m hx
    unfold smeB at this
    simp only [Bool.and_eq_true] at this
    exact ⟨this.1.1, List.all_eq_true.1 this.2⟩
  refine ⟨hc.1, hc.2, h.1.2.2, fun m hx => ?_, fun m hx i hi => ?_⟩
  · have := headB_few (hh m hx).1
    exact ⟨this.1, by omega, this.2.2⟩
  · have := (hh m hx).2 i hi
    unfold sinB at this
    simp only [Bool.and_eq_true, decide_eq_true_eq] at this
    omega
theorem rrestB_args {cs : List Cl} {ms : List Me} {n : Nat} {regs ret : Int} {i : In} (h : rrestB cs ms n regs ret i = true) :
    i.args.length = 0 ∨ (0 ≤ i.a ∧ i.a < ms.length ∧ i.args.length = (nth me0 ms i.a.toNat).params.length) := by
  unfold rrestB at h
  rw [Bool.and_eq_true, decide_eq_true_eq] at h
  rcases h.1 with h1 | h1
  · right
    have h2 := h.2
    rw [h1] at h2
    simp only [show ¬ ((18 : Int) = 14 ∨ (18 : Int) = 15) by omega, show ¬ ((18 : Int) = 1) by omega, show ¬ ((18 : Int) = 2) by omega, show ¬ ((18 : Int) = 5 ∨ (18 : Int) = 6) by omega, show ¬ ((18 : Int) = 4) by omega,
      show ¬ ((18 : Int) = 10 ∨ (18 : Int) = 12) by omega, show ¬ ((18 : Int) = 11) by omega, show ¬ ((18 : Int) = 13 ∨ (18 : Int) = 16) by omega, show ¬ ((18 : Int) = 17) by omega, show ¬ ((18 : Int) = 19) by omega, show ¬ ((18 : Int) = 23) by omega,
      show ¬ ((18 : Int) = 20) by omega, if_false, if_true, Bool.and_eq_true, decide_eq_true_eq] at h2
    exact h2.2.1
  · exact Or.inl h1
theorem rfmayB_few {f : Fi} (h : rfmayB f = true) : f.few := by
  unfold rfmayB at h
  simp only [Bool.and_eq_true, decide_eq_true_eq] at h
  have hc := mayB_few h.1.1
  have hm := List.all_eq_true.1 h.2
  have hh : ∀ m ∈ f.methods, headB f.classes.length m 2400 = true ∧ ∀ i ∈ m.code, rinB f.classes f.methods m.code.length m.regs m.ret.kind i = true := fun m hx => by
    have := hm m hx
    unfold rmeB at this
    simp only [Bool.and_eq_true] at this
    exact ⟨this.1.1, List.all_eq_true.1 this.2⟩
  refine ⟨hc.1, hc.2, h.1.2.2, fun m hx => ?_, fun m hx i hi => ?_⟩
  · have := headB_few (hh m hx).1
    exact ⟨this.1, by omega, this.2.2⟩
  · have := (hh m hx).2 i hi
    unfold rinB at this
    split at this
    · cases this
    · rw [Bool.and_eq_true] at this
      rcases rrestB_args this.2 with h0 | ⟨a0, a1, a2⟩
      · omega
      · have hk : i.a.toNat < f.methods.length := by omega
        have := (headB_few (hh _ (nth_mem (d := me0) hk)).1).1
        omega

theorem flat_le {α : Type} (e : α → List Int) (n : Nat) : ∀ (l : List α), (∀ x ∈ l, (e x).length ≤ n) → (l.map e).flatten.length ≤ l.length * n
  | [], _ => by simp
  | x :: l, h => by
    have h1 := h x List.mem_cons_self
    have h2 := flat_le e n l fun y hy => h y (List.mem_cons_of_mem _ hy)
    simp only [List.map_cons, List.flatten_cons, List.length_append, List.length_cons, Nat.add_mul]
    omega
theorem encL_le {α : Type} (e : α → List Int) (n k : Nat) (l : List α) (h : ∀ x ∈ l, (e x).length ≤ n) (hk : l.length ≤ k) : (encL e l).length ≤ 8 + k * n := by
  have h1 := flat_le e n l h
  have h2 : l.length * n ≤ k * n := Nat.mul_le_mul_right n hk
  unfold encL
  rw [List.length_append, wide_len]; omega
theorem encFi_le {f : Fi} (h : f.few) : (1 :: encFi f).length ≤ 50000000 := by
  have h1 : ∀ c ∈ f.classes, (encCl c).length ≤ 112 := fun c hc => by
    have := encL_le encTy 16 6 c.fields (fun t _ => by simp [encTy, wide_len]) (h.fs c hc)
    unfold encCl; rw [List.length_append, wide_len]; omega
  have h2 : ∀ m ∈ f.methods, (encMe m).length ≤ 200000 := fun m hm => by
    obtain ⟨p1, p2, p3⟩ := h.ps m hm
    have a := encL_le encTy 16 4 m.params (fun t _ => by simp [encTy, wide_len]) p1
    have b := encL_le encIn 80 2400 m.code (fun i hi => by
      have := encL_le wideL 8 4 i.args (fun t _ => by simp [wide_len]) (h.gs m hm i hi)
      unfold encIn; simp only [List.length_append, wide_len]; omega) p2
    have c := encL_le encHd 32 8 m.hands (fun t _ => by simp [encHd, wide_len]) p3
    unfold encMe; simp only [List.length_append, wide_len, encTy]; omega
  have a := encL_le encCl 112 12 f.classes h1 h.cs
  have b := encL_le encMe 200000 8 f.methods h2 h.ms
  unfold encFi; rw [List.length_cons, List.length_append]; omega

def bdP : Bd := ⟨12, 6, 8, 4, 2400, 8, 4⟩
def bdD : Bd := ⟨9223372036854775807, 9223372036854775807, 9223372036854775807, 9223372036854775807, 9223372036854775807, 9223372036854775807, 9223372036854775807⟩
/-- All numbers of a file are numbers of 64 bits. -/
structure Fi.nums (f : Fi) : Prop where
  cs : ∀ c ∈ f.classes, I64 c.super ∧ ∀ t ∈ c.fields, I64 t.kind ∧ I64 t.cls
  ms : ∀ m ∈ f.methods, m.ok ∧ (∀ t ∈ m.params, I64 t.kind ∧ I64 t.cls) ∧ (∀ i ∈ m.code, i.ok ∧ ∀ t ∈ i.args, I64 t) ∧ ∀ h ∈ m.hands, h.ok
theorem good_of {f : Fi} (h : f.few) (k : f.nums) (d : Bd) (h1 : 12 ≤ d.cs) (h2 : 6 ≤ d.fs) (h3 : 8 ≤ d.ms) (h4 : 4 ≤ d.ps) (h5 : 2400 ≤ d.co) (h6 : 8 ≤ d.hs) (h7 : 4 ≤ d.gs) : f.good d := by
  have hc := h.cs
  have hm := h.ms
  refine ⟨⟨by omega, by unfold Fits; omega, fun c hx => ?_⟩, by omega, by unfold Fits; omega, fun m hx => ?_⟩
  · have := h.fs c hx
    exact ⟨(k.cs c hx).1, by omega, by unfold Fits; omega, (k.cs c hx).2⟩
  · obtain ⟨p1, p2, p3⟩ := h.ps m hx
    obtain ⟨q1, q2, q3, q4⟩ := k.ms m hx
    refine ⟨q1, ⟨by omega, by unfold Fits; omega, q2⟩, ⟨by omega, by unfold Fits; omega, fun i hi => ?_⟩, by omega, by unfold Fits; omega, q4⟩
    have := h.gs m hx i hi
    exact ⟨(q3 i hi).1, by omega, by unfold Fits; omega, (q3 i hi).2⟩
theorem good_P {f : Fi} (h : f.few) (k : f.nums) : f.good bdP := good_of h k bdP (by decide) (by decide) (by decide) (by decide) (by decide) (by decide) (by decide)
theorem good_D {f : Fi} (h : f.few) (k : f.nums) : f.good bdD := good_of h k bdD (by decide) (by decide) (by decide) (by decide) (by decide) (by decide) (by decide)

theorem TysAt.nums {w : World} {A : Option Addr} {l : List Ty} (h : TysAt w A l) : ∀ t ∈ l, I64 t.kind ∧ I64 t.cls := by
  intro t ht
  obtain ⟨k, hk, rfl⟩ := mem_nth ty0 ht
  rcases h.2 with h0 | ⟨b, off, _, hi⟩
  · omega
  · exact (hi k hk).2.2
theorem IntsAt.nums {w : World} {A : Option Addr} {l : List Int} (h : IntsAt w A l) : ∀ t ∈ l, I64 t := by
  intro t ht
  obtain ⟨k, hk, rfl⟩ := mem_nth (0 : Int) ht
  rcases h.2 with h0 | ⟨b, off, _, hi⟩
  · omega
  · exact (hi k hk).2
theorem nums_of {w : World} {A B : Option Addr} {f : Fi} (hA : ClsAt w A f.classes) (hB : MesAt w B f.methods) : f.nums := by
  refine ⟨fun c hc => ?_, fun m hm => ?_⟩
  · obtain ⟨k, hk, rfl⟩ := mem_nth cl0 hc
    rcases hA.2 with h0 | ⟨b, off, _, hi⟩
    · omega
    · obtain ⟨_, h1, _, _, _, h2⟩ := hi k hk
      exact ⟨h1, h2.nums⟩
  · obtain ⟨k, hk, rfl⟩ := mem_nth me0 hm
    rcases hB.2 with h0 | ⟨b, off, _, hi⟩
    · omega
    · obtain ⟨P, C, K, _, _, _, _, _, _, _, _, _, _, _, h1, h2, h3, h4⟩ := hi k hk
      refine ⟨h4, h1.nums, fun i hx => ?_, fun x hx => ?_⟩
      · obtain ⟨j, hj, rfl⟩ := mem_nth in0 hx
        rcases h2.2 with h0 | ⟨b, off, _, hi⟩
        · omega
        · obtain ⟨_, _, _, _, _, g1, _, _, _, g2⟩ := hi j hj
          exact ⟨g1, g2.nums⟩
      · obtain ⟨j, hj, rfl⟩ := mem_nth hd0 hx
        rcases h3.2 with h0 | ⟨b, off, _, hi⟩
        · omega
        · exact (hi j hj).2.2.2.2

/-- What the bytes of a file are made of. -/
theorem putP_some {f : Fi} {b : List Int} (h : putP f = some b) : f.few ∧ ((smayB f = true ∧ b = 1 :: encFi f) ∨ (smayB f = false ∧ rfmayB f = true ∧ b = 2 :: encFi f)) := by
  unfold putP at h
  split at h
  · rename_i hs
    injection h with h
    exact ⟨smayB_few hs, Or.inl ⟨hs, h.symm⟩⟩
  · rename_i hs
    split at h
    · rename_i hr
      injection h with h
      exact ⟨rfmayB_few hr, Or.inr ⟨by simpa using hs, hr, h.symm⟩⟩
    · cases h
/-- Two files whose bytes begin alike are one. -/
theorem enc_one {f g : Fi} (hf : f.few) (hg : g.few) (nf : f.nums) (ng : g.nums) {r s : List Int} (h : encFi f ++ r = encFi g ++ s) : f = g ∧ r = s := by
  have h1 := pFi_und bdP f (good_P hf nf) r
  have h2 := pFi_und bdP g (good_P hg ng) s
  rw [h, h2] at h1
  simp only [Option.some.injEq, Prod.mk.injEq] at h1
  exact ⟨h1.1.symm, h1.2.symm⟩
theorem putP_one {f g : Fi} {b : List Int} (hf : putP f = some b) (hg : putP g = some b) (nf : f.nums) (ng : g.nums) : f = g := by
  obtain ⟨f1, f2⟩ := putP_some hf
  obtain ⟨g1, g2⟩ := putP_some hg
  have e : encFi f ++ [] = encFi g ++ [] := by
    rcases f2 with ⟨_, e1⟩ | ⟨_, _, e1⟩ <;> rcases g2 with ⟨_, e2⟩ | ⟨_, _, e2⟩ <;> (rw [e1] at e2; injection e2 with _ e3; rw [e3])
  exact (enc_one f1 g1 nf ng e).1
/-- No shorter row of bytes is a file's. -/
theorem putP_short {f g : Fi} {b : List Int} {n : Nat} (hf : putP f = some b) (hg : putP g = some (b.take n)) (nf : f.nums) (ng : g.nums) (hn : n < b.length) : False := by
  obtain ⟨f1, f2⟩ := putP_some hf
  obtain ⟨g1, g2⟩ := putP_some hg
  obtain ⟨c, hc⟩ : ∃ c, b = c :: encFi f := by rcases f2 with ⟨_, e1⟩ | ⟨_, _, e1⟩ <;> exact ⟨_, e1⟩
  obtain ⟨d, hd⟩ : ∃ d, b.take n = d :: encFi g := by rcases g2 with ⟨_, e1⟩ | ⟨_, _, e1⟩ <;> exact ⟨_, e1⟩
  have hb := List.take_append_drop n b
  rw [hd, hc] at hb
  injection hb with _ hb
  rw [← List.append_nil (encFi f)] at hb
  have := (enc_one g1 f1 ng nf hb).2
  rw [List.append_nil, ← hc] at this
  have h3 := congrArg List.length this
  rw [List.length_drop] at h3
  simp at h3
  omega

end Go.Proofs.Ytgiiapenmjollab
namespace Go.Proofs.Ytgiiapenmjollab
open Go.RowKit

def widI (k : Int) : Int := if k = 0 then 0 else if k = 2 then 2 else 1
theorem widI_bounds (k : Int) : 0 ≤ widI k ∧ widI k ≤ 2 := by unfold widI; split <;> (try split) <;> omega
/-- May its A be? -/
def aB (nc nm ncode : Nat) (locs : Int) (i : In) : Bool :=
  if i.op = 4 ∨ i.op = 5 then decide (0 ≤ i.a ∧ i.a ≤ locs - widI i.b)
  else if i.op = 6 ∨ i.op = 7 then decide (1 ≤ i.a ∧ i.a ≤ 8)
  else if i.op = 11 ∨ i.op = 12 ∨ i.op = 13 then decide (0 ≤ i.a ∧ i.a < ncode)
  else if i.op = 14 ∨ i.op = 15 ∨ i.op = 16 ∨ i.op = 17 ∨ i.op = 18 then decide (0 ≤ i.a ∧ i.a < nc)
  else if i.op = 19 then decide (0 ≤ i.a ∧ i.a < nm)
  else if i.op = 24 then decide (1 ≤ i.a ∧ i.a ≤ 2)
  else decide (i.a = 0)
/-- Has the class the field? -/
def fieldB (cs : List Cl) (c k : Int) : Bool := decide (0 ≤ c ∧ c < cs.length ∧ 0 ≤ k ∧ k < (nth cl0 cs c.toNat).fields.length)
/-- May its B be? -/
def bB (cs : List Cl) (i : In) : Bool :=
  if i.op = 4 ∨ i.op = 5 then decide (1 ≤ i.b ∧ i.b ≤ 3)
  else if i.op = 12 then decide (1 ≤ i.b ∧ i.b ≤ 4)
  else if i.op = 15 ∨ i.op = 16 then fieldB cs i.a i.b
  else decide (i.b = 0)
/-- May its N be? -/
def nB (i : In) : Bool :=
  if i.op = 1 then decide (-2147483648 ≤ i.n ∧ i.n ≤ 2147483647)
  else if i.op = 2 then true
  else decide (i.n = 0)

theorem sin_fields (cs : List Cl) (nm ncode : Nat) (locs : Int) (i : In) :
    sinB cs nm ncode locs i = (decide (1 ≤ i.op ∧ i.op ≤ 25) && (aB cs.length nm ncode locs i && (bB cs i && (decide (i.c = 0) && (nB i && decide (i.args.length = 0)))))) := by
  obtain ⟨op, a, b, c, n, args⟩ := i
  by_cases h : 1 ≤ op ∧ op ≤ 25
  · have : op = 1 ∨ op = 2 ∨ op = 3 ∨ op = 4 ∨ op = 5 ∨ op = 6 ∨ op = 7 ∨ op = 8 ∨ op = 9 ∨ op = 10 ∨ op = 11 ∨ op = 12 ∨ op = 13 ∨ op = 14 ∨ op = 15 ∨ op = 16 ∨ op = 17 ∨ op = 18 ∨ op = 19 ∨ op = 20 ∨ op = 21 ∨ op = 22 ∨ op = 23 ∨ op = 24 ∨ op = 25 := by omega
    rcases this with rfl | rfl | rfl | rfl | rfl | rfl | rfl | rfl | rfl | rfl | rfl | rfl | rfl | rfl | rfl | rfl | rfl | rfl | rfl | rfl | rfl | rfl | rfl | rfl | rfl
    all_goals
      unfold sinB aB bB nB fieldB widI
      dsimp only
      generalize args.length = L
      rw [Bool.eq_iff_iff]
      simp
      try (repeat' split) <;> omega
  · have e : decide (1 ≤ op ∧ op ≤ 25) = false := decide_eq_false h
    have e' : decide (1 ≤ (In.mk op a b c n args).op ∧ (In.mk op a b c n args).op ≤ 25) = false := e
    rw [e', Bool.false_and]
    unfold sinB
    dsimp only
    rw [if_neg (by omega), if_neg (by omega), if_neg (by omega), if_neg (by omega), if_neg (by omega), if_neg (by omega), if_neg (by omega), if_neg (by omega), if_neg (by omega), if_neg (by omega), if_neg (by omega)]
    simp

end Go.Proofs.Ytgiiapenmjollab
namespace Go.Proofs.Ytgiiapenmjollab
open Go.RowKit (wrap32 wrap64)

theorem ret_i {k : IntKind} {a b : Int} (h : a = b) : Ending.returned (.int k a) = .returned (.int k b) := by rw [h]
theorem w32_bd (a : Int) : -2147483648 ≤ wrap32 a ∧ wrap32 a ≤ 2147483647 := by unfold wrap32; omega
theorem w64_bd (a : Int) : -9223372036854775808 ≤ wrap64 a ∧ wrap64 a ≤ 9223372036854775807 := by unfold wrap64; omega
theorem w32_w32 (a : Int) : wrap32 (wrap32 a) = wrap32 a := by unfold wrap32; omega
theorem w64_w32 (a : Int) : wrap64 (wrap32 a) = wrap32 a := by unfold wrap64 wrap32; omega
theorem w64_w64 (a : Int) : wrap64 (wrap64 a) = wrap64 a := by unfold wrap64; omega
theorem w64_in {a : Int} (h : -9223372036854775808 ≤ a) (h' : a ≤ 9223372036854775807) : wrap64 a = a := by unfold wrap64; omega
theorem w64_add (a b : Int) : wrap64 (wrap64 a + wrap64 b) = wrap64 (a + b) := by unfold wrap64; omega
theorem w64_addl (a b : Int) : wrap64 (wrap64 a + b) = wrap64 (a + b) := by unfold wrap64; omega
theorem w64_congr {a b : Int} (k : Int) (h : a = b + 18446744073709551616 * k) : wrap64 a = wrap64 b := by unfold wrap64; omega
theorem w64_mul (a b : Int) : wrap64 (wrap64 a * b) = wrap64 (a * b) := by
  have h : wrap64 a = a + 18446744073709551616 * (-((a + 9223372036854775808) / 18446744073709551616)) := by unfold wrap64; omega
  rw [h, Int.add_mul, Int.mul_assoc]
  exact w64_congr _ rfl

theorem tdiv_zero' (a : Int) : a.tdiv 0 = 0 := Int.tdiv_zero a
theorem mul_tdiv_tmod (a b : Int) : a.tdiv b * b + a.tmod b = a := Int.tdiv_mul_add_tmod a b

/-- What is divided is what it comes to, times by what, and what is left over. -/
theorem div_back (a b : Int) (h : -9223372036854775808 ≤ a) (h' : a ≤ 9223372036854775807) :
    wrap64 (wrap64 (wrap64 (a.tdiv b) * b) + a.tmod b) = a := by
  rw [w64_mul, w64_addl, mul_tdiv_tmod, w64_in h h']

theorem tmod_sign (a b : Int) : a.tmod b = 0 ∨ (a.tmod b < 0 ↔ a < 0) := by
  rcases Int.lt_trichotomy a 0 with h | h | h
  · have h1 : 0 ≤ (-a).tmod b := Int.tmod_nonneg _ (by omega)
    rw [Int.neg_tmod] at h1
    omega
  · subst h; left; simp
  · have : 0 ≤ a.tmod b := Int.tmod_nonneg _ (by omega)
    omega

theorem tmod_bd (a b : Int) (h : -9223372036854775808 ≤ a) (h' : a ≤ 9223372036854775807) : -9223372036854775808 ≤ a.tmod b ∧ a.tmod b ≤ 9223372036854775807 := by
  have h1 := Int.natAbs_tmod a b
  have h2 : (a.tmod b).natAbs ≤ a.natAbs := by rw [h1]; exact Nat.mod_le _ _
  have := tmod_sign a b
  omega

theorem sub_narrow (a : Int) : (wrap64 (a - wrap32 a)).tmod 4294967296 = 0 := by
  have h : (4294967296 : Int) ∣ wrap64 (a - wrap32 a) := ⟨wrap64 (a - wrap32 a) / 4294967296, by unfold wrap64 wrap32; omega⟩
  exact Int.tmod_eq_zero_of_dvd h

/-! ### the document's own way to narrow -/
theorem ref_narrow (a : Int) :
    (a.tmod 4294967296 < 0 → a.tmod 4294967296 + 4294967296 ≥ 2147483648 → wrap32 a = a.tmod 4294967296 + 4294967296 - 4294967296)
    ∧ (a.tmod 4294967296 < 0 → a.tmod 4294967296 + 4294967296 < 2147483648 → wrap32 a = a.tmod 4294967296 + 4294967296)
    ∧ (0 ≤ a.tmod 4294967296 → a.tmod 4294967296 ≥ 2147483648 → wrap32 a = a.tmod 4294967296 - 4294967296)
    ∧ (0 ≤ a.tmod 4294967296 → a.tmod 4294967296 < 2147483648 → wrap32 a = a.tmod 4294967296) := by
  have h1 := mul_tdiv_tmod a 4294967296
  have h2 : a.tmod 4294967296 < 4294967296 := Int.tmod_lt_of_pos _ (by omega)
  have h3 : -4294967296 < a.tmod 4294967296 := by
    have := Int.lt_tmod_of_pos a (b := 4294967296) (by omega); omega
  unfold wrap32
  refine ⟨?_, ?_, ?_, ?_⟩ <;> intros <;> omega
theorem tmod32_bd (a : Int) : -4294967295 ≤ a.tmod 4294967296 ∧ a.tmod 4294967296 ≤ 4294967295 := by
  have h2 : a.tmod 4294967296 < 4294967296 := Int.tmod_lt_of_pos _ (by omega)
  have h3 : -4294967296 < a.tmod 4294967296 := by
    have := Int.lt_tmod_of_pos a (b := 4294967296) (by omega); omega
  omega

/-! ### a number's bits -/
def bitB (n : Int) (k : Nat) : Bool := decide (n / 2 ^ k % 2 = 1)

theorem tmod2 (n : Int) : (0 ≤ n.tmod 2 → n.tmod 2 = n % 2) ∧ (n.tmod 2 < 0 → n.tmod 2 + 2 = n % 2 ∧ n % 2 = 1) ∧ -1 ≤ n.tmod 2 ∧ n.tmod 2 ≤ 1 := by
  have h1 := mul_tdiv_tmod n 2
  have h2 : n.tmod 2 < 2 := Int.tmod_lt_of_pos _ (by omega)
  have h3 : -2 < n.tmod 2 := by
    have := Int.lt_tmod_of_pos n (b := 2) (by omega); omega
  omega

theorem half_even (n : Int) : (n - n % 2).tdiv 2 = n / 2 := by
  have : n - n % 2 = 2 * (n / 2) := by omega
  rw [this, Int.mul_tdiv_cancel_left _ (by omega)]

theorem div_pow_succ (a : Int) (k : Nat) : a / 2 ^ (k + 1) = a / 2 ^ k / 2 := by
  rw [Int.pow_succ, Int.ediv_ediv_of_nonneg (Int.le_of_lt (Int.pow_pos (by omega)))]

/-- The sum of the powers at which f holds, below k. -/
def sumB (f : Nat → Bool) : Nat → Nat
  | 0 => 0
  | k + 1 => sumB f k + if f k then 2 ^ k else 0

theorem sumB_congr {f g : Nat → Bool} : ∀ k, (∀ i, i < k → f i = g i) → sumB f k = sumB g k
  | 0, _ => rfl
  | k + 1, h => by
    have := sumB_congr k (fun i hi => h i (by omega))
    simp only [sumB]; rw [this, h k (by omega)]

theorem sumB_testBit (x : Nat) : ∀ k, sumB (fun i => x.testBit i) k = x % 2 ^ k
  | 0 => by simp [sumB, Nat.mod_one]
  | k + 1 => by
    simp only [sumB]
    rw [sumB_testBit x k, Nat.mod_pow_succ]
    have hb : x.testBit k = decide (x / 2 ^ k % 2 = 1) := Nat.testBit_eq_decide_div_mod_eq
    have : x / 2 ^ k % 2 < 2 := Nat.mod_lt _ (by omega)
    by_cases h : x / 2 ^ k % 2 = 1
    · simp [hb, h]
    · have : x / 2 ^ k % 2 = 0 := by omega
      simp [hb, this]

theorem pow_split (i : Nat) (h : i < 64) : (2 : Int) ^ 64 = 2 ^ i * (2 * 2 ^ (63 - i)) := by
  rw [← Int.mul_assoc, ← Int.pow_succ, ← Int.pow_add]; congr 1; omega

theorem testBit_ofInt (a : Int) (i : Nat) (h : i < 64) : (BitVec.ofInt 64 a).toNat.testBit i = bitB a i := by
  rw [BitVec.toNat_ofInt, Nat.testBit_eq_decide_div_mod_eq]
  unfold bitB
  have hm : (0 : Int) ≤ a % ((2 ^ 64 : Nat) : Int) := Int.emod_nonneg _ (by decide)
  have hc : (((a % ((2 ^ 64 : Nat) : Int)).toNat / 2 ^ i % 2 : Nat) : Int) = a / 2 ^ i % 2 := by
    rw [Int.natCast_emod, Int.natCast_ediv, Int.toNat_of_nonneg hm, Int.natCast_pow]
    have hp : (0 : Int) < 2 ^ i := Int.pow_pos (by omega)
    have he : a = a % ((2 ^ 64 : Nat) : Int) + 2 ^ i * (2 * 2 ^ (63 - i) * (a / ((2 ^ 64 : Nat) : Int))) := by
      have hs := pow_split i h
      have hd := Int.emod_add_mul_ediv a ((2 ^ 64 : Nat) : Int)
      rw [← Int.mul_assoc, ← hs]
      have e64 : (((2 ^ 64 : Nat) : Int)) = (2 : Int) ^ 64 := by decide
      rw [e64] at hd ⊢
      exact hd.symm
    conv => rhs; rw [he]
    rw [Int.add_mul_ediv_left _ _ (by omega), Int.mul_assoc]
    simp
  have : ((a % ((2 ^ 64 : Nat) : Int)).toNat / 2 ^ i % 2 = 1) ↔ (a / 2 ^ i % 2 = 1) := by omega
  exact decide_eq_decide.mpr this

/-- What the bits of two numbers make. -/
def opB (op : Int) (x y : Bool) : Bool := (decide (op = 6) && (x && y)) || (decide (op = 7) && (x || y)) || (decide (op = 8) && (x != y))

theorem bits_sum (f : Bool → Bool → Bool) (a b : Int) (r : BitVec 64)
    (h : ∀ i, i < 64 → r.toNat.testBit i = f ((BitVec.ofInt 64 a).toNat.testBit i) ((BitVec.ofInt 64 b).toNat.testBit i)) :
    IntKind.i64.wrap (r.toNat : Int) = wrap64 (sumB (fun i => f (bitB a i) (bitB b i)) 64 : Nat) := by
  have hs : sumB (fun i => f (bitB a i) (bitB b i)) 64 = r.toNat := by
    rw [← Nat.mod_eq_of_lt r.isLt, ← sumB_testBit]
    refine sumB_congr _ fun i hi => ?_
    rw [h i hi, testBit_ofInt _ _ hi, testBit_ofInt _ _ hi]
  rw [hs]; exact IntWalk.i64_left _

theorem bits_and (a b : Int) : bits .and .i64 a b = wrap64 (sumB (fun i => bitB a i && bitB b i) 64 : Nat) :=
  bits_sum (fun x y => x && y) a b _ fun i _ => by
    show (BitVec.ofInt 64 a &&& BitVec.ofInt 64 b).toNat.testBit i = _
    rw [BitVec.toNat_and, Nat.testBit_and]
theorem bits_or (a b : Int) : bits .or .i64 a b = wrap64 (sumB (fun i => bitB a i || bitB b i) 64 : Nat) :=
  bits_sum (fun x y => x || y) a b _ fun i _ => by
    show (BitVec.ofInt 64 a ||| BitVec.ofInt 64 b).toNat.testBit i = _
    rw [BitVec.toNat_or, Nat.testBit_or]
theorem bits_xor (a b : Int) : bits .xor .i64 a b = wrap64 (sumB (fun i => bitB a i != bitB b i) 64 : Nat) :=
  bits_sum (fun x y => x != y) a b _ fun i _ => by
    show (BitVec.ofInt 64 a ^^^ BitVec.ofInt 64 b).toNat.testBit i = _
    rw [BitVec.toNat_xor, Nat.testBit_xor]

/-! ### what the operations make -/
def lngV (op a b : Int) : Int :=
  if op = 1 then wrap64 (a + b) else if op = 2 then wrap64 (a - b) else if op = 3 then wrap64 (a * b)
  else if op = 4 then (if b = 0 then 0 else wrap64 (a.tdiv b)) else if op = 5 then (if b = 0 then 0 else a.tmod b)
  else if op = 6 ∨ op = 7 ∨ op = 8 then wrap64 (sumB (fun i => opB op (bitB a i) (bitB b i)) 64 : Nat) else 0
def lngB (op b : Int) : Bool := decide (1 ≤ op ∧ op ≤ 8 ∧ ¬ (b = 0 ∧ (op = 4 ∨ op = 5)))
def cmpV (a b : Int) : Int := if a < b then -1 else if b < a then 1 else 0
def hldB (c a : Int) : Bool := (decide (c = 1) && decide (a = 0)) || (decide (c = 2) && decide (a < 0)) || (decide (c = 3) && decide (a ≠ 0)) || (decide (c = 4) && decide (0 < a))

theorem lng_and (a b : Int) : lngV 6 a b = bits .and .i64 a b := by rw [bits_and]; simp [lngV, opB]
theorem lng_or (a b : Int) : lngV 7 a b = bits .or .i64 a b := by rw [bits_or]; simp [lngV, opB]
theorem lng_xor (a b : Int) : lngV 8 a b = bits .xor .i64 a b := by rw [bits_xor]; simp [lngV, opB]

end Go.Proofs.Ytgiiapenmjollab
namespace Go.Proofs.Ytgiiapenmjollab
open Go.RowKit

/-- The number of the class above. -/
def par (l : List Cl) (c : Nat) : Nat := (nth cl0 l c).super.toNat
def upsF (l : List Cl) : Nat → Nat → List Nat
  | 0, _ => []
  | k + 1, c => c :: if c = 0 then [] else upsF l k (par l c)
/-- From a class up to class 0. -/
def ups (l : List Cl) (c : Nat) : List Nat := upsF l (c + 1) c

structure Tree (l : List Cl) : Prop where
  zero : (nth cl0 l 0).super = -1
  up : ∀ c, 0 < c → c < l.length → 0 ≤ (nth cl0 l c).super ∧ (nth cl0 l c).super < c

theorem may_tree {l : List Cl} (h : mayB l = true) : Tree l ∧ 4 ≤ l.length ∧ l.length ≤ 12 := by
  unfold mayB at h
  rw [Bool.and_eq_true, decide_eq_true_eq, List.all_eq_true] at h
  refine ⟨⟨h.1.2.2, fun c h0 hc => ?_⟩, h.1.1, h.1.2.1⟩
  have := h.2 c (by simpa using hc)
  unfold clB at this
  rw [Bool.and_eq_true, decide_eq_true_eq] at this
  rcases this.1.1 with h1 | h1
  · omega
  · exact h1

section
variable {l : List Cl}

theorem par_lt (ht : Tree l) {c : Nat} (h0 : 0 < c) (hc : c < l.length) : par l c < c := by
  have := ht.up c h0 hc
  unfold par; omega
theorem super_par (ht : Tree l) {c : Nat} (h0 : 0 < c) (hc : c < l.length) : (nth cl0 l c).super = (par l c : Nat) := by
  have := ht.up c h0 hc
  unfold par; omega

theorem upsF_more (ht : Tree l) (c : Nat) : ∀ k, c < l.length → c < k → upsF l k c = upsF l (c + 1) c := by
  induction c using Nat.strongRecOn with
  | _ c ih =>
    intro k hc hk
    obtain ⟨k, rfl⟩ : ∃ k', k = k' + 1 := ⟨k - 1, by omega⟩
    unfold upsF
    by_cases h0 : c = 0
    · rw [if_pos h0, if_pos h0]
    · rw [if_neg h0, if_neg h0]
      have hp := par_lt ht (by omega) hc
      rw [ih _ hp k (by omega) (by omega), ih _ hp c (by omega) (by omega)]

theorem ups_zero : ups l 0 = [0] := rfl
theorem ups_step (ht : Tree l) {c : Nat} (h0 : 0 < c) (hc : c < l.length) : ups l c = c :: ups l (par l c) := by
  have hp := par_lt ht h0 hc
  show upsF l (c + 1) c = _
  rw [upsF, if_neg (by omega), upsF_more ht _ _ (by omega) hp]
  rfl
theorem ups_head (c : Nat) : c ∈ ups l c := by unfold ups upsF; simp

theorem ups_le (ht : Tree l) (c : Nat) (hc : c < l.length) : ∀ x, x ∈ ups l c → x ≤ c := by
  induction c using Nat.strongRecOn with
  | _ c ih =>
    intro x hx
    by_cases h0 : c = 0
    · subst h0; rw [ups_zero] at hx; simp at hx; omega
    · rw [ups_step ht (by omega) hc] at hx
      have hp := par_lt ht (by omega) hc
      rcases List.mem_cons.1 hx with rfl | hx
      · exact Nat.le_refl _
      · have := ih _ hp (by omega) x hx; omega

theorem ups_root (ht : Tree l) (c : Nat) (hc : c < l.length) : 0 ∈ ups l c := by
  induction c using Nat.strongRecOn with
  | _ c ih =>
    by_cases h0 : c = 0
    · subst h0; exact ups_head 0
    · rw [ups_step ht (by omega) hc]
      have hp := par_lt ht (by omega) hc
      exact List.mem_cons_of_mem _ (ih _ hp (by omega))

theorem ups_pair (ht : Tree l) (c : Nat) (hc : c < l.length) : (ups l c).Pairwise (fun x y => y < x) := by
  induction c using Nat.strongRecOn with
  | _ c ih =>
    by_cases h0 : c = 0
    · subst h0; rw [ups_zero]; simp
    · rw [ups_step ht (by omega) hc]
      have hp := par_lt ht (by omega) hc
      refine List.Pairwise.cons (fun y hy => ?_) (ih _ hp (by omega))
      have := ups_le ht _ (by omega) y hy; omega

theorem ups_mid (ht : Tree l) {j e : Nat} (c : Nat) (hc : c < l.length) (hj : j ∈ ups l c) : e ∈ ups l j ↔ e ∈ ups l c ∧ e ≤ j := by
  induction c using Nat.strongRecOn with
  | _ c ih =>
    by_cases h0 : c = 0
    · subst h0; rw [ups_zero] at hj; simp at hj; subst hj
      rw [ups_zero]; simp
    · have hp := par_lt ht (by omega) hc
      have hs := ups_step ht (by omega) hc
      rw [hs] at hj
      rcases List.mem_cons.1 hj with rfl | hj
      · exact ⟨fun h => ⟨h, ups_le ht _ hc _ h⟩, fun h => h.1⟩
      · have hle := ups_le ht _ (by omega) _ hj
        rw [ih _ hp (by omega) hj, hs, List.mem_cons]
        constructor
        · rintro ⟨h1, h2⟩; exact ⟨.inr h1, h2⟩
        · rintro ⟨h1 | h1, h2⟩
          · omega
          · exact ⟨h1, h2⟩

/-- j is the greatest class that both are below. -/
def IsJoin (l : List Cl) (c d j : Nat) : Prop := j ∈ ups l c ∧ j ∈ ups l d ∧ ∀ x, x ∈ ups l c → x ∈ ups l d → x ≤ j
theorem IsJoin.one {c d i j : Nat} (h : IsJoin l c d i) (k : IsJoin l c d j) : i = j :=
  Nat.le_antisymm (k.2.2 _ h.1 h.2.1) (h.2.2 _ k.1 k.2.1)
theorem IsJoin.symm {c d i : Nat} (h : IsJoin l c d i) : IsJoin l d c i := ⟨h.2.1, h.1, fun x a b => h.2.2 x b a⟩
theorem join_cut (ht : Tree l) {c d j : Nat} (hc : c < l.length) {pre post : List Nat} (hu : ups l c = pre ++ j :: post) (hp : ∀ x ∈ pre, x ∉ ups l d) (hj : j ∈ ups l d) : IsJoin l c d j := by
  refine ⟨by rw [hu]; simp, hj, fun x hx hxd => ?_⟩
  have hpw := ups_pair ht c hc
  rw [hu] at hx hpw
  rcases List.mem_append.1 hx with hx | hx
  · exact absurd hxd (hp x hx)
  · rcases List.mem_cons.1 hx with rfl | hx
    · exact Nat.le_refl _
    · have := (List.pairwise_append.1 hpw).2.1
      have := (List.pairwise_cons.1 this).1 x hx
      omega

/-- The greatest class that both are below. -/
def joinN (l : List Cl) (c d : Nat) : Nat := ((ups l c).filter (fun x => decide (x ∈ ups l d))).foldl max 0
theorem most {j : Nat} : ∀ (L : List Nat) (a : Nat), a ≤ j → (∀ x ∈ L, x ≤ j) → (j = a ∨ j ∈ L) → L.foldl max a = j
  | [], a, _, _, h => by
    rcases h with h | h
    · exact h.symm
    · cases h
  | x :: L, a, ha, hL, h => by
    have hx := hL x (by simp)
    refine most L (max a x) (by omega) (fun y hy => hL y (List.mem_cons_of_mem _ hy)) ?_
    rcases h with h | h
    · left; omega
    · rcases List.mem_cons.1 h with h | h
      · left; omega
      · exact Or.inr h
theorem join_is {c d j : Nat} (h : IsJoin l c d j) : joinN l c d = j := by
  refine most _ _ (Nat.zero_le _) (fun x hx => ?_) (Or.inr ?_)
  · rw [List.mem_filter, decide_eq_true_eq] at hx
    exact h.2.2 x hx.1 hx.2
  · rw [List.mem_filter, decide_eq_true_eq]
    exact ⟨h.1, h.2.1⟩
theorem join_there (ht : Tree l) (c d : Nat) (hc : c < l.length) (hd : d < l.length) : IsJoin l c d (joinN l c d) := by
  suffices h : ∃ j, IsJoin l c d j by obtain ⟨j, h⟩ := h; rw [join_is h]; exact h
  have key : ∀ (post pre : List Nat), ups l c = pre ++ post → (∀ x ∈ pre, x ∉ ups l d) → 0 ∈ post → ∃ j, IsJoin l c d j := by
    intro post
    induction post with
    | nil => intro pre _ _ h; simp at h
    | cons x post ih =>
      intro pre hu hp h0
      by_cases hx : x ∈ ups l d
      · exact ⟨x, join_cut ht hc hu hp hx⟩
      · rcases List.mem_cons.1 h0 with rfl | h0
        · exact absurd (ups_root ht d hd) hx
        · refine ih (pre ++ [x]) (by simp [hu]) ?_ h0
          intro y hy
          rcases List.mem_append.1 hy with hy | hy
          · exact hp y hy
          · simp at hy; subst hy; exact hx
  exact key _ [] rfl (by simp) (ups_root ht c hc)

/-- Is c below d? -/
def belN (l : List Cl) (c d : Nat) : Bool := decide (d ∈ ups l c)
theorem bel_iff {c d : Nat} : belN l c d = true ↔ d ∈ ups l c := by unfold belN; simp
theorem bel_self (c : Nat) : belN l c c = true := bel_iff.2 (ups_head c)
theorem bel_step (ht : Tree l) {c d : Nat} (hc : c < l.length) (hd : d < c) : belN l c d = belN l (par l c) d := by
  unfold belN
  rw [ups_step ht (by omega) hc]
  have : d ≠ c := by omega
  simp [this]
theorem bel_low (ht : Tree l) {c d : Nat} (hc : c < l.length) (hd : c < d) : belN l c d = false := by
  unfold belN
  rw [decide_eq_false_iff_not]
  intro h; have := ups_le ht _ hc _ h; omega

/-- What Below and Join answer, of any numbers. -/
def clsI (l : List Cl) (c d : Int) : Bool := decide (0 ≤ c ∧ c < l.length ∧ 0 ≤ d ∧ d < l.length)
def belV (l : List Cl) (c d : Int) : Bool := mayB l && clsI l c d && belN l c.toNat d.toNat
def joinV (l : List Cl) (c d : Int) : Int := if (mayB l && clsI l c d) = true then (joinN l c.toNat d.toNat : Nat) else -1
end
end Go.Proofs.Ytgiiapenmjollab
