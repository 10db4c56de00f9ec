/-
  Classes and their types as plain lists, and where they lie in memory: what is read of a list of classes, cell by cell; it stays so when new memory is laid.
-/
import Derived.WalkKit
import Derived.RowKit3
import Derived.Deep.Slices
import Derived.Below
namespace Go.Proofs.Ytgiiapenmjollac
open Go.RowKit

structure Ty where
  kind : Int
  cls : Int
structure Cl where
  super : Int
  fields : List Ty
structure In where
  op : Int
  a : Int
  b : Int
  c : Int
  n : Int
  args : List Int
structure Hd where
  fr : Int
  til : Int
  pc : Int
  cls : Int
structure Me where
  params : List Ty
  ret : Ty
  stack : Int
  locs : Int
  regs : Int
  code : List In
  hands : List Hd
structure Fi where
  classes : List Cl
  methods : List Me
def ty0 : Ty := ⟨0, 0⟩
def cl0 : Cl := ⟨0, []⟩
def in0 : In := ⟨0, 0, 0, 0, 0, []⟩
def hd0 : Hd := ⟨0, 0, 0, 0⟩
def me0 : Me := ⟨[], ty0, 0, 0, 0, [], []⟩

/-- The element at a place. -/
def nth {α : Type} (d : α) (l : List α) (i : Nat) : α := l.getD i d
theorem nth_mem {α : Type} {d : α} {l : List α} {i : Nat} (h : i < l.length) : nth d l i ∈ l := by simp [nth, List.getD, h]
theorem nth_get {α : Type} {d : α} {l : List α} {i : Nat} (h : i < l.length) : nth d l i = l[i] := by simp [nth, List.getD, h]

def I64 (n : Int) : Prop := -9223372036854775808 ≤ n ∧ n ≤ 9223372036854775807

/-- Types in a row. -/
def TysAt (w : World) (A : Option Addr) (l : List Ty) : Prop :=
  l.length ≤ maxLen ∧ (l.length = 0 ∨ ∃ b off, A = some ⟨b, off, none⟩ ∧ ∀ i, i < l.length →
    w.cell? ⟨b, off + i * 2, none⟩ = some (.int .i64 (nth ty0 l i).kind) ∧ w.cell? ⟨b, off + i * 2 + 1, none⟩ = some (.int .i64 (nth ty0 l i).cls)
    ∧ I64 (nth ty0 l i).kind ∧ I64 (nth ty0 l i).cls)

/-- Classes in a row. -/
def ClsAt (w : World) (A : Option Addr) (l : List Cl) : Prop :=
  l.length ≤ maxLen ∧ (l.length = 0 ∨ ∃ b off, A = some ⟨b, off, none⟩ ∧ ∀ i, i < l.length →
    w.cell? ⟨b, off + i * 2, none⟩ = some (.int .i64 (nth cl0 l i).super) ∧ I64 (nth cl0 l i).super ∧
    ∃ A' c, w.cell? ⟨b, off + i * 2 + 1, none⟩ = some (.slice A' (nth cl0 l i).fields.length c) ∧ TysAt w A' (nth cl0 l i).fields)

/-- Numbers in a row. -/
def IntsAt (w : World) (A : Option Addr) (l : List Int) : Prop :=
  l.length ≤ maxLen ∧ (l.length = 0 ∨ ∃ b off, A = some ⟨b, off, none⟩ ∧ ∀ i, i < l.length → w.cell? ⟨b, off + i, none⟩ = some (.int .i64 (nth (0 : Int) l i)) ∧ I64 (nth (0 : Int) l i))

def In.ok (x : In) : Prop := I64 x.op ∧ I64 x.a ∧ I64 x.b ∧ I64 x.c ∧ I64 x.n
/-- Instructions in a row. -/
def InsAt (w : World) (A : Option Addr) (l : List In) : Prop :=
  l.length ≤ maxLen ∧ (l.length = 0 ∨ ∃ b off, A = some ⟨b, off, none⟩ ∧ ∀ i, i < l.length →
    w.cell? ⟨b, off + i * 6, none⟩ = some (.int .i64 (nth in0 l i).op) ∧ w.cell? ⟨b, off + i * 6 + 1, none⟩ = some (.int .i64 (nth in0 l i).a) ∧ w.cell? ⟨b, off + i * 6 + 2, none⟩ = some (.int .i64 (nth in0 l i).b)
    ∧ w.cell? ⟨b, off + i * 6 + 3, none⟩ = some (.int .i64 (nth in0 l i).c) ∧ w.cell? ⟨b, off + i * 6 + 4, none⟩ = some (.int .i64 (nth in0 l i).n) ∧ (nth in0 l i).ok
    ∧ ∃ A' c, w.cell? ⟨b, off + i * 6 + 5, none⟩ = some (.slice A' (nth in0 l i).args.length c) ∧ IntsAt w A' (nth in0 l i).args)

def Hd.ok (x : Hd) : Prop := I64 x.fr ∧ I64 x.til ∧ I64 x.pc ∧ I64 x.cls
/-- Handlers in a row. -/
def HdsAt (w : World) (A : Option Addr) (l : List Hd) : Prop :=
  l.length ≤ maxLen ∧ (l.length = 0 ∨ ∃ b off, A = some ⟨b, off, none⟩ ∧ ∀ i, i < l.length →
    w.cell? ⟨b, off + i * 4, none⟩ = some (.int .i64 (nth hd0 l i).fr) ∧ w.cell? ⟨b, off + i * 4 + 1, none⟩ = some (.int .i64 (nth hd0 l i).til) ∧ w.cell? ⟨b, off + i * 4 + 2, none⟩ = some (.int .i64 (nth hd0 l i).pc)
    ∧ w.cell? ⟨b, off + i * 4 + 3, none⟩ = some (.int .i64 (nth hd0 l i).cls) ∧ (nth hd0 l i).ok)

def Me.ok (x : Me) : Prop := I64 x.ret.kind ∧ I64 x.ret.cls ∧ I64 x.stack ∧ I64 x.locs ∧ I64 x.regs
/-- What lies behind a method's three lists. -/
def MeAt (w : World) (m : Me) (P C K : Option Addr) : Prop := TysAt w P m.params ∧ InsAt w C m.code ∧ HdsAt w K m.hands ∧ m.ok
/-- Methods in a row. -/
def MesAt (w : World) (A : Option Addr) (l : List Me) : Prop :=
  l.length ≤ maxLen ∧ (l.length = 0 ∨ ∃ b off, A = some ⟨b, off, none⟩ ∧ ∀ i, i < l.length → ∃ P C K p c k,
    w.cell? ⟨b, off + i * 8, none⟩ = some (.slice P (nth me0 l i).params.length p) ∧ w.cell? ⟨b, off + i * 8 + 1, none⟩ = some (.int .i64 (nth me0 l i).ret.kind) ∧ w.cell? ⟨b, off + i * 8 + 2, none⟩ = some (.int .i64 (nth me0 l i).ret.cls)
    ∧ w.cell? ⟨b, off + i * 8 + 3, none⟩ = some (.int .i64 (nth me0 l i).stack) ∧ w.cell? ⟨b, off + i * 8 + 4, none⟩ = some (.int .i64 (nth me0 l i).locs) ∧ w.cell? ⟨b, off + i * 8 + 5, none⟩ = some (.int .i64 (nth me0 l i).regs)
    ∧ w.cell? ⟨b, off + i * 8 + 6, none⟩ = some (.slice C (nth me0 l i).code.length c) ∧ w.cell? ⟨b, off + i * 8 + 7, none⟩ = some (.slice K (nth me0 l i).hands.length k) ∧ MeAt w (nth me0 l i) P C K)

/-- Whatever lay when a call began lies as it lay. -/
def Bl (w w' : World) : Prop := Below w.heap.size w w'
theorem Bl.refl (w : World) : Bl w w := Below.refl _ _
theorem Bl.trans {a b c : World} (h : Bl a b) (k : Bl b c) : Bl a c := Below.trans h (Below.mono k h.size)
theorem Bl.alloc {a w : World} (h : Bl a w) (o : Obj) : Bl a (w.alloc o) := Below.alloc h h.size o
theorem Bl.drew {a w : World} (h : Bl a w) : Bl a w.drew := Below.drew h
theorem Bl.size {a w : World} (h : Bl a w) : a.heap.size ≤ w.heap.size := Below.size h
theorem cell_lt {w : World} {b o : Nat} {v : Value} (hc : w.cell? ⟨b, o, none⟩ = some v) : b < w.heap.size := by
  by_cases hb : b < w.heap.size
  · exact hb
  · simp [World.cell?, hb] at hc
theorem cell_of_new {w : World} {cs : Array Value} {t : TypeId} {o : Nat} {v : Value} (h : cs[o]? = some v) : (w.alloc (.cells cs t)).cell? ⟨w.heap.size, o, none⟩ = some v := by
  have e : (w.alloc (.cells cs t)).heap[w.heap.size]? = some (.cells cs t) := by
    show (w.heap.push _)[w.heap.size]? = _
    simp
  unfold World.cell?
  rw [e]
  simpa using h
theorem Bl.cell {W w' : World} (h : Bl W w') {b o : Nat} {v : Value} (hc : W.cell? ⟨b, o, none⟩ = some v) : w'.cell? ⟨b, o, none⟩ = some v :=
  (Below.cell h (p := ⟨b, o, none⟩) (cell_lt hc)).trans hc

theorem IntsAt.bl {W w' : World} (h : Bl W w') {A : Option Addr} {l : List Int} (hl : IntsAt W A l) : IntsAt w' A l := by
  refine ⟨hl.1, ?_⟩
  rcases hl.2 with h0 | ⟨b, off, rfl, hi⟩
  · exact Or.inl h0
  right
  exact ⟨b, off, rfl, fun i hlt => ⟨h.cell (hi i hlt).1, (hi i hlt).2⟩⟩

theorem InsAt.bl {W w' : World} (h : Bl W w') {A : Option Addr} {l : List In} (hl : InsAt W A l) : InsAt w' A l := by
  refine ⟨hl.1, ?_⟩
  rcases hl.2 with h0 | ⟨b, off, rfl, hi⟩
  · exact Or.inl h0
  right
  refine ⟨b, off, rfl, fun i hlt => ?_⟩
  obtain ⟨h0, h1, h2, h3, h4, h5, A', c, h6, h7⟩ := hi i hlt
  exact ⟨h.cell h0, h.cell h1, h.cell h2, h.cell h3, h.cell h4, h5, A', c, h.cell h6, h7.bl h⟩

theorem HdsAt.bl {W w' : World} (h : Bl W w') {A : Option Addr} {l : List Hd} (hl : HdsAt W A l) : HdsAt w' A l := by
  refine ⟨hl.1, ?_⟩
  rcases hl.2 with h0 | ⟨b, off, rfl, hi⟩
  · exact Or.inl h0
  right
  refine ⟨b, off, rfl, fun i hlt => ?_⟩
  obtain ⟨h0, h1, h2, h3, h4⟩ := hi i hlt
  exact ⟨h.cell h0, h.cell h1, h.cell h2, h.cell h3, h4⟩

theorem TysAt.bl {W w' : World} (h : Bl W w') {A : Option Addr} {l : List Ty} (hl : TysAt W A l) : TysAt w' A l := by
  refine ⟨hl.1, ?_⟩
  rcases hl.2 with h0 | ⟨b, off, rfl, hi⟩
  · exact Or.inl h0
  right
  exact ⟨b, off, rfl, fun i hlt => ⟨h.cell (hi i hlt).1, h.cell (hi i hlt).2.1, (hi i hlt).2.2⟩⟩

theorem ClsAt.bl {W w' : World} (h : Bl W w') {A : Option Addr} {l : List Cl} (hl : ClsAt W A l) : ClsAt w' A l := by
  refine ⟨hl.1, ?_⟩
  rcases hl.2 with h0 | ⟨b, off, rfl, hi⟩
  · exact Or.inl h0
  right
  refine ⟨b, off, rfl, fun i hlt => ⟨h.cell (hi i hlt).1, (hi i hlt).2.1, ?_⟩⟩
  obtain ⟨A', c, h1, h2⟩ := (hi i hlt).2.2
  exact ⟨A', c, h.cell h1, h2.bl h⟩

theorem MeAt.bl {W w' : World} (h : Bl W w') {m : Me} {P C K : Option Addr} (hl : MeAt W m P C K) : MeAt w' m P C K :=
  ⟨hl.1.bl h, hl.2.1.bl h, hl.2.2.1.bl h, hl.2.2.2⟩

theorem MesAt.bl {W w' : World} (h : Bl W w') {A : Option Addr} {l : List Me} (hl : MesAt W A l) : MesAt w' A l := by
  refine ⟨hl.1, ?_⟩
  rcases hl.2 with h0 | ⟨b, off, rfl, hi⟩
  · exact Or.inl h0
  right
  refine ⟨b, off, rfl, fun i hlt => ?_⟩
  obtain ⟨P, C, K, p, c, k, h0, h1, h2, h3, h4, h5, h6, h7, h8⟩ := hi i hlt
  exact ⟨P, C, K, p, c, k, h.cell h0, h.cell h1, h.cell h2, h.cell h3, h.cell h4, h.cell h5, h.cell h6, h.cell h7, h8.bl h⟩

/-- May a type be that of a value, among n classes? -/
def tyB (n : Nat) (t : Ty) : Bool := decide ((t.kind = 3 ∧ 0 ≤ t.cls ∧ t.cls < n) ∨ ((t.kind = 1 ∨ t.kind = 2) ∧ t.cls = 0))

/-- Is the class i as it may be? -/
def clB (l : List Cl) (i : Nat) : Bool :=
  decide ((i = 0 ∨ (0 ≤ (nth cl0 l i).super ∧ (nth cl0 l i).super < i)) ∧ (nth cl0 l i).fields.length ≤ 6) && (nth cl0 l i).fields.all (tyB l.length)
/-- May the classes be? -/
def mayB (l : List Cl) : Bool := decide (4 ≤ l.length ∧ l.length ≤ 12 ∧ (nth cl0 l 0).super = -1) && (List.range l.length).all (clB l)

theorem may_few {l : List Cl} (h : l.length < 4 ∨ 12 < l.length ∨ (nth cl0 l 0).super ≠ -1) : mayB l = false := by
  have : ¬ (4 ≤ l.length ∧ l.length ≤ 12 ∧ (nth cl0 l 0).super = -1) := by omega
  unfold mayB; rw [decide_eq_false this]; rfl
theorem may_cl {l : List Cl} {i : Nat} (hi : i < l.length) (h : clB l i = false) : mayB l = false := by
  have : (List.range l.length).all (clB l) = false := by
    rw [List.all_eq_false]; exact ⟨i, by simpa using hi, by simp [h]⟩
  simp [mayB, this]
theorem cl_bad {l : List Cl} {i : Nat} (h : ¬ ((i = 0 ∨ (0 ≤ (nth cl0 l i).super ∧ (nth cl0 l i).super < i)) ∧ (nth cl0 l i).fields.length ≤ 6)) : clB l i = false := by
  unfold clB; rw [decide_eq_false h]; rfl
theorem may_good {l : List Cl} (h : 4 ≤ l.length ∧ l.length ≤ 12 ∧ (nth cl0 l 0).super = -1) (hc : ∀ i, i < l.length → clB l i = true) : mayB l = true := by
  have : (List.range l.length).all (clB l) = true := by
    rw [List.all_eq_true]; intro i hi; exact hc i (by simpa using hi)
  unfold mayB; rw [this, decide_eq_true h]; rfl

end Go.Proofs.Ytgiiapenmjollac
