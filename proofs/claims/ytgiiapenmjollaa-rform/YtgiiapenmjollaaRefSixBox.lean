/-
  What lies in boxes while the document looks at an instruction on registers.
-/
import Derived.Test.YtgiiapenmjollaaRefSix
import Derived.Test.YtgiiapenmjollaaRefIns
namespace Go.Proofs.Ytgiiapenmjollaa
open Go.RowKit
set_option linter.unusedVariables false
set_option linter.unusedSimpArgs false

/-- Three numbers in a block. -/
def Cells3 (w : World) (b : Nat) (x y z : Int) : Prop := w.cell? ⟨b, 0, none⟩ = some (.int .i64 x) ∧ w.cell? ⟨b, 1, none⟩ = some (.int .i64 y) ∧ w.cell? ⟨b, 2, none⟩ = some (.int .i64 z)
def three (x y z : Int) (k : Nat) : Int := if k = 0 then x else if k = 1 then y else z
theorem Cells3.at {w : World} {b : Nat} {x y z : Int} (h : Cells3 w b x y z) (k : Nat) (hk : k < 3) : w.cell? ⟨b, k, none⟩ = some (.int .i64 (three x y z k)) := by
  have : k = 0 ∨ k = 1 ∨ k = 2 := by omega
  rcases this with rfl | rfl | rfl
  · exact h.1
  · exact h.2.1
  · exact h.2.2
theorem Cells3.bl {w w' : World} (h : Bl w w') {b : Nat} {x y z : Int} (hb : Cells3 w b x y z) : Cells3 w' b x y z := ⟨h.cell hb.1, h.cell hb.2.1, h.cell hb.2.2⟩
theorem InBox.bl {w w' : World} (h : Bl w w') {b off : Nat} {i : In} {Q : Option Addr} {q : Nat} (hb : InBox w b off i Q q) : InBox w' b off i Q q :=
  ⟨h.cell hb.1, h.cell hb.2.1, h.cell hb.2.2.1, h.cell hb.2.2.2.1, h.cell hb.2.2.2.2.1, h.cell hb.2.2.2.2.2⟩

theorem InBox.lit {w : World} {b : Nat} {i : In} {Q : Option Addr} {q : Nat} (h : InBox w b 0 i Q q) :
    w.cell? ⟨b, 0, none⟩ = some (.int .i64 i.op) ∧ w.cell? ⟨b, 1, none⟩ = some (.int .i64 i.a) ∧ w.cell? ⟨b, 2, none⟩ = some (.int .i64 i.b) ∧ w.cell? ⟨b, 3, none⟩ = some (.int .i64 i.c) ∧ w.cell? ⟨b, 4, none⟩ = some (.int .i64 i.n) ∧ w.cell? ⟨b, 5, none⟩ = some (.slice Q i.args.length q) := h
theorem MeBox.lit {w : World} {b : Nat} {m : Me} {P C K : Option Addr} {p c k : Nat} (h : MeBox w b 0 m P C K p c k) :
    w.cell? ⟨b, 0, none⟩ = some (.slice P m.params.length p) ∧ w.cell? ⟨b, 1, none⟩ = some (.int .i64 m.ret.kind) ∧ w.cell? ⟨b, 2, none⟩ = some (.int .i64 m.ret.cls)
    ∧ w.cell? ⟨b, 3, none⟩ = some (.int .i64 m.stack) ∧ w.cell? ⟨b, 4, none⟩ = some (.int .i64 m.locs) ∧ w.cell? ⟨b, 5, none⟩ = some (.int .i64 m.regs)
    ∧ w.cell? ⟨b, 6, none⟩ = some (.slice C m.code.length c) ∧ w.cell? ⟨b, 7, none⟩ = some (.slice K m.hands.length k) := h
theorem FiBox.lit {w : World} {b nc nm : Nat} {A B : Option Addr} {x y : Nat} (h : FiBox w b 0 nc nm A B x y) : w.cell? ⟨b, 0, none⟩ = some (.slice A nc x) ∧ w.cell? ⟨b, 1, none⟩ = some (.slice B nm y) := h

/-- All that lies in boxes while an instruction is looked at. -/
structure RBox (w : World) (s nc nm : Nat) (A B : Option Addr) (a b : Nat) (m : Me) (P C K : Option Addr) (p c k : Nat) (i : In) (Q : Option Addr) (q : Nat) (x y z : Int) : Prop where
  rf : FiBox w s 0 nc nm A B a b
  rm : MeBox w (s + 1) 0 m P C K p c k
  ri : InBox w (s + 1 + 1) 0 i Q q
  rk : Cells3 w (s + 1 + 1 + 1) x y z
  rd : Cells3 w (s + 1 + 1 + 1 + 1) i.a i.b i.c
theorem RBox.bl {w w' : World} (h : Bl w w') {s nc nm : Nat} {A B : Option Addr} {a b : Nat} {m : Me} {P C K : Option Addr} {p c k : Nat} {i : In} {Q : Option Addr} {q : Nat} {x y z : Int} (hb : RBox w s nc nm A B a b m P C K p c k i Q q x y z) : RBox w' s nc nm A B a b m P C K p c k i Q q x y z :=
  ⟨hb.rf.bl h, hb.rm.bl h, hb.ri.bl h, hb.rk.bl h, hb.rd.bl h⟩

/-- Five boxes. -/
abbrev boxed5 (w : World) (nc nm : Nat) (A B : Option Addr) (a b : Nat) (m : Me) (P C K : Option Addr) (p c k : Nat) (i : In) (Q : Option Addr) (q : Nat) (x y z : Int) : World :=
  (((((w.alloc (.cells #[.slice A nc a, .slice B nm b] 36)).alloc (.cells #[.slice P m.params.length p, .int .i64 m.ret.kind, .int .i64 m.ret.cls, .int .i64 m.stack, .int .i64 m.locs, .int .i64 m.regs, .slice C m.code.length c, .slice K m.hands.length k] 57)).alloc
    (.cells #[.int .i64 i.op, .int .i64 i.a, .int .i64 i.b, .int .i64 i.c, .int .i64 i.n, .slice Q i.args.length q] 51)).alloc (.cells #[.int .i64 x, .int .i64 y, .int .i64 z] 3)).alloc (.cells #[.int .i64 i.a, .int .i64 i.b, .int .i64 i.c] 3))
theorem boxed5_is (w : World) (nc nm : Nat) (A B : Option Addr) (a b : Nat) (m : Me) (P C K : Option Addr) (p c k : Nat) (i : In) (Q : Option Addr) (q : Nat) (x y z : Int) :
    RBox (boxed5 w nc nm A B a b m P C K p c k i Q q x y z) w.heap.size nc nm A B a b m P C K p c k i Q q x y z := by
  obtain ⟨w1, h1⟩ : ∃ w1, w.alloc (.cells #[.slice A nc a, .slice B nm b] 36) = w1 := ⟨_, rfl⟩
  obtain ⟨w2, h2⟩ : ∃ w2, w1.alloc (.cells #[.slice P m.params.length p, .int .i64 m.ret.kind, .int .i64 m.ret.cls, .int .i64 m.stack, .int .i64 m.locs, .int .i64 m.regs, .slice C m.code.length c, .slice K m.hands.length k] 57) = w2 := ⟨_, rfl⟩
  obtain ⟨w3, h3⟩ : ∃ w3, w2.alloc (.cells #[.int .i64 i.op, .int .i64 i.a, .int .i64 i.b, .int .i64 i.c, .int .i64 i.n, .slice Q i.args.length q] 51) = w3 := ⟨_, rfl⟩
  obtain ⟨w4, h4⟩ : ∃ w4, w3.alloc (.cells #[.int .i64 x, .int .i64 y, .int .i64 z] 3) = w4 := ⟨_, rfl⟩
  obtain ⟨w5, h5⟩ : ∃ w5, w4.alloc (.cells #[.int .i64 i.a, .int .i64 i.b, .int .i64 i.c] 3) = w5 := ⟨_, rfl⟩
  have s1 : w1.heap.size = w.heap.size + 1 := by rw [← h1, World.size_alloc]
  have s2 : w2.heap.size = w.heap.size + 1 + 1 := by rw [← h2, World.size_alloc, s1]
  have s3 : w3.heap.size = w.heap.size + 1 + 1 + 1 := by rw [← h3, World.size_alloc, s2]
  have s4 : w4.heap.size = w.heap.size + 1 + 1 + 1 + 1 := by rw [← h4, World.size_alloc, s3]
  have e : boxed5 w nc nm A B a b m P C K p c k i Q q x y z = w5 := by rw [← h5, ← h4, ← h3, ← h2, ← h1]
  rw [e]
  have b45 : Bl w4 w5 := by rw [← h5]; exact (Bl.refl _).alloc _
  have b35 : Bl w3 w5 := Bl.trans (by rw [← h4]; exact (Bl.refl _).alloc _) b45
  have b25 : Bl w2 w5 := Bl.trans (by rw [← h3]; exact (Bl.refl _).alloc _) b35
  have b15 : Bl w1 w5 := Bl.trans (by rw [← h2]; exact (Bl.refl _).alloc _) b25
  refine ⟨FiBox.bl b15 ?_, MeBox.bl b25 ?_, InBox.bl b35 ?_, Cells3.bl b45 ?_, ?_⟩
  · rw [← h1]; exact ⟨cell_of_new rfl, cell_of_new rfl⟩
  · rw [← h2, ← s1]; exact ⟨cell_of_new rfl, cell_of_new rfl, cell_of_new rfl, cell_of_new rfl, cell_of_new rfl, cell_of_new rfl, cell_of_new rfl, cell_of_new rfl⟩
  · rw [← h3, ← s2]; exact ⟨cell_of_new rfl, cell_of_new rfl, cell_of_new rfl, cell_of_new rfl, cell_of_new rfl, cell_of_new rfl⟩
  · rw [← h4, ← s3]; exact ⟨cell_of_new rfl, cell_of_new rfl, cell_of_new rfl⟩
  · rw [← h5, ← s4]; exact ⟨cell_of_new rfl, cell_of_new rfl, cell_of_new rfl⟩

theorem rin_field {cs : List Cl} {ms : List Me} {nc : Nat} {regs ret : Int} {i : In} {x y z : Int} (h : kindsOf i.op = some (x, y, z)) {k : Nat} (hk : k < 3) (hb : rfldB regs (three i.a i.b i.c k) (three x y z k) = false) : rinB cs ms nc regs ret i = false := by
  unfold rinB; rw [h]
  have : k = 0 ∨ k = 1 ∨ k = 2 := by omega
  rcases this with rfl | rfl | rfl <;> simp [three] at hb <;> simp [hb]
theorem rin_rest {cs : List Cl} {ms : List Me} {nc : Nat} {regs ret : Int} {i : In} {x y z : Int} (h : kindsOf i.op = some (x, y, z)) (hb : ∀ k, k < 3 → rfldB regs (three i.a i.b i.c k) (three x y z k) = true) : rinB cs ms nc regs ret i = rrestB cs ms nc regs ret i := by
  unfold rinB; rw [h]
  have h0 := hb 0 (by omega)
  have h1 := hb 1 (by omega)
  have h2 := hb 2 (by omega)
  simp [three] at h0 h1 h2
  simp [h0, h1, h2]

end Go.Proofs.Ytgiiapenmjollaa
