/-
  From 'the argument reads as data' to what lies in memory: classes, methods, files that come in are opened whole.
-/
import Derived.Test.YtgiiapenmjollacChecked
import Derived.Test.YtgiiapenmjollacLData
import Derived.KernelRfl
import Derived.ProofKit
import Derived.OpenShut
import Derived.ReadAgain
namespace Go.Proofs.Ytgiiapenmjollac
open Go.ChangeShapes Go.WideShapes Go.ChangeAt Go.RowKit Go.Deep

theorem cellsTy : Try.prog.cellsOf 36 = 2 := by kernel_rfl
theorem cellsCl : Try.prog.cellsOf 55 = 2 := by kernel_rfl
theorem cellsTys : Try.prog.cellsOf 34 = 1 := by kernel_rfl
theorem cellsInt : Try.prog.cellsOf 3 = 1 := by kernel_rfl

theorem take_one {cs : List Value} {o : Nat} {v : Value} (h : (cs.drop o).take 1 = [v]) : cs[o]? = some v := by
  have h1 : ((cs.drop o).take 1)[0]? = some v := by rw [h]; rfl
  simpa [List.getElem?_take, List.getElem?_drop] using h1

section
variable {H : Type} {enc : TypeId × Value → H} {w : World} {base : Nat} {spare : Nat → Bool} {held : Bool}

/-- One integer among a struct's cells. -/
theorem fld_int {t : TypeId} {P : Program} {fuel o : Nat} {cs : List Value} {y : Option (DataW H × List MemPlace)} (ht : P.underlying t = some (.int .i64)) (hc : P.cellsOf t = 1) (hy : y ≠ none)
    (h : DataW.trod enc P w base spare held fuel t ((cs.drop o).take (P.cellsOf t)) = y) : ∃ n, cs[o]? = some (.int .i64 n) ∧ I64 n := by
  obtain ⟨x, rfl⟩ := Option.ne_none_iff_exists'.1 hy
  obtain ⟨n, hn, -, hw⟩ := DataW.trod_int ht h
  rw [hc] at hn
  exact ⟨n, take_one hn, bounds_i64 hw⟩

/-- A slice whose elements are opened one by one: as a list. -/
theorem open_row {E : Type} (d : E) {R : E → List Value → Prop} {P : Program} {t e : TypeId} {s fuel : Nat} {cs : List Value} {x : DataW H × List MemPlace}
    (ht : P.underlying t = some (.slice e)) (hs : P.cellsOf e = s) (h0 : 0 < s)
    (he : ∀ (fuel : Nat) (cs : List Value) (x : DataW H × List MemPlace), DataW.trod enc P w base spare held fuel e cs = some x → ∃ z : E, R z cs)
    (h : DataW.trod enc P w base spare held fuel t cs = some x) :
    ∃ (A : Option Addr) (l : List E) (c : Nat), cs = [.slice A l.length c] ∧ l.length ≤ maxLen ∧ (l.length = 0 ∨ ∃ b off, A = some ⟨b, off, none⟩ ∧
      ∀ i, i < l.length → ∃ vs, R (nth d l i) vs ∧ ∀ j, j < s → w.cell? ⟨b, off + i * s + j, none⟩ = vs[j]?) := by
  rcases open_slice ht h with ⟨rfl, -⟩ | ⟨a, len, cap, m, n, D, Pl, rfl, hb, hl, hm, hmm, -, hx⟩
  · exact ⟨none, [], 0, rfl, Nat.zero_le _, Or.inl rfl⟩
  have hlm : len ≤ m := by rw [hmm]; split <;> omega
  rw [hs] at hx
  obtain ⟨f, hf⟩ := @choose_lt E ⟨d⟩ len ( fun i z => ∃ vs, R z vs ∧ vs.length = s ∧ ∀ j, j < s → w.cell? ((a.add (i * s)).add j) = vs[j]?) (fun i hi => by
    obtain ⟨cs', h1, h2⟩ := hx i (by omega)
    obtain ⟨z, hz⟩ := he _ _ _ h2
    obtain ⟨-, hlen, hcell⟩ := World.cells?_some h1
    exact ⟨z, cs', hz, hlen, hcell⟩)
  refine ⟨some a, (List.range len).map f, cap, by simp, by simp; omega, ?_⟩
  simp only [List.length_map, List.length_range]
  by_cases hz : len = 0
  · exact Or.inl hz
  right
  obtain ⟨b, off, spot⟩ := a
  have hspot : spot = none := by
    obtain ⟨vs, -, hlen, hcell⟩ := hf 0 (by omega)
    have g := hcell 0 h0
    rw [List.getElem?_eq_getElem (by omega)] at g
    simpa [Addr.add] using World.cell?_spot g
  subst hspot
  refine ⟨b, off, rfl, fun i hi => ?_⟩
  obtain ⟨vs, hR, -, hcell⟩ := hf i hi
  refine ⟨vs, ?_, fun j hj => ?_⟩
  · have : nth d ((List.range len).map f) i = f i := by rw [nth_get (by simpa using hi)]; simp
    rw [this]; exact hR
  · have := hcell j hj
    rw [add_add, add_plain, ← Nat.add_assoc] at this
    exact this

theorem open_ty {fuel : Nat} {cs : List Value} {x : DataW H × List MemPlace} (h : DataW.trod enc Try.prog w base spare held fuel 36 cs = some x) :
    ∃ t : Ty, (cs[0]? = some (.int .i64 t.kind) ∧ cs[1]? = some (.int .i64 t.cls)) ∧ I64 t.kind ∧ I64 t.cls := by
  obtain ⟨xs, n, rfl, rfl, hl, hn, hf⟩ := DataW.trod_struct Try.underlying36 h
  have hn' : xs.length = 2 := hn
  obtain ⟨k, h0, w0⟩ := fld_int Try.underlying3 cellsInt (by simp [hn']) (hf 0 _ rfl)
  obtain ⟨c, h1, w1⟩ := fld_int Try.underlying3 cellsInt (by simp [hn']) (hf 1 _ rfl)
  exact ⟨⟨k, c⟩, ⟨h0, h1⟩, w0, w1⟩

theorem open_tys {fuel : Nat} {cs : List Value} {x : DataW H × List MemPlace} (h : DataW.trod enc Try.prog w base spare held fuel 34 cs = some x) :
    ∃ (A : Option Addr) (l : List Ty) (c : Nat), cs = [.slice A l.length c] ∧ TysAt w A l := by
  obtain ⟨A, l, c, rfl, hm, hr⟩ := open_row ty0 Try.underlying34 cellsTy (by omega) (fun _ _ _ => open_ty) h
  rcases hr with h0 | ⟨b, off, rfl, hi⟩
  · exact ⟨A, l, c, rfl, hm, Or.inl h0⟩
  refine ⟨_, l, c, rfl, hm, Or.inr ⟨b, off, rfl, fun i hlt => ?_⟩⟩
  obtain ⟨vs, ⟨⟨h0, h1⟩, w0, w1⟩, hc⟩ := hi i hlt
  exact ⟨(hc 0 (by omega)).trans h0, (hc 1 (by omega)).trans h1, w0, w1⟩

/-- A list of one cell among a struct's cells. -/
theorem fld_tys {fuel o : Nat} {cs : List Value} {y : Option (DataW H × List MemPlace)} (hy : y ≠ none)
    (h : DataW.trod enc Try.prog w base spare held fuel 34 ((cs.drop o).take (Try.prog.cellsOf 34)) = y) : ∃ (A : Option Addr) (l : List Ty) (c : Nat), cs[o]? = some (.slice A l.length c) ∧ TysAt w A l := by
  obtain ⟨x, rfl⟩ := Option.ne_none_iff_exists'.1 hy
  obtain ⟨A, l, c, hn, hT⟩ := open_tys h
  rw [cellsTys] at hn
  exact ⟨A, l, c, take_one hn, hT⟩

theorem open_cl {fuel : Nat} {cs : List Value} {x : DataW H × List MemPlace} (h : DataW.trod enc Try.prog w base spare held fuel 55 cs = some x) :
    ∃ t : Cl, cs[0]? = some (.int .i64 t.super) ∧ I64 t.super ∧ ∃ A c, cs[1]? = some (.slice A t.fields.length c) ∧ TysAt w A t.fields := by
  obtain ⟨xs, n, rfl, rfl, hl, hn, hf⟩ := DataW.trod_struct Try.underlying55 h
  have hn' : xs.length = 2 := hn
  obtain ⟨k, h0, w0⟩ := fld_int Try.underlying3 cellsInt (by simp [hn']) (hf 0 _ rfl)
  obtain ⟨A, l, c, h1, w1⟩ := fld_tys (by simp [hn']) (hf 1 _ rfl)
  exact ⟨⟨k, l⟩, h0, w0, A, c, h1, w1⟩

theorem open_cls {fuel : Nat} {cs : List Value} {x : DataW H × List MemPlace} (h : DataW.trod enc Try.prog w base spare held fuel 22 cs = some x) :
    ∃ (A : Option Addr) (l : List Cl) (c : Nat), cs = [.slice A l.length c] ∧ ClsAt w A l := by
  obtain ⟨A, l, c, rfl, hm, hr⟩ := open_row cl0 Try.underlying22 cellsCl (by omega) (fun _ _ _ => open_cl) h
  rcases hr with h0 | ⟨b, off, rfl, hi⟩
  · exact ⟨A, l, c, rfl, hm, Or.inl h0⟩
  refine ⟨_, l, c, rfl, hm, Or.inr ⟨b, off, rfl, fun i hlt => ?_⟩⟩
  obtain ⟨vs, ⟨h0, w0, A', c', h1, w1⟩, hc⟩ := hi i hlt
  exact ⟨(hc 0 (by omega)).trans h0, w0, A', c', (hc 1 (by omega)).trans h1, w1⟩
end
end Go.Proofs.Ytgiiapenmjollac
