/-
  The document's bytes of a number.
-/
import Derived.Test.YtgiiapenmjollabMLWirePutB
import Derived.Test.YtgiiapenmjollabMLFut
import Derived.Laws.BytesArg
import Derived.Laws.IdiomStrings
import Derived.Laws.Concat
import Derived.Test.YtgiiapenmjollabMLWireGood
import Derived.Test.YtgiiapenmjollabMLSformForm
import Derived.Test.YtgiiapenmjollabMLRefSixForm
import Derived.Deep.RegionHeld3
namespace Go.Proofs.Ytgiiapenmjollab
open Go.RowKit
set_option maxRecDepth 100000
set_option linter.unusedVariables false
set_option linter.unusedSimpArgs false

def wdN (n : Int) : Nat → Int
  | 0 => n
  | j + 1 => wdN n j / 256
theorem wdN_nth (n : Int) (j : Nat) (hj : j < 8) : nth (0 : Int) (wideL n) (7 - j) = wdN n j % 256 := by
  have : j = 0 ∨ j = 1 ∨ j = 2 ∨ j = 3 ∨ j = 4 ∨ j = 5 ∨ j = 6 ∨ j = 7 := by omega
  rcases this with rfl | rfl | rfl | rfl | rfl | rfl | rfl | rfl
  all_goals
    simp only [wideL, nth, wdN, List.getD_cons_succ, List.getD_cons_zero, Nat.sub_zero, Nat.reduceSub]
    try omega
/-- The array that is filled from behind. -/
def Arr (w wr : World) (n : Int) (j : Nat) : Prop := Bl w wr ∧ w.heap.size < wr.heap.size ∧ (∀ i, i < 8 → ∃ x, wr.cell? ⟨w.heap.size, i, none⟩ = some (.int .u8 x) ∧ (8 ≤ i + j → x = nth (0 : Int) (wideL n) i)) ∧ ∀ i, wr.frozen? ⟨w.heap.size, i, none⟩ = false
theorem Arr.set {w wr : World} {n x : Int} {j : Nat} (h : Arr w wr n j) (hj : j < 8) (hx : x = wdN n j % 256) : Arr w (wr.setCell ⟨w.heap.size, 7 - j, none⟩ (.int .u8 x)) n (j + 1) := by
  obtain ⟨h1, h2, h3, h4⟩ := h
  refine ⟨h1.setCell (Nat.le_refl _) _, by simpa using h2, fun i hi => ?_, fun i => by simpa using h4 i⟩
  obtain ⟨y, hy, hz⟩ := h3 i hi
  by_cases e : i = 7 - j
  · subst e
    exact ⟨x, World.cell?_setCell_same wr _ _ hy, fun _ => by rw [wdN_nth n j hj]; exact hx⟩
  · exact ⟨y, (World.cell?_setCell_other wr _ _ _ (by intro q; injection q; omega)).trans hy, fun _ => hz (by omega)⟩
end Go.Proofs.Ytgiiapenmjollab
namespace Go.Proofs.Ytgiiapenmjollab
open Go.RowKit
set_option maxRecDepth 100000
set_option linter.unusedVariables false
set_option linter.unusedSimpArgs false

/-- Which form a file has: 1 on a stack, 2 on registers, 0 none. -/
def formN (f : Fi) : Int := if smayB f = true then 1 else if rfmayB f = true then 2 else 0
set_option maxHeartbeats 4000000 in
theorem rform_any (f : Fi) (A B : Option Addr) (a b : Nat) (w : World) (hA : ClsAt w A f.classes) (hB : MesAt w B f.methods) :
    Calls Try.prog 7 #[fiV f.classes.length f.methods.length A B a b] w fun e w' => e = .returned (.int .i64 (formN f)) ∧ Bl w w' := by
  have HA := hidW hA
  have HB := hidW hB
  clear hA hB
  have HF : Hid (FiBox (w.alloc (fiO f.classes.length f.methods.length A B a b)) w.heap.size 0 f.classes.length f.methods.length A B a b) := FiBox.new ..
  have HW : Hid (Bl w (w.alloc (fiO f.classes.length f.methods.length A B a b))) := (Bl.refl w).alloc _
  have HN := hidW (show formN f = if smayB f = true then 1 else if rfmayB f = true then 2 else 0 from rfl)
  generalize formN f = N at *
  cases hS : smayB f with
  | true =>
    rw [hS] at HN
    have HS := hidW hS
    clear hS
    go_enter Try.func7, Try.ntmps7
    go_wp2_with (go_at_call 15; refine (rsmay_any f _ _ _ _ _ (HA.out.bl HW.out) (HB.out.bl HW.out)).mono ?_; rintro e w1 ⟨he, g1⟩; rw [HS.out] at he; subst he)
    go_ret
    exact ⟨by rw [HN.out]; rfl, HW.out.trans g1⟩
  | false =>
    cases hR : rfmayB f with
    | true =>
      rw [hS, hR] at HN
      have HS := hidW hS
      have HR := hidW hR
      clear hS hR
      go_enter Try.func7, Try.ntmps7
      go_wp2_with (first
        | (go_at_call 15; refine (rsmay_any f _ _ _ _ _ (HA.out.bl HW.out) (HB.out.bl HW.out)).mono ?_; rintro e w1 ⟨he, g1⟩; rw [HS.out] at he; subst he; have G1 := hidW (HW.out.trans g1); obtain ⟨v0, v1⟩ := HF.out.bl g1; simp only [Nat.zero_add] at v1; clear g1)
        | (go_at_call 16; refine (rfmay_any f _ _ _ _ _ (HA.out.bl G1.out) (HB.out.bl G1.out)).mono ?_; rintro e w2 ⟨he, g2⟩; rw [HR.out] at he; subst he))
      go_ret
      exact ⟨by rw [HN.out]; rfl, G1.out.trans g2⟩
    | false =>
      rw [hS, hR] at HN
      have HS := hidW hS
      have HR := hidW hR
      clear hS hR
      go_enter Try.func7, Try.ntmps7
      go_wp2_with (first
        | (go_at_call 15; refine (rsmay_any f _ _ _ _ _ (HA.out.bl HW.out) (HB.out.bl HW.out)).mono ?_; rintro e w1 ⟨he, g1⟩; rw [HS.out] at he; subst he; have G1 := hidW (HW.out.trans g1); obtain ⟨v0, v1⟩ := HF.out.bl g1; simp only [Nat.zero_add] at v1; clear g1)
        | (go_at_call 16; refine (rfmay_any f _ _ _ _ _ (HA.out.bl G1.out) (HB.out.bl G1.out)).mono ?_; rintro e w2 ⟨he, g2⟩; rw [HR.out] at he; subst he))
      go_ret
      exact ⟨by rw [HN.out]; rfl, G1.out.trans g2⟩

end Go.Proofs.Ytgiiapenmjollab
