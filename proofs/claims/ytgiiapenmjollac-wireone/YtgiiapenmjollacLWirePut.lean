/-
  wire.Put: a file's bytes, or that it may not be.
-/
import Derived.Test.YtgiiapenmjollacLWirePutE
import Derived.Test.YtgiiapenmjollacLWireGood
import Derived.Test.YtgiiapenmjollacLSformForm
import Derived.Test.YtgiiapenmjollacLRformK
namespace Go.Proofs.Ytgiiapenmjollac
open Go.RowKit
set_option maxRecDepth 100000
set_option linter.unusedVariables false
set_option linter.unusedSimpArgs false

/-- What Put answers. -/
def PutQ (f : Fi) (w : World) (e : Ending) (w' : World) : Prop :=
  (putP f = none ∧ e = .returned (.tuple #[.slice none 0 0, .int .i64 2]) ∧ Bl w w') ∨
  (∃ b v, putP f = some b ∧ e = .returned (.tuple #[v, .int .i64 0]) ∧ Rw w w' v b)
theorem row_one (W : World) (x : Int) : Rw W (W.alloc (.cells #[.int .u8 x] 5)) (.slice (some ⟨W.heap.size, 0, none⟩) 1 1) [x] := by
  refine ⟨⟨by simp [bCs], Or.inr ⟨W.heap.size, 1, #[.int .u8 x], rfl, Nat.le_refl _, heap_alloc_new W _, Nat.le_refl _, by unfold maxLen; omega, rfl, rfl⟩⟩, (Bl.refl W).alloc _⟩
theorem row_base {W W' w : World} {v : Value} {l : List Int} (h : Rw W' w v l) (hb : Bl W W') : Rw W w v l := by
  refine ⟨⟨h.row.1, ?_⟩, hb.trans h.bl⟩
  rcases h.row.2 with hn | ⟨g, cap, cur, e, hg, rest⟩
  · exact Or.inl hn
  · exact Or.inr ⟨g, cap, cur, e, Nat.le_trans hb.size hg, rest⟩
set_option maxHeartbeats 8000000 in
theorem put_any (f : Fi) (A B : Option Addr) (a b : Nat) (w : World) (hA : ClsAt w A f.classes) (hB : MesAt w B f.methods) :
    Calls Try.prog 4 #[fiV f.classes.length f.methods.length A B a b] w (PutQ f w) := by
  have HA := hidW hA
  have HB := hidW hB
  clear hA hB
  have HF : Hid (FiBox (w.alloc (fiO f.classes.length f.methods.length A B a b)) w.heap.size 0 f.classes.length f.methods.length A B a b) := FiBox.new ..
  have HW : Hid (Bl w (w.alloc (fiO f.classes.length f.methods.length A B a b))) := (Bl.refl w).alloc _
  cases hS : smayB f with
  | true =>
    have HP := hidW (show putP f = some (1 :: encFi f) by unfold putP; rw [if_pos hS])
    have HL := hidW (encFi_le (smayB_few hS))
    have HS := hidW hS
    clear hS
    go_enter Try.func4, Try.ntmps4
    go_wp2_with (first
      | (go_at_call 6; refine (smay_any f _ _ _ _ _ (HA.out.bl HW.out) (HB.out.bl HW.out)).mono ?_; rintro e w1 ⟨he, g1⟩; rw [HS.out] at he; subst he; have G1 := hidW (HW.out.trans g1); obtain ⟨v0, v1⟩ := HF.out.bl g1; simp only [Nat.zero_add] at v1; have x0 := ((Bl.refl w1).alloc (.cells #[.int .u8 1] 5)).cell v0; have x1 := ((Bl.refl w1).alloc (.cells #[.int .u8 1] 5)).cell v1; clear g1)
      | (go_at_call 7; refine (putFile_any w1 _ _ f _ _ _ _ _ (row_one w1 1) (HA.out.bl G1.out) (HB.out.bl G1.out) (by have := HL.out; simp at *; omega)).mono ?_; rintro e w2 ⟨v2, rfl, r2, o2⟩))
    go_ret2
    exact Or.inr ⟨_, _, HP.out, rfl, row_base r2 G1.out⟩
  | false =>
    cases hR : rfmayB f with
    | true =>
      have HP := hidW (show putP f = some (2 :: encFi f) by unfold putP; rw [hS, hR]; rfl)
      have HL := hidW (encFi_le (rfmayB_few hR))
      have HS := hidW hS
      have HR := hidW hR
      clear hS hR
      go_enter Try.func4, Try.ntmps4
      go_wp2_with (first
        | (go_at_call 6; refine (smay_any f _ _ _ _ _ (HA.out.bl HW.out) (HB.out.bl HW.out)).mono ?_; rintro e w1 ⟨he, g1⟩; rw [HS.out] at he; subst he; have G1 := hidW (HW.out.trans g1); have F1 := hidW (HF.out.bl g1); obtain ⟨v0, v1⟩ := F1.out; simp only [Nat.zero_add] at v1; clear g1)
        | (go_at_call 8; refine (pmay_doc f _ _ _ _ _ (HA.out.bl G1.out) (HB.out.bl G1.out)).mono ?_; rintro e w2 ⟨he, g2⟩; rw [HR.out] at he; subst he; have G2 := hidW (G1.out.trans g2); obtain ⟨u0, u1⟩ := F1.out.bl g2; simp only [Nat.zero_add] at u1; have x0 := ((Bl.refl w2).alloc (.cells #[.int .u8 2] 5)).cell u0; have x1 := ((Bl.refl w2).alloc (.cells #[.int .u8 2] 5)).cell u1; clear g2)
        | (go_at_call 7; refine (putFile_any w2 _ _ f _ _ _ _ _ (row_one w2 2) (HA.out.bl G2.out) (HB.out.bl G2.out) (by have := HL.out; simp at *; omega)).mono ?_; rintro e w3 ⟨v3, rfl, r3, o3⟩))
      go_ret2
      exact Or.inr ⟨_, _, HP.out, rfl, row_base r3 G2.out⟩
    | false =>
      have HP := hidW (show putP f = none by unfold putP; rw [hS, hR]; rfl)
      have HS := hidW hS
      have HR := hidW hR
      clear hS hR
      go_enter Try.func4, Try.ntmps4
      go_wp2_with (first
        | (go_at_call 6; refine (smay_any f _ _ _ _ _ (HA.out.bl HW.out) (HB.out.bl HW.out)).mono ?_; rintro e w1 ⟨he, g1⟩; rw [HS.out] at he; subst he; have G1 := hidW (HW.out.trans g1); have F1 := hidW (HF.out.bl g1); obtain ⟨v0, v1⟩ := F1.out; simp only [Nat.zero_add] at v1; clear g1)
        | (go_at_call 8; refine (pmay_doc f _ _ _ _ _ (HA.out.bl G1.out) (HB.out.bl G1.out)).mono ?_; rintro e w2 ⟨he, g2⟩; rw [HR.out] at he; subst he; have G2 := hidW (G1.out.trans g2); clear g2))
      go_ret2
      exact Or.inl ⟨HP.out, rfl, G2.out⟩

end Go.Proofs.Ytgiiapenmjollac
