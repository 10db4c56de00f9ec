/-
  The document's reader of bytes: a number, how many items.
-/
import Derived.Test.YtgiiapenmjollabMLWireTakeB
import Derived.Test.YtgiiapenmjollabMLFut
import Derived.Test.YtgiiapenmjollabMLWireTakeD
import Derived.Test.YtgiiapenmjollabMLWireTakeJ
import Derived.Deep.DeepCutAuto
namespace Go.Proofs.Ytgiiapenmjollab
open Go.RowKit
set_option maxRecDepth 100000
set_option linter.unusedVariables false
set_option linter.unusedSimpArgs false

/-- The document's reader lies in block p: the bytes l, where it is, whether it has failed. -/
structure RdD (W0 w : World) (p : Nat) (D : Option Addr) (c : Nat) (l : List Int) (i : Nat) (bad : Bool) : Prop where
  bl : Bl W0 w
  hp : W0.heap.size ≤ p
  blk : w.heap[p]? = some (.cells #[.slice D l.length c, .int .i64 (i : Int), .bool bad] 66 (0, 0))
  bys : BysAt W0 D l
  le : i ≤ l.length
  mx : l.length ≤ maxLen
theorem RdD.keep {W0 w w' : World} {p : Nat} {D : Option Addr} {c : Nat} {l : List Int} {i : Nat} {bad : Bool} (h : RdD W0 w p D c l i bad) {S : Nat → Prop} (k : Kp S w w') (hp : ¬ S p) (hs : ∀ k, S k → W0.heap.size ≤ k) : RdD W0 w' p D c l i bad :=
  ⟨k.toBl h.bl hs, h.hp, (k.block p (Array.getElem?_eq_some_iff.1 h.blk).1 hp).trans h.blk, h.bys, h.le, h.mx⟩
theorem RdD.later {W0 w w' : World} {p : Nat} {D : Option Addr} {c : Nat} {l : List Int} {i : Nat} {bad : Bool} (h : RdD W0 w p D c l i bad) (k : Bl w w') : RdD W0 w' p D c l i bad :=
  h.keep (S := fun _ => False) (Kp.bl k) (fun h => h) (fun _ h => h.elim)
theorem RdD.fail {W0 w : World} {p : Nat} {D : Option Addr} {c : Nat} {l : List Int} {i : Nat} {bad : Bool} (h : RdD W0 w p D c l i bad) : RdD W0 (w.setCell ⟨p, 2, none⟩ (.bool true)) p D c l i true :=
  ⟨((Kp.refl (OneB p) w).set (p := ⟨p, 2, none⟩) rfl _).toBl h.bl (fun k hk => by rw [hk]; exact h.hp), h.hp, set_block h.blk 2 _, h.bys, h.le, h.mx⟩
set_option maxHeartbeats 4000000 in
theorem dwide_bad {W0 w : World} {p : Nat} {D : Option Addr} {c : Nat} {l : List Int} {i : Nat} (h : RdD W0 w p D c l i true) :
    Calls Try.prog 53 #[.pointer (some ⟨p, 0, none⟩)] w fun e w' => e = .returned (.int .i64 0) ∧ RdD W0 w' p D c l i true ∧ Kp (OneB p) w w' := by
  have c2 := blk_cell h.blk 2 rfl
  have z2 := blk_free h.blk 2
  have f2 := fut_cell c2
  have HR := hidW h
  clear h
  go_enter Try.func53, Try.ntmps53
  go_wp2
  refine wp_region_fut (by kernel_rfl) (by kernel_rfl) fun hne => ?_
  repeat (go_big_quiet_step (fail))
  refine wpQuiet_nil ?_
  rintro w2 ⟨⟨wq, hw2⟩, he⟩
  change w2 = wq at he
  subst he
  have H2 := hidW hw2
  have R2 := hidW (HR.out.later hw2)
  have d2 := blk_cell R2.out.blk 2 rfl
  have y2 := blk_free R2.out.blk 2
  clear hw2
  go_wp2
  go_ret
  exact ⟨rfl, R2.out.fail, (Kp.bl (S := OneB p) H2.out).set (p := ⟨p, 2, none⟩) rfl _⟩
set_option maxHeartbeats 4000000 in
theorem dwide_no {W0 w : World} {p : Nat} {D : Option Addr} {c : Nat} {l : List Int} {i : Nat} (h : RdD W0 w p D c l i false) (hn : pN (l.drop i) = none) :
    Calls Try.prog 53 #[.pointer (some ⟨p, 0, none⟩)] w fun e w' => e = .returned (.int .i64 0) ∧ RdD W0 w' p D c l i true ∧ Kp (OneB p) w w' := by
  have hlt : l.length - i < 8 := by
    unfold pN at hn
    split at hn
    · cases hn
    · rename_i hx; rw [List.length_drop] at hx; omega
  have hle := h.le
  have hmx := h.mx
  unfold maxLen at hmx
  have f0 := fut_cell (blk_cell h.blk 0 rfl)
  have f1 := fut_cell (blk_cell h.blk 1 rfl)
  have f2 := fut_cell (blk_cell h.blk 2 rfl)
  have HR := hidW h
  clear h hn
  have hd : decide ((l.length : Int) - (i : Int) < 8) = true := decide_eq_true (by omega)
  go_enter Try.func53, Try.ntmps53
  go_wp2
  refine wp_region_fut (by kernel_rfl) (by kernel_rfl) fun hne => ?_
  repeat (go_big_quiet_step (fail))
  refine wpQuiet_nil ?_
  rintro w2 ⟨⟨wq, hw2⟩, he⟩
  change w2 = wq at he
  subst he
  have H2 := hidW hw2
  have R2 := hidW (HR.out.later hw2)
  have d2 := blk_cell R2.out.blk 2 rfl
  have y2 := blk_free R2.out.blk 2
  clear hw2
  go_wp2
  go_ret
  exact ⟨rfl, R2.out.fail, (Kp.bl (S := OneB p) H2.out).set (p := ⟨p, 2, none⟩) rfl _⟩

theorem dwrap (V Y : Int) : wrap64 (wrap64 (wrap64 V * 256) + wrap64 Y) = wrap64 (V * 256 + Y) := by unfold wrap64; omega
theorem RdD.move {W0 w : World} {p : Nat} {D : Option Addr} {c : Nat} {l : List Int} {i j : Nat} {bad : Bool} (h : RdD W0 w p D c l i bad) (hj : j ≤ l.length) : RdD W0 (w.setCell ⟨p, 1, none⟩ (.int .i64 (j : Int))) p D c l j bad :=
  ⟨((Kp.refl (OneB p) w).set (p := ⟨p, 1, none⟩) rfl _).toBl h.bl (fun k hk => by rw [hk]; exact h.hp), h.hp, set_block h.blk 1 _, h.bys, hj, h.mx⟩
theorem RdD.to {W0 w w' : World} {p : Nat} {D : Option Addr} {c : Nat} {l : List Int} {i : Nat} {bad : Bool} (h : RdD W0 w p D c l i bad) (e : w = w') : RdD W0 w' p D c l i bad := e ▸ h
set_option maxHeartbeats 8000000 in
theorem dwide_yes {W0 w : World} {p : Nat} {D : Option Addr} {c : Nat} {l : List Int} {i : Nat} (h : RdD W0 w p D c l i false) {x : Int} {r : List Int} (hn : pN (l.drop i) = some (x, r)) :
    Calls Try.prog 53 #[.pointer (some ⟨p, 0, none⟩)] w fun e w' => e = .returned (.int .i64 x) ∧ RdD W0 w' p D c l (i + 8) false ∧ Kp (OneB p) w w' ∧ r = l.drop (i + 8) := by
  obtain ⟨hge, hx, hr⟩ : 8 ≤ l.length - i ∧ x = valN ((l.drop i).take 8) ∧ r = l.drop (i + 8) := by
    unfold pN at hn
    split at hn
    · rename_i hz
      rw [List.length_drop] at hz
      simp only [Option.some.injEq, Prod.mk.injEq] at hn
      exact ⟨hz, hn.1.symm, by rw [← hn.2, List.drop_drop]⟩
    · cases hn
  have HX := hidW hx
  have HRR := hidW hr
  have hle := h.le
  have hmx := h.mx
  unfold maxLen at hmx
  have f0 := fut_cell (blk_cell h.blk 0 rfl)
  have f1 := fut_cell (blk_cell h.blk 1 rfl)
  have f2 := fut_cell (blk_cell h.blk 2 rfl)
  have HR := hidW h
  clear h hn hx hr
  have hd : decide ((l.length : Int) - (i : Int) < 8) = false := decide_eq_false (by omega)
  have HL8 := hidW (show ((l.drop i).take 8).length = 8 by rw [List.length_take, List.length_drop]; omega)
  go_enter Try.func53, Try.ntmps53
  go_wp2
  refine wp_region_fut (by kernel_rfl) (by kernel_rfl) fun hne => ?_
  repeat (go_big_quiet_step (fail))
  refine wpQuiet_nil ?_
  rintro w2 ⟨⟨wq, hw2⟩, he⟩
  change w2 = wq at he
  subst he
  have H2 := hidW hw2
  have R2 := hidW (HR.out.later hw2)
  clear hw2 f0 f1 f2 hd
  go_wp2
  go_loopw [3, 4] (fun n k wr => ∃ j : Nat, j ≤ 8 ∧ k = .int .i64 (j : Int) ∧ n = .int .i64 (wrap64 (valU (((l.drop i).take 8).take j))) ∧ Bl w2 wr) (fun _ k _ => 8 - (intOf k).toNat)
  case atStart => exact ⟨0, by omega, rfl, by rw [List.take_zero]; unfold wrap64 valU; simp, Bl.refl _⟩
  case round =>
    obtain ⟨j, hj, rfl, rfl, h3⟩ := hrel
    have H3 := hidW h3
    have R3 := hidW (R2.out.later h3)
    clear h3
    by_cases hlt : j < 8
    · rcases R3.out.bys with h0 | ⟨b, off, rfl, hi⟩
      · omega
      have f0 := fut_cell (blk_cell R3.out.blk 0 rfl)
      have f1 := fut_cell (blk_cell R3.out.blk 1 rfl)
      have f3 := fut_cell (R3.out.bl.cell (hi (i + j) (by omega)))
      clear hi
      have HS := hidW (show valU (((l.drop i).take 8).take (j + 1)) = valU (((l.drop i).take 8).take j) * 256 + nth (0 : Int) l (i + j) by
        rw [List.take_succ_eq_append_getElem (by rw [HL8.out]; omega), valU_snoc, nth_get (by omega)]
        simp [List.getElem_take, List.getElem_drop])
      have hk0 : (0 : Int) ≤ (i : Int) + (j : Int) := by omega
      have hk1 : (i : Int) + (j : Int) < (l.length : Int) := by omega
      go_wp2
      refine wp_region_fut (by kernel_rfl) (by kernel_rfl) fun hne => ?_
      repeat (go_big_quiet_step (fail))
      refine wpQuiet_nil ?_
      rintro _ ⟨⟨w4, hw4⟩, rfl⟩
      go_wp2
      go_roundw
      case rel => exact ⟨j + 1, by omega, by go_num, by rw [HS.out, ← dwrap], H3.out.trans hw4⟩
      case measure => simp [intOf]; omega
    · obtain rfl : j = 8 := by omega
      have d1 := blk_cell R3.out.blk 1 rfl
      have y1 := blk_free R3.out.blk 1
      have HZ := hidW (show wrap64 (valU (((l.drop i).take 8).take 8)) = x by rw [HX.out, List.take_take]; rfl)
      go_wp2
      go_ret
      exact ⟨by rw [← HZ.out]; rfl, (R3.out.move (j := i + 8) (by omega)).to rfl, ((Kp.bl (S := OneB p) H2.out).trans (Kp.bl H3.out)).set (p := ⟨p, 1, none⟩) rfl _, HRR.out⟩

end Go.Proofs.Ytgiiapenmjollab
namespace Go.Proofs.Ytgiiapenmjollab
open Go.RowKit
set_option maxRecDepth 100000
set_option linter.unusedVariables false
set_option linter.unusedSimpArgs false

section
variable {W0 w : World} {p : Nat} {D : Option Addr} {c : Nat} {l : List Int} {i : Nat}
set_option maxHeartbeats 4000000 in
theorem dnum_bad (h : RdD W0 w p D c l i true) :
    Calls Try.prog 24 #[.pointer (some ⟨p, 0, none⟩)] w fun e w' => e = .returned (.int .i64 0) ∧ RdD W0 w' p D c l i true ∧ Kp (OneB p) w w' := by
  have HR := hidW h
  clear h
  go_enter Try.func24, Try.ntmps24
  go_wp2_with (go_at_call 53; refine (dwide_bad HR.out).mono ?_; rintro e w1 ⟨rfl, r1, k1⟩)
  go_ret
  exact ⟨rfl, r1, k1⟩
set_option maxHeartbeats 4000000 in
theorem dnum_no (h : RdD W0 w p D c l i false) (hn : pN (l.drop i) = none) :
    Calls Try.prog 24 #[.pointer (some ⟨p, 0, none⟩)] w fun e w' => e = .returned (.int .i64 0) ∧ RdD W0 w' p D c l i true ∧ Kp (OneB p) w w' := by
  have HR := hidW h
  have HN := hidW hn
  clear h hn
  go_enter Try.func24, Try.ntmps24
  go_wp2_with (go_at_call 53; refine (dwide_no HR.out HN.out).mono ?_; rintro e w1 ⟨rfl, r1, k1⟩)
  go_ret
  exact ⟨rfl, r1, k1⟩
set_option maxHeartbeats 4000000 in
theorem dnum_yes (h : RdD W0 w p D c l i false) {x : Int} {r : List Int} (hn : pN (l.drop i) = some (x, r)) :
    Calls Try.prog 24 #[.pointer (some ⟨p, 0, none⟩)] w fun e w' => e = .returned (.int .i64 x) ∧ RdD W0 w' p D c l (i + 8) false ∧ Kp (OneB p) w w' ∧ r = l.drop (i + 8) := by
  have HR := hidW h
  have HN := hidW hn
  clear h hn
  go_enter Try.func24, Try.ntmps24
  go_wp2_with (go_at_call 53; refine (dwide_yes HR.out HN.out).mono ?_; rintro e w1 ⟨rfl, r1, k1, e1⟩)
  go_ret
  exact ⟨rfl, r1, k1, e1⟩
set_option maxHeartbeats 4000000 in
theorem dmany_bad (h : RdD W0 w p D c l i true) :
    Calls Try.prog 23 #[.pointer (some ⟨p, 0, none⟩)] w fun e w' => e = .returned (.int .i64 0) ∧ RdD W0 w' p D c l i true ∧ Kp (OneB p) w w' := by
  have HR := hidW h
  clear h
  go_enter Try.func23, Try.ntmps23
  go_wp2_with (go_at_call 24; refine (dnum_bad HR.out).mono ?_; rintro e w1 ⟨rfl, r1, k1⟩)
  go_ret
  exact ⟨rfl, r1, k1⟩
set_option maxHeartbeats 4000000 in
theorem dmany_no (h : RdD W0 w p D c l i false) (hn : pN (l.drop i) = none) :
    Calls Try.prog 23 #[.pointer (some ⟨p, 0, none⟩)] w fun e w' => e = .returned (.int .i64 0) ∧ RdD W0 w' p D c l i true ∧ Kp (OneB p) w w' := by
  have HR := hidW h
  have HN := hidW hn
  clear h hn
  go_enter Try.func23, Try.ntmps23
  go_wp2_with (go_at_call 24; refine (dnum_no HR.out HN.out).mono ?_; rintro e w1 ⟨rfl, r1, k1⟩)
  go_ret
  exact ⟨rfl, r1, k1⟩
set_option maxHeartbeats 4000000 in
theorem dmany_neg (h : RdD W0 w p D c l i false) {x : Int} {r : List Int} (hn : pN (l.drop i) = some (x, r)) (hx : x < 0) :
    Calls Try.prog 23 #[.pointer (some ⟨p, 0, none⟩)] w fun e w' => e = .returned (.int .i64 x) ∧ RdD W0 w' p D c l (i + 8) true ∧ Kp (OneB p) w w' := by
  have HR := hidW h
  have HN := hidW hn
  clear h hn
  go_enter Try.func23, Try.ntmps23
  go_wp2_with (go_at_call 24; refine (dnum_yes HR.out HN.out).mono ?_; rintro e w1 ⟨rfl, r1, k1, e1⟩; have d2 := blk_cell r1.blk 2 rfl; have y2 := blk_free r1.blk 2; have R1 := hidW r1; have K1 := hidW k1; clear r1 k1 e1)
  go_ret
  exact ⟨rfl, R1.out.fail, K1.out.set (p := ⟨p, 2, none⟩) rfl _⟩
set_option maxHeartbeats 4000000 in
theorem dmany_yes (h : RdD W0 w p D c l i false) {x : Int} {r : List Int} (hn : pN (l.drop i) = some (x, r)) (hx : ¬ x < 0) :
    Calls Try.prog 23 #[.pointer (some ⟨p, 0, none⟩)] w fun e w' => e = .returned (.int .i64 x) ∧ RdD W0 w' p D c l (i + 8) false ∧ Kp (OneB p) w w' ∧ r = l.drop (i + 8) := by
  have HR := hidW h
  have HN := hidW hn
  clear h hn
  go_enter Try.func23, Try.ntmps23
  go_wp2_with (go_at_call 24; refine (dnum_yes HR.out HN.out).mono ?_; rintro e w1 ⟨rfl, r1, k1, e1⟩)
  go_ret
  exact ⟨rfl, r1, k1, e1⟩
end

end Go.Proofs.Ytgiiapenmjollab
namespace Go.Proofs.Ytgiiapenmjollab
open Go.RowKit
set_option maxRecDepth 100000
set_option linter.unusedVariables false
set_option linter.unusedSimpArgs false

theorem lt_of_blkW {w : World} {k : Nat} {o : Obj} (h : w.heap[k]? = some o) : k < w.heap.size := (Array.getElem?_eq_some_iff.1 h).1
theorem RdD.alloc {W0 w : World} {p : Nat} {D : Option Addr} {c : Nat} {l : List Int} {i : Nat} {bad : Bool} (h : RdD W0 w p D c l i bad) (o : Obj) : RdD W0 (w.alloc o) p D c l i bad := h.later ((Bl.refl w).alloc o)
theorem RdD.lt {W0 w : World} {p : Nat} {D : Option Addr} {c : Nat} {l : List Int} {i : Nat} {bad : Bool} (h : RdD W0 w p D c l i bad) : p < w.heap.size := lt_of_blkW h.blk
theorem RdD.set {W0 w : World} {p : Nat} {D : Option Addr} {c : Nat} {l : List Int} {i : Nat} {bad : Bool} (h : RdD W0 w p D c l i bad) {k o : Nat} (hk : k ≠ p) (h0 : W0.heap.size ≤ k) (v : Value) : RdD W0 (w.setCell ⟨k, o, none⟩ v) p D c l i bad :=
  h.keep ((Kp.refl (OneB k) w).set (p := ⟨k, o, none⟩) rfl v) (fun e => hk e.symm) (fun j hj => by rw [hj]; exact h0)
section
variable {W0 w : World} {p : Nat} {D : Option Addr} {c : Nat} {l : List Int} {i : Nat}
end

end Go.Proofs.Ytgiiapenmjollab
namespace Go.Proofs.Ytgiiapenmjollab
open Go.RowKit
set_option maxRecDepth 100000
set_option linter.unusedVariables false
set_option linter.unusedSimpArgs false

/-- How a reader stands behind what was to be read: it was, or it has failed. -/
def St {α : Type} (P : Pa α) (l : List Int) (i : Nat) (bad : Bool) (x : α) (j : Nat) (bd : Bool) : Prop :=
  (bd = false → bad = false ∧ P (l.drop i) = some (x, l.drop j)) ∧ (bd = true → bad = true ∨ P (l.drop i) = none)
/-- Likewise within a list. -/
structure Lst {α : Type} (P : Pa α) (n : Nat) (l : List Int) (i : Nat) (bad : Bool) (m : Nat) (xs : List α) (j : Nat) (bd : Bool) : Prop where
  le : m ≤ n
  len : xs.length = m
  few : m ≤ 131073
  yes : bd = false → bad = false ∧ pMany P m (l.drop i) = some (xs, l.drop j)
  no : bd = true → bad = true ∨ pMany P n (l.drop i) = none
/-- Each item takes eight bytes at least. -/
def Eats {α : Type} (P : Pa α) : Prop := ∀ l x r, P l = some (x, r) → r.length + 8 ≤ l.length
def Eats0 {α : Type} (P : Pa α) : Prop := ∀ l x r, P l = some (x, r) → r.length ≤ l.length
theorem Eats.le {α : Type} {P : Pa α} (h : Eats P) : Eats0 P := fun l x r e => by have := h l x r e; omega
theorem pN_eats : Eats pN := fun l x r h => by
  unfold pN at h
  split at h
  · simp only [Option.some.injEq, Prod.mk.injEq] at h
    rw [← h.2, List.length_drop]; omega
  · cases h
theorem many_eats {α : Type} {P : Pa α} (hP : Eats P) : ∀ (m : Nat) (l : List Int) (xs : List α) (r : List Int), pMany P m l = some (xs, r) → r.length + 8 * m ≤ l.length
  | 0, l, xs, r, h => by simp only [pMany, Option.some.injEq, Prod.mk.injEq] at h; rw [h.2]; omega
  | m + 1, l, xs, r, h => by
    unfold pMany at h
    obtain ⟨a, h1, h⟩ := bind_some_of h
    obtain ⟨b, h2, h⟩ := bind_some_of h
    simp only [Option.some.injEq, Prod.mk.injEq] at h
    have e1 := hP l a.1 a.2 h1
    have e2 := many_eats hP m a.2 b.1 b.2 h2
    rw [← h.2]; omega
theorem pL_eats {α : Type} {P : Pa α} {M : Int} (hP : Eats P) : Eats (pL M P) := fun l xs r h => by
  unfold pL at h
  obtain ⟨a, h1, h⟩ := bind_some_of h
  split at h
  · have e1 := pN_eats l a.1 a.2 h1
    have e2 := many_eats hP _ _ _ _ h
    omega
  · cases h
theorem bind_eats {α β : Type} {P : Pa α} {Q : α × List Int → Option (β × List Int)} (hP : Eats P) (hQ : ∀ a x r, Q a = some (x, r) → r.length ≤ a.2.length) : Eats (fun l => (P l).bind Q) := fun l x r h => by
  obtain ⟨a, h1, h⟩ := bind_some_of h
  have e1 := hP l a.1 a.2 h1
  have e2 := hQ a x r h
  omega
theorem bind_eats0 {α β : Type} {P : Pa α} (hP : Eats P) {k : List Int} {Q : α × List Int → Option (β × List Int)} {x : β} {r : List Int} (h : (P k).bind Q = some (x, r)) (hQ : ∀ a x r, Q a = some (x, r) → r.length ≤ a.2.length) : r.length ≤ k.length := by
  have := bind_eats hP hQ k x r h
  omega
theorem pTy_eats : Eats pTy := bind_eats pN_eats fun a x r h => bind_eats0 pN_eats h fun b x r h => by
  simp only [Option.some.injEq, Prod.mk.injEq] at h; rw [← h.2]; exact Nat.le_refl _
theorem pHd_eats : Eats pHd := bind_eats pN_eats fun a x r h => bind_eats0 pN_eats h fun b x r h => bind_eats0 pN_eats h fun b x r h => bind_eats0 pN_eats h fun b x r h => by
  simp only [Option.some.injEq, Prod.mk.injEq] at h; rw [← h.2]; exact Nat.le_refl _
theorem pCl_eats (d : Bd) : Eats (pCl d) := bind_eats pN_eats fun a x r h => bind_eats0 (pL_eats pTy_eats) h fun b x r h => by
  simp only [Option.some.injEq, Prod.mk.injEq] at h; rw [← h.2]; exact Nat.le_refl _
theorem pIn_eats (d : Bd) : Eats (pIn d) := bind_eats pN_eats fun a x r h => bind_eats0 pN_eats h fun b x r h => bind_eats0 pN_eats h fun b x r h => bind_eats0 pN_eats h fun b x r h => bind_eats0 pN_eats h fun b x r h => bind_eats0 (pL_eats pN_eats) h fun b x r h => by
  simp only [Option.some.injEq, Prod.mk.injEq] at h; rw [← h.2]; exact Nat.le_refl _
theorem pMe_eats (d : Bd) : Eats (pMe d) := bind_eats (pL_eats pTy_eats) fun a x r h => bind_eats0 pTy_eats h fun b x r h => bind_eats0 pN_eats h fun b x r h => bind_eats0 pN_eats h fun b x r h => bind_eats0 pN_eats h fun b x r h => bind_eats0 (pL_eats (pIn_eats d)) h fun b x r h => bind_eats0 (pL_eats pHd_eats) h fun b x r h => by
  simp only [Option.some.injEq, Prod.mk.injEq] at h; rw [← h.2]; exact Nat.le_refl _

abbrev mxI : Int := 9223372036854775807
/-- How many items. -/
def pK : Pa Int := fun l => (pN l).bind fun x => if 0 ≤ x.1 ∧ x.1 ≤ mxI then some x else none
theorem pL_none {α : Type} {P : Pa α} {l : List Int} (h : pK l = none) : pL mxI P l = none := by
  unfold pL
  unfold pK at h
  cases h1 : pN l with
  | none => rfl
  | some x =>
    rw [h1, Option.bind_some] at h
    show (if 0 ≤ x.1 ∧ x.1 ≤ mxI then pMany P x.1.toNat x.2 else none) = none
    split at h
    · cases h
    · rename_i hx; rw [if_neg hx]
theorem pL_some {α : Type} {P : Pa α} {l r : List Int} {x : Int} (h : pK l = some (x, r)) : 0 ≤ x ∧ pL mxI P l = pMany P x.toNat r := by
  unfold pK at h
  unfold pL
  obtain ⟨a, h1, h⟩ := bind_some_of h
  split at h
  · rename_i hx
    simp only [Option.some.injEq] at h
    subst h
    rw [h1, Option.bind_some]
    exact ⟨hx.1, by simp only; rw [if_pos hx]⟩
  · cases h
section
variable {α β : Type} {P : Pa α} {Q : Pa β} {l : List Int} {n i j k m : Nat} {bad bd be : Bool} {x : α} {y : β} {xs : List α}
theorem Lst.begin (P : Pa α) (n : Nat) (l : List Int) (i : Nat) (bad : Bool) : Lst P n l i bad 0 [] i bad :=
  ⟨Nat.zero_le _, rfl, by omega, fun h => ⟨h, rfl⟩, fun h => Or.inl h⟩
theorem Lst.small (h : Lst P n l i bad m xs j false) (hP : Eats P) (hB : l.length ≤ 1048576) : m ≤ 131072 := by
  have := many_eats hP _ _ _ _ (h.yes rfl).2
  rw [List.length_drop, List.length_drop] at this
  omega
theorem Lst.next (h : Lst P n l i bad m xs j false) (hm : m < n) (hP : Eats P) (hB : l.length ≤ 1048576) (hs : St P l j false x k be) : Lst P n l i bad (m + 1) (xs ++ [x]) k be := by
  have hsm := h.small hP hB
  refine ⟨by omega, by rw [List.length_append, h.len]; rfl, by omega, fun e => ⟨(h.yes rfl).1, many_next (h.yes rfl).2 (hs.1 e).2⟩, fun e => Or.inr ?_⟩
  rcases hs.2 e with h1 | h1
  · cases h1
  · exact many_stop (h.yes rfl).2 hm h1
theorem Lst.ends {z : Int} (hs : St pK l i bad z j bd) (h : Lst P z.toNat l j bd m xs k be) (hm : be = true ∨ ¬ (m : Int) < z) : St (pL mxI P) l i bad xs k be := by
  refine ⟨fun e => ?_, fun e => ?_⟩
  · obtain ⟨h1, h2⟩ := h.yes e
    obtain ⟨h3, h4⟩ := hs.1 h1
    obtain ⟨h5, h6⟩ := pL_some (P := P) h4
    have := h.le
    have hmz : m = z.toNat := by rcases hm with h7 | h7
                                 · rw [e] at h7; cases h7
                                 · omega
    exact ⟨h3, by rw [h6, ← hmz]; exact h2⟩
  · have hb : bd = true → bad = true ∨ pL mxI P (l.drop i) = none := fun e2 => (hs.2 e2).imp id pL_none
    rcases h.no e with h1 | h1
    · exact hb h1
    · cases hbd : bd with
      | true => exact hb hbd
      | false =>
        obtain ⟨h3, h4⟩ := hs.1 hbd
        obtain ⟨h5, h6⟩ := pL_some (P := P) h4
        exact Or.inr (h6.trans h1)
/-- One behind the other. -/
theorem St.next {γ : Type} {R : Pa γ} {F : α × List Int → Option (γ × List Int)} {z : γ} (hs : St P l i bad x j bd) (ht : St Q l j bd y k be)
    (hR : ∀ l, R l = (P l).bind F) (hF : ∀ r r', Q r = some (y, r') → F (x, r) = some (z, r')) (hN : ∀ r, Q r = none → F (x, r) = none) : St R l i bad z k be := by
  refine ⟨fun e => ?_, fun e => ?_⟩
  · obtain ⟨h1, h2⟩ := ht.1 e
    obtain ⟨h3, h4⟩ := hs.1 h1
    exact ⟨h3, by rw [hR, h4, Option.bind_some]; exact hF _ _ h2⟩
  · have hb : bd = true → bad = true ∨ R (l.drop i) = none := fun e2 => (hs.2 e2).imp id fun h => by rw [hR, h]; rfl
    rcases ht.2 e with h1 | h1
    · exact hb h1
    · cases hbd : bd with
      | true => exact hb hbd
      | false =>
        obtain ⟨h3, h4⟩ := hs.1 hbd
        exact Or.inr (by rw [hR, h4, Option.bind_some]; exact hN _ h1)
end
/-- A pair of parsers. -/
def pTwo {α β : Type} (P : Pa α) (Q : Pa β) : Pa (α × β) := fun l => (P l).bind fun a => (Q a.2).bind fun b => some ((a.1, b.1), b.2)
theorem St.two {α β : Type} {P : Pa α} {Q : Pa β} {l : List Int} {i j k : Nat} {bad bd be : Bool} {x : α} {y : β} (hs : St P l i bad x j bd) (ht : St Q l j bd y k be) : St (pTwo P Q) l i bad (x, y) k be :=
  hs.next ht (fun _ => rfl) (fun r r' h => by simp only; rw [h]; rfl) (fun r h => by simp only; rw [h]; rfl)
/-- The same parser, otherwise said. -/
theorem St.as {α β : Type} {P : Pa α} {R : Pa β} {l : List Int} {i j : Nat} {bad bd : Bool} {x : α} (f : α → β) (hs : St P l i bad x j bd) (h : ∀ l, R l = (P l).bind fun a => some (f a.1, a.2)) : St R l i bad (f x) j bd :=
  ⟨fun e => ⟨(hs.1 e).1, by rw [h, (hs.1 e).2]; rfl⟩, fun e => (hs.2 e).imp id fun h2 => by rw [h, h2]; rfl⟩
theorem bind_bind {α β γ : Type} (o : Option α) (f : α → Option β) (g : β → Option γ) : (o.bind f).bind g = o.bind fun a => (f a).bind g := by cases o <;> rfl
theorem St.ty {l : List Int} {i j k : Nat} {bad bd be : Bool} {x y : Int} (h1 : St pN l i bad x j bd) (h2 : St pN l j bd y k be) : St pTy l i bad ⟨x, y⟩ k be :=
  (h1.two h2).as (fun a => (⟨a.1, a.2⟩ : Ty)) fun l => by unfold pTy pTwo; simp only [bind_bind, Option.bind_some]
theorem St.cl {l : List Int} {i j k : Nat} {bad bd be : Bool} {x : Int} {ts : List Ty} (h1 : St pN l i bad x j bd) (h2 : St (pL mxI pTy) l j bd ts k be) : St (pCl bdD) l i bad ⟨x, ts⟩ k be :=
  (h1.two h2).as (fun a => (⟨a.1, a.2⟩ : Cl)) fun l => by unfold pCl pTwo; simp only [bind_bind, Option.bind_some]; rfl
theorem St.hd {l : List Int} {i0 i1 i2 i3 i4 : Nat} {b0 b1 b2 b3 b4 : Bool} {x1 x2 x3 x4 : Int} (h1 : St pN l i0 b0 x1 i1 b1) (h2 : St pN l i1 b1 x2 i2 b2) (h3 : St pN l i2 b2 x3 i3 b3) (h4 : St pN l i3 b3 x4 i4 b4) : St pHd l i0 b0 ⟨x1, x2, x3, x4⟩ i4 b4 :=
  (((h1.two h2).two h3).two h4).as (fun a => (⟨a.1.1.1, a.1.1.2, a.1.2, a.2⟩ : Hd)) fun l => by unfold pHd pTwo; simp only [bind_bind, Option.bind_some]
theorem St.ins {l : List Int} {i0 i1 i2 i3 i4 i5 i6 : Nat} {b0 b1 b2 b3 b4 b5 b6 : Bool} {x1 x2 x3 x4 x5 : Int} {gs : List Int} (h1 : St pN l i0 b0 x1 i1 b1) (h2 : St pN l i1 b1 x2 i2 b2) (h3 : St pN l i2 b2 x3 i3 b3) (h4 : St pN l i3 b3 x4 i4 b4) (h5 : St pN l i4 b4 x5 i5 b5) (h6 : St (pL mxI pN) l i5 b5 gs i6 b6) : St (pIn bdD) l i0 b0 ⟨x1, x2, x3, x4, x5, gs⟩ i6 b6 :=
  (((((h1.two h2).two h3).two h4).two h5).two h6).as (fun a => (⟨a.1.1.1.1.1, a.1.1.1.1.2, a.1.1.1.2, a.1.1.2, a.1.2, a.2⟩ : In)) fun l => by unfold pIn pTwo; simp only [bind_bind, Option.bind_some]; rfl
theorem St.me {l : List Int} {i0 i1 i2 i3 i4 i5 i6 i7 i8 : Nat} {b0 b1 b2 b3 b4 b5 b6 b7 b8 : Bool} {ps : List Ty} {x2 x3 x4 x5 x6 : Int} {cs : List In} {hs : List Hd} (h1 : St (pL mxI pTy) l i0 b0 ps i1 b1) (h2 : St pN l i1 b1 x2 i2 b2) (h3 : St pN l i2 b2 x3 i3 b3) (h4 : St pN l i3 b3 x4 i4 b4) (h5 : St pN l i4 b4 x5 i5 b5) (h6 : St pN l i5 b5 x6 i6 b6) (h7 : St (pL mxI (pIn bdD)) l i6 b6 cs i7 b7) (h8 : St (pL mxI pHd) l i7 b7 hs i8 b8) : St (pMe bdD) l i0 b0 ⟨ps, ⟨x2, x3⟩, x4, x5, x6, cs, hs⟩ i8 b8 :=
  (((((((h1.two h2).two h3).two h4).two h5).two h6).two h7).two h8).as (fun a => (⟨a.1.1.1.1.1.1.1, ⟨a.1.1.1.1.1.1.2, a.1.1.1.1.1.2⟩, a.1.1.1.1.2, a.1.1.1.2, a.1.1.2, a.1.2, a.2⟩ : Me)) fun l => by unfold pMe pTwo pTy; simp only [bind_bind, Option.bind_some]; rfl
theorem St.fi {l : List Int} {i j k : Nat} {bad bd be : Bool} {cs : List Cl} {ms : List Me} (h1 : St (pL mxI (pCl bdD)) l i bad cs j bd) (h2 : St (pL mxI (pMe bdD)) l j bd ms k be) : St (pFi bdD) l i bad ⟨cs, ms⟩ k be :=
  (h1.two h2).as (fun a => (⟨a.1, a.2⟩ : Fi)) fun l => by unfold pFi pTwo; simp only [bind_bind, Option.bind_some]; rfl

theorem i64_0 : I64 0 := by unfold I64; omega
theorem St.bads {α : Type} (P : Pa α) (l : List Int) (i : Nat) (x : α) (j : Nat) : St P l i true x j true := ⟨fun e => (by cases e), fun _ => Or.inl rfl⟩
theorem St.fails {α : Type} {P : Pa α} {l : List Int} {i : Nat} (x : α) (j : Nat) (bad : Bool) (h : P (l.drop i) = none) : St P l i bad x j true := ⟨fun e => (by cases e), fun _ => Or.inr h⟩
theorem St.reads {α : Type} {P : Pa α} {l r : List Int} {i : Nat} {x : α} {j : Nat} (h : P (l.drop i) = some (x, r)) (hr : r = l.drop j) : St P l i false x j false := ⟨fun _ => ⟨rfl, by rw [h, hr]⟩, fun e => (by cases e)⟩
section
variable {W0 w : World} {p : Nat} {D : Option Addr} {c : Nat} {l : List Int} {i : Nat} {bad : Bool}
/-- A number is read. -/
def DNQ (P : Pa Int) (W0 w : World) (p : Nat) (D : Option Addr) (c : Nat) (l : List Int) (i : Nat) (bad : Bool) (e : Ending) (w' : World) : Prop :=
  ∃ x j bd, e = .returned (.int .i64 x) ∧ I64 x ∧ Kp (OneB p) w w' ∧ RdD W0 w' p D c l j bd ∧ St P l i bad x j bd
theorem dwide_any (h : RdD W0 w p D c l i bad) : Calls Try.prog 53 #[.pointer (some ⟨p, 0, none⟩)] w (DNQ pN W0 w p D c l i bad) := by
  cases bad with
  | true => exact (dwide_bad h).mono fun e w' ⟨e1, r1, k1⟩ => ⟨0, i, true, e1, i64_0, k1, r1, St.bads _ _ _ _ _⟩
  | false =>
    cases hn : pN (l.drop i) with
    | none => exact (dwide_no h hn).mono fun e w' ⟨e1, r1, k1⟩ => ⟨0, i, true, e1, i64_0, k1, r1, St.fails _ _ _ hn⟩
    | some y => exact (dwide_yes h (x := y.1) (r := y.2) hn).mono fun e w' ⟨e1, r1, k1, hr⟩ => ⟨y.1, i + 8, false, e1, pN_i64 (x := y.1) (r := y.2) hn, k1, r1, St.reads hn hr⟩
theorem dnum_any (h : RdD W0 w p D c l i bad) : Calls Try.prog 24 #[.pointer (some ⟨p, 0, none⟩)] w (DNQ pN W0 w p D c l i bad) := by
  cases bad with
  | true => exact (dnum_bad h).mono fun e w' ⟨e1, r1, k1⟩ => ⟨0, i, true, e1, i64_0, k1, r1, St.bads _ _ _ _ _⟩
  | false =>
    cases hn : pN (l.drop i) with
    | none => exact (dnum_no h hn).mono fun e w' ⟨e1, r1, k1⟩ => ⟨0, i, true, e1, i64_0, k1, r1, St.fails _ _ _ hn⟩
    | some y => exact (dnum_yes h (x := y.1) (r := y.2) hn).mono fun e w' ⟨e1, r1, k1, hr⟩ => ⟨y.1, i + 8, false, e1, pN_i64 (x := y.1) (r := y.2) hn, k1, r1, St.reads hn hr⟩
theorem dmany_any (h : RdD W0 w p D c l i bad) : Calls Try.prog 23 #[.pointer (some ⟨p, 0, none⟩)] w (DNQ pK W0 w p D c l i bad) := by
  cases bad with
  | true => exact (dmany_bad h).mono fun e w' ⟨e1, r1, k1⟩ => ⟨0, i, true, e1, i64_0, k1, r1, St.bads _ _ _ _ _⟩
  | false =>
    cases hn : pN (l.drop i) with
    | none => exact (dmany_no h hn).mono fun e w' ⟨e1, r1, k1⟩ => ⟨0, i, true, e1, i64_0, k1, r1, St.fails _ _ _ (by unfold pK; rw [hn]; rfl)⟩
    | some y =>
      have h64 := pN_i64 (x := y.1) (r := y.2) hn
      by_cases hx : y.1 < 0
      · exact (dmany_neg h (x := y.1) (r := y.2) hn hx).mono fun e w' ⟨e1, r1, k1⟩ => ⟨y.1, i + 8, true, e1, h64, k1, r1, St.fails _ _ _ (by unfold pK; rw [hn, Option.bind_some, if_neg (by omega)])⟩
      · exact (dmany_yes h (x := y.1) (r := y.2) hn hx).mono fun e w' ⟨e1, r1, k1, hr⟩ => ⟨y.1, i + 8, false, e1, h64, k1, r1, St.reads (by unfold pK; rw [hn, Option.bind_some, if_pos ⟨by omega, by unfold I64 at h64; exact h64.2⟩]) hr⟩
end

end Go.Proofs.Ytgiiapenmjollab
namespace Go.Proofs.Ytgiiapenmjollab
open Go.RowKit
set_option maxRecDepth 100000
set_option linter.unusedVariables false
set_option linter.unusedSimpArgs false

def Sq3 (p q n : Nat) : Nat → Prop := fun k => k = p ∨ k = q ∨ n ≤ k
/-- The reader lies, and a struct that is being filled, in a block of its own; all else lies as it lay in wb, but what is new. -/
structure Dx (W0 wb w : World) (p N : Nat) (D : Option Addr) (c : Nat) (l : List Int) (j : Nat) (bd : Bool) (q : Nat) (cs : Array Value) (T : TypeId) : Prop where
  rd : RdD W0 w p D c l j bd
  kp : Kp (Sq3 p q N) wb w
  blk : w.heap[q]? = some (.cells cs T (0, 0))
section
variable {W0 wb w w' : World} {p N : Nat} {D : Option Addr} {c : Nat} {l : List Int} {j j' : Nat} {bd bd' : Bool} {q : Nat} {cs : Array Value} {T : TypeId}
theorem Dx.call (h : Dx W0 wb w p N D c l j bd q cs T) (hq : q ≠ p) (k : Kp (OneB p) w w') (r : RdD W0 w' p D c l j' bd') : Dx W0 wb w' p N D c l j' bd' q cs T :=
  ⟨r, h.kp.trans (k.less fun _ _ e => Or.inl e), (k.block q (lt_of_blkW h.blk) hq).trans h.blk⟩
theorem Dx.set (h : Dx W0 wb w p N D c l j bd q cs T) (hq : q ≠ p) (h0 : W0.heap.size ≤ q) (i : Nat) (v : Value) : Dx W0 wb (w.setCell ⟨q, i, none⟩ v) p N D c l j bd q (cs.setIfInBounds i v) T :=
  ⟨h.rd.set hq h0 v, h.kp.set (p := ⟨q, i, none⟩) (Or.inr (Or.inl rfl)) v, set_block h.blk i v⟩
theorem Dx.new (r : RdD W0 w p D c l j bd) (k : Kp (Sq3 p w.heap.size N) wb w) (cs : Array Value) (T : TypeId) : Dx W0 wb (w.alloc (.cells cs T)) p N D c l j bd w.heap.size cs T :=
  ⟨r.alloc _, k.alloc _, heap_alloc_new w _⟩
theorem Dx.alloc (h : Dx W0 wb w p N D c l j bd q cs T) (o : Obj) : Dx W0 wb (w.alloc o) p N D c l j bd q cs T :=
  ⟨h.rd.alloc o, h.kp.alloc o, (Below.heap_alloc _ _ _ (lt_of_blkW h.blk)).trans h.blk⟩
theorem Dx.kept {S : Nat → Prop} (h : Dx W0 wb w p N D c l j bd q cs T) (k : Kp S w w') (hp : ¬ S p) (hq : ¬ S q) (hS : ∀ j, S j → N ≤ j) (h0 : W0.heap.size ≤ N) : Dx W0 wb w' p N D c l j bd q cs T :=
  ⟨h.rd.keep k hp (fun j hj => Nat.le_trans h0 (hS j hj)), h.kp.trans (k.less fun j _ hj => Or.inr (Or.inr (hS j hj))), (k.block q (lt_of_blkW h.blk) hq).trans h.blk⟩
theorem Dx.over {wa wo wc : World} {q' : Nat} {cs' : Array Value} {T' : TypeId} (h : Dx W0 wa wo p N D c l j bd q cs T) (hz : Dx W0 wo wc p wo.heap.size D c l j' bd' q' cs' T') (hq' : wo.heap.size ≤ q') (hN : wa.heap.size ≤ wo.heap.size) (hNN : N ≤ wo.heap.size) (hq : q ≠ p) : Dx W0 wa wc p N D c l j' bd' q cs T :=
  ⟨hz.rd, h.kp.trans (hz.kp.less fun k _ hk => by
    rcases hk with e | e | e
    · exact Or.inl e
    · exact Or.inr (Or.inr (by omega))
    · exact Or.inr (Or.inr (by omega))), (hz.kp.block q (lt_of_blkW h.blk) (fun hk => by
    have := lt_of_blkW h.blk
    rcases hk with e | e | e <;> omega)).trans h.blk⟩
theorem Dx.base (h : Dx W0 wb w p N D c l j bd q cs T) : Dx W0 w w p w.heap.size D c l j bd q cs T := ⟨h.rd, Kp.refl _ _, h.blk⟩
end
theorem LW.keepQ {α : Type} {d : α} {It : World → α → List Value → Prop} {size : Nat} {e : TypeId} {N : Nat} {w w' : World} {v : Value} {xs : List α} (hst : ∀ w w' x cs, Sub w w' → It w x cs → It w' x cs) (h : LW d It size e N w v xs) {S : Nat → Prop} (k : Kp S w w') (hs : ∀ j, S j → j < N ∨ w.heap.size ≤ j) : LW d It size e N w' v xs := by
  obtain ⟨cs, h1, h2⟩ := h.ex
  refine ⟨cs, ⟨h1.1, ?_⟩, fun i hi => hst _ _ _ _ (er_to fun b hb hlt => ⟨hb, k.block b hlt fun hsb => ?_⟩) (h2 i hi)⟩
  · rcases h1.2 with hn | ⟨g, cap, cur, hv, hg, hblk, rest⟩
    · exact Or.inl hn
    · have hlt := (Array.getElem?_eq_some_iff.1 hblk).1
      exact Or.inr ⟨g, cap, cur, hv, hg, (k.block g hlt (fun hsg => by have := hs g hsg; omega)).trans hblk, rest⟩
  · have := hs b hsb
    unfold rowB at hb
    simp at hb
    omega
theorem grown_kp {w w' : World} {og : Option Nat} (h : w.grownBy w' og) : Kp (fun j => og = some j) w w' :=
  ⟨h.os, h.tape, h.output, h.size, fun j hj hn => h.block j hj fun e2 => hn e2.symm⟩
theorem er_keepQ {N : Nat} {a b : World} {S : Nat → Prop} (h : Kp S a b) (hs : ∀ j, S j → j < N ∨ a.heap.size ≤ j) : Sub (er (oldB N) a) (er (oldB N) b) := er_to fun k hk hlt => ⟨hk, h.block k hlt fun hsk => by
  unfold oldB at hk
  simp at hk
  have := hs k hsk
  omega⟩
theorem LW.sl {α : Type} {d : α} {It : World → α → List Value → Prop} {size : Nat} {e : TypeId} {N : Nat} {w : World} {v : Value} {xs : List α} (h : LW d It size e N w v xs) : ∃ A k, v = .slice A xs.length k := by
  obtain ⟨cs, h1, h2⟩ := h.ex
  rcases h1.2 with ⟨hv, hn⟩ | ⟨g, cap, cur, hv, _⟩
  · exact ⟨none, 0, by rw [hv, hn]⟩
  · exact ⟨_, _, hv⟩
/-- A list of types is read, or the reader has failed. -/
def DTQ (W0 w : World) (p : Nat) (D : Option Addr) (c : Nat) (l : List Int) (i : Nat) (bad : Bool) (e : Ending) (w' : World) : Prop :=
  ∃ xs A k j bd, e = .returned (.slice A xs.length k) ∧ Kp (OneB p) w w' ∧ TysAt (er (oldB w.heap.size) w') A xs ∧ RdD W0 w' p D c l j bd ∧ St (pL mxI pTy) l i bad xs j bd
section
variable {W0 w : World} {p : Nat} {D : Option Addr} {c : Nat} {l : List Int} {i : Nat} {bad : Bool}
set_option maxHeartbeats 8000000 in
theorem dtypes_any (h : RdD W0 w p D c l i bad) (hB : l.length ≤ 1048576) :
    Calls Try.prog 25 #[.pointer (some ⟨p, 0, none⟩)] w (DTQ W0 w p D c l i bad) := by
  have hpl := h.lt
  have hW0 := h.bl.size
  have HR := hidW h
  clear h
  obtain ⟨j0, hi0, hz0, hz1, hz2⟩ := info_takeTypes
  go_enter Try.func25, Try.ntmps25
  go_wp2_with (go_at_call 23; refine (dmany_any HR.out).mono ?_; rintro e w1 ⟨x, i1, b1, rfl, h64, k1, r1, s1⟩; have R1 := hidW r1; have K1 := hidW k1; have S1 := hidW s1; have hw1 := k1.size; unfold I64 at h64; clear r1 k1 s1)
  go_loopw [3, 5] (fun v k wr => ∃ (m : Nat) (xs : List Ty) (j : Nat) (bd : Bool), k = .int .i64 (m : Int) ∧ Kp (NB p w.heap.size) w wr ∧ Lst pTy x.toNat l i1 b1 m xs j bd ∧ RdD W0 wr p D c l j bd ∧ LW ty0 ItTy 2 46 w.heap.size wr v xs) (fun _ k _ => x.toNat - (intOf k).toNat)
  case atStart => exact ⟨0, [], i1, b1, rfl, K1.out.one, Lst.begin _ _ _ _ _, R1.out, LW.nil _ _ _ _ _ _⟩
  case round =>
    obtain ⟨m, xs, j, bd, rfl, hk, hl, h2, h3⟩ := hrel
    have HK := hidW hk
    have HL := hidW hl
    have H2 := hidW h2
    have H3 := hidW h3
    have hws := hk.size
    have hpr := h2.lt
    have b2 := blk_cell h2.blk 2 rfl
    have hfew := hl.few
    have HXL := hidW hl.len
    obtain ⟨A, k, hv⟩ := h3.sl
    clear hk hl h2 h3
    by_cases hlt : (m : Int) < x
    · cases bd with
      | true =>
        obtain ⟨A, k, hv, hat⟩ := H3.out.tys (by rw [HXL.out]; unfold maxLen; omega)
        have HAT := hidW hat
        clear hat
        subst hv
        go_wp2
        go_ret
        exact ⟨xs, A, k, j, true, rfl, HK.out.nb, HAT.out, H2.out, Lst.ends S1.out HL.out (Or.inl rfl)⟩
      | false =>
        have X0 := hidW (Dx.new H2.out (Kp.refl (Sq3 p wr.heap.size wr.heap.size) wr) #[.int .i64 0, .int .i64 0] 46)
        obtain ⟨v, hv'⟩ : ∃ v, v = u3 := ⟨u3, rfl⟩
        subst hv'
        have hsm := HL.out.small pTy_eats hB
        have HV := hidW hv
        clear hv
        go_wp2_with (first
          | (have := X1; go_at_call 24; refine (dnum_any X1.out.rd).mono ?_; rintro e w3 ⟨x3, j3, b3, rfl, i3, k3, r3, s3⟩; have y3 := X1.out.call (by omega) k3 r3; have q0 := blk_cell y3.blk 0 rfl; have q1 := blk_cell y3.blk 1 rfl; have z1 := blk_free y3.blk 1; have I3 := hidW i3; have S3 := hidW s3; have X2 := hidW (y3.set (by omega) (by omega) 1 (.int .i64 x3)); have hs3 := lt_of_blkW y3.blk; have LA := hidW ((H3.out.keepQ ItTy.st (X2.out.alloc (.cells #[.int .i64 x2, .int .i64 x3] 46)).kp (fun j hj => by rcases hj with e | e | e <;> omega))); obtain ⟨cs, la1, la2⟩ := LA.out.ex; have LA1 := hidW la1; have LA2 := hidW la2; clear i3 k3 r3 s3 y3 la1 la2)
          | (go_at_call 24; refine (dnum_any X0.out.rd).mono ?_; rintro e w2 ⟨x2, j2, b2, rfl, i2, k2, r2, s2⟩; have y2 := X0.out.call (by omega) k2 r2; have q0 := blk_cell y2.blk 0 rfl; have z0 := blk_free y2.blk 0; have I2 := hidW i2; have S2 := hidW s2; have X1 := hidW (y2.set (by omega) (by omega) 0 (.int .i64 x2)); clear i2 k2 r2 s2 y2)
          | (at_builtin; refine wpList_append_lies _ rfl (.tmp 28) (.tmp 30) 41 rfl w.heap.size 46 j0 _ 2 16 Try.underlying41 hi0 hz0 hz1 hz2 rfl (by omega) v xs.length cs (by rfl) (by exact LA1.out) ⟨w3.heap.size, 0, none⟩ 1 1 [.int .i64 x2, .int .i64 x3] (by rfl) (by rfl) (World.news_of_block (cs := #[.int .i64 x2, .int .i64 x3]) (t := 46) (fr := (0, 0)) (by have := heap_alloc_new (w3.setCell ⟨wr.heap.size, 1, none⟩ (.int .i64 x3)) (.cells #[.int .i64 x2, .int .i64 x3] 46); rw [World.size_setCell] at this; exact this)) (by simp [Value.oneCell']) (by omega) (by rw [HXL.out]; unfold maxLen; omega) (by rw [HXL.out]; omega) (by simp; omega) (w3.heap.size + 1) (by simp) ?_; intro gg cap w4 hown1 hgrow hat hlt2; have GB := hidW (LA1.out.lt); have GR := hidW (grown_kp hgrow); have G4 := hidW (LW.app (x := (⟨x2, x3⟩ : Ty)) ItTy.st rfl rfl LA1.out LA2.out ⟨rfl, I2.out, I3.out⟩ hown1 hgrow (by simpa using hat)); clear hown1 hgrow hat hlt2))
        have XA := hidW (X2.out.alloc (.cells #[.int .i64 x2, .int .i64 x3] 46))
        have R4 := hidW (XA.out.rd.keep GR.out (fun e2 => by have := (GB.out p e2).1; omega) (fun j hj => by have := (GB.out j hj).1; omega))
        have K4 := hidW ((HK.out.trans (XA.out.kp.less fun j _ hj => by rcases hj with e | e | e <;> first | exact Or.inl e | exact Or.inr (by omega))).trans (GR.out.less fun j _ hj => Or.inr (GB.out j hj).1))
        go_roundw
        case rel => exact ⟨m + 1, xs ++ [⟨x2, x3⟩], j3, b3, by go_num, K4.out, HL.out.next (by omega) pTy_eats hB (S2.out.ty S3.out), R4.out, G4.out⟩
        case measure => simp [intOf]; omega
    · obtain ⟨A, k, hv, hat⟩ := H3.out.tys (by rw [HXL.out]; unfold maxLen; omega)
      have HAT := hidW hat
      clear hat
      subst hv
      go_wp2
      go_ret
      exact ⟨xs, A, k, j, bd, rfl, HK.out.nb, HAT.out, H2.out, Lst.ends S1.out HL.out (Or.inr (by omega))⟩
end

end Go.Proofs.Ytgiiapenmjollab
