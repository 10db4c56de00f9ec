/-
  The document's bytes of a number.
-/
import Derived.Test.YtgiiapenmjollabMWirePutB
import Derived.Test.YtgiiapenmjollabMFut
import Derived.Laws.BytesArg
import Derived.Laws.IdiomStrings
import Derived.Laws.Concat
import Derived.Test.YtgiiapenmjollabMWireGood
import Derived.Test.YtgiiapenmjollabMSformForm
import Derived.Test.YtgiiapenmjollabMRefSixForm
import Derived.Deep.RegionHeld3
namespace Go.Proofs.Ytgiiapenmjollab
open Go.RowKit
set_option maxRecDepth 100000
set_option linter.unusedVariables false
set_option linter.unusedSimpArgs false

/-- Bytes as a string. -/
def bS (l : List Int) : ByteArray := strOfNums l
theorem bS_size (l : List Int) : (bS l).size = l.length := strOfNums_size l
theorem bS_app (a b : List Int) : bS a ++ bS b = bS (a ++ b) := by
  unfold bS strOfNums
  apply ByteArray.ext
  simp
theorem add_bS (a b : List Int) (h : a.length + b.length ≤ 9223372036854775807) (w : World) : (Op.stringOp .add (bS a) (bS b)).run Try.prog w = .ok (.string (bS (a ++ b))) w := by
  rw [run_string_add_sum w _ _ (by rw [bS_size, bS_size]; exact h), bS_app]

theorem add_no (a b : List Int) (h : a.length + b.length ≤ 9223372036854775807) : ¬ (9223372036854775807 < (bS a).size + (bS b).size) := by rw [bS_size, bS_size]; omega

def wdN (n : Int) : Nat → Int
  | 0 => n
  | j + 1 => wdN n j / 256
theorem wdN_i64 (n : Int) (h : I64 n) : ∀ j, I64 (wdN n j)
  | 0 => h
  | j + 1 => by
    have := wdN_i64 n h j
    show I64 (wdN n j / 256)
    unfold I64 at *
    omega
theorem wdN_nth (n : Int) (j : Nat) (hj : j < 8) : nth (0 : Int) (wideL n) (7 - j) = wdN n j % 256 := by
  have : j = 0 ∨ j = 1 ∨ j = 2 ∨ j = 3 ∨ j = 4 ∨ j = 5 ∨ j = 6 ∨ j = 7 := by omega
  rcases this with rfl | rfl | rfl | rfl | rfl | rfl | rfl | rfl
  all_goals
    simp only [wideL, nth, wdN, List.getD_cons_succ, List.getD_cons_zero, Nat.sub_zero, Nat.reduceSub]
    try omega
/-- The array that is filled from behind. -/
def Arr (w wr : World) (n : Int) (j : Nat) : Prop := Bl w wr ∧ w.heap.size < wr.heap.size ∧ (∀ i, i < 8 → ∃ x, wr.cell? ⟨w.heap.size, i, none⟩ = some (.int .u8 x) ∧ (8 ≤ i + j → x = nth (0 : Int) (wideL n) i)) ∧ ∀ i, wr.frozen? ⟨w.heap.size, i, none⟩ = false
theorem Arr.set {w wr : World} {n x : Int} {j : Nat} (h : Arr w wr n j) (hj : j < 8) (hx : x = wdN n j % 256) : Arr w (wr.setCell ⟨w.heap.size, 7 - j, none⟩ (.int .u8 x)) n (j + 1) := by
  obtain ⟨h1, h2, h3, h4⟩ := h
  refine ⟨h1.setCell (Nat.le_refl _) _, by simpa using h2, fun i hi => ?_, fun i => by simpa using h4 i⟩
  obtain ⟨y, hy, hz⟩ := h3 i hi
  by_cases e : i = 7 - j
  · subst e
    exact ⟨x, World.cell?_setCell_same wr _ _ hy, fun _ => by rw [wdN_nth n j hj]; exact hx⟩
  · exact ⟨y, (World.cell?_setCell_other wr _ _ _ (by intro q; injection q; omega)).trans hy, fun _ => hz (by omega)⟩
theorem w_a (m : Int) (h : -9223372036854775808 ≤ m ∧ m ≤ 9223372036854775807) (h0 : 0 ≤ m) : (m - m % 256) / 256 = m / 256 := by omega
theorem w_b (m : Int) (h : -9223372036854775808 ≤ m ∧ m ≤ 9223372036854775807) (h0 : ¬ 0 ≤ m) (ht : m.tmod 256 < 0) : wrap64 ((wrap64 (m - wrap64 (m.tmod 256 + 256))).tdiv 256) = m / 256 ∧ wrap64 (m.tmod 256 + 256) % 256 = m % 256 := by
  have e : m.tmod 256 = m % 256 - 256 := by
    rw [Int.tmod_eq_emod] at ht ⊢
    by_cases hd : 0 ≤ m ∨ (256 : Int) ∣ m
    · rw [if_pos hd] at ht; omega
    · rw [if_neg hd]; rfl
  rw [e]
  have e1 : wrap64 (m % 256 - 256 + 256) = m % 256 := by unfold wrap64; omega
  have e2 : wrap64 (m - m % 256) = m - m % 256 := by unfold wrap64; omega
  rw [e1, e2]
  have e3 : (m - m % 256).tdiv 256 = m / 256 := by
    rw [show m - m % 256 = (m / 256) * 256 by omega]
    exact Int.mul_tdiv_cancel _ (by decide)
  rw [e3]
  unfold wrap64
  omega
theorem w_c (m : Int) (h : -9223372036854775808 ≤ m ∧ m ≤ 9223372036854775807) (h0 : ¬ 0 ≤ m) (ht : 0 ≤ m.tmod 256) : wrap64 ((wrap64 (m - m.tmod 256)).tdiv 256) = m / 256 ∧ m.tmod 256 % 256 = m % 256 := by
  have e : m.tmod 256 = 0 ∧ m % 256 = 0 := by
    rw [Int.tmod_eq_emod] at ht ⊢
    by_cases hd : 0 ≤ m ∨ (256 : Int) ∣ m
    · rw [if_pos hd] at ht ⊢; omega
    · rw [if_neg hd] at ht; simp at ht; omega
  rw [e.1, e.2]
  have e2 : wrap64 (m - 0) = m := by unfold wrap64; omega
  rw [e2]
  have e3 : m.tdiv 256 = m / 256 := by
    rw [show m = (m / 256) * 256 by omega, Int.mul_tdiv_cancel _ (by decide), Int.mul_ediv_cancel _ (by decide)]
  rw [e3]
  unfold wrap64
  omega
set_option maxHeartbeats 4000000 in
theorem rwide_any (n : Int) (w : World) (hn : I64 n) :
    Calls Try.prog 19 #[.int .i64 n] w fun e w' => e = .returned (.string (bS (wideL n))) ∧ Bl w w' := by
  have HN := hidW hn
  clear hn
  go_enter Try.func19, Try.ntmps19
  go_wp2
  go_loopw [0, 4] (fun m s wr => ∃ j : Nat, j ≤ 8 ∧ s = .int .i64 (7 - (j : Int)) ∧ m = .int .i64 (wdN n j) ∧ Arr w wr n j) (fun _ s _ => (intOf s + 1).toNat)
  case atStart =>
    refine ⟨0, by omega, rfl, rfl, (Bl.refl w).alloc _, by simp, fun i hi => ⟨0, ?_, fun h => by omega⟩, fun i => ?_⟩
    · refine cell_of_new ?_
      have : i = 0 ∨ i = 1 ∨ i = 2 ∨ i = 3 ∨ i = 4 ∨ i = 5 ∨ i = 6 ∨ i = 7 := by omega
      rcases this with rfl | rfl | rfl | rfl | rfl | rfl | rfl | rfl <;> rfl
    · rw [World.frozen?_alloc_mark]; simp
  case round =>
    obtain ⟨j, hj, rfl, rfl, hA⟩ := hrel
    have HA := hidW hA
    obtain ⟨h1, h2, h3, h4⟩ := hA
    have hb := wdN_i64 n HN.out j
    have HX := hidW (show wdN n (j + 1) = wdN n j / 256 from rfl)
    have HM := hidW (rfl : wdN n j = wdN n j)
    obtain ⟨m, hm⟩ : ∃ m, m = wdN n j := ⟨_, rfl⟩
    rw [← hm] at hb HX ⊢
    have HE := hidW hm
    clear HM hm
    unfold I64 at hb
    have H3 := hidW h3
    clear h1 h3
    by_cases hlt : j < 8
    · obtain ⟨x, hx, -⟩ := H3.out (7 - j) (by omega)
      have e7 : ((7 - j : Nat) : Int) = 7 - (j : Int) := by omega
      by_cases hm : 0 ≤ m
      · go_wp2
        go_roundw
        case rel => exact ⟨j + 1, by omega, by go_num, by rw [HX.out, w_a m hb hm], HA.out.set hlt (by rw [HE.out])⟩
        case measure => simp [intOf]; omega
      · go_wp2
        · have W := w_b m hb hm (by assumption)
          go_roundw
          case rel => exact ⟨j + 1, by omega, by go_num, by rw [HX.out, W.1], HA.out.set hlt (by rw [W.2, HE.out])⟩
          case measure => simp [intOf]; omega
        · have W := w_c m hb hm (by assumption)
          go_roundw
          case rel => exact ⟨j + 1, by omega, by go_num, by rw [HX.out, W.1], HA.out.set hlt (by rw [W.2, HE.out])⟩
          case measure => simp [intOf]; omega
    · obtain rfl : j = 8 := by omega
      have hcv : (convert 26 9 (.slice (some ⟨w.heap.size, 0, none⟩) 8 8)).run Try.prog wr = .ok (.string (bS (wideL n))) wr :=
        run_convert_bytes_arg wr 26 5 Try.underlying26 Try.underlying5 w.heap.size 0 8 8 (wideL n) rfl (fun i hi => by
          obtain ⟨y, hy, hz⟩ := H3.out i hi
          rw [Nat.zero_add, hy, hz (by omega)]; rfl) 9 Try.underlying9
      go_wp2
      go_ret
      exact ⟨rfl, HA.out.1⟩
end Go.Proofs.Ytgiiapenmjollab
namespace Go.Proofs.Ytgiiapenmjollab
open Go.RowKit
set_option maxRecDepth 100000
set_option linter.unusedVariables false
set_option linter.unusedSimpArgs false

/-- The bytes of the first items of a list. -/
def fl {α : Type} (e : α → List Int) (r : List α) (k : Nat) : List Int := ((r.take k).map e).flatten
theorem fl_0 {α : Type} (e : α → List Int) (r : List α) : fl e r 0 = [] := rfl
theorem fl_all {α : Type} (e : α → List Int) (r : List α) : fl e r r.length = (r.map e).flatten := by unfold fl; rw [List.take_length]
theorem fl_len {α : Type} (e : α → List Int) (r : List α) (k : Nat) : (fl e r k).length ≤ (r.map e).flatten.length := flat_len e r k
theorem fl_succ {α : Type} (d : α) (e : α → List Int) (r : List α) (k : Nat) (h : k < r.length) : fl e r k ++ e (nth d r k) = fl e r (k + 1) := (flat_take d e r k h).symm
theorem fl_item {α : Type} (d : α) (e : α → List Int) (r : List α) (k : Nat) (h : k < r.length) : (fl e r k).length + (e (nth d r k)).length ≤ (r.map e).flatten.length := by
  rw [← List.length_append, fl_succ d e r k h]; exact fl_len e r (k + 1)
/-- A list's bytes so far, its length ahead. -/
def fh {α : Type} (e : α → List Int) (r : List α) (k : Nat) : List Int := wideL r.length ++ fl e r k
theorem fh_all {α : Type} (e : α → List Int) (r : List α) : fh e r r.length = encL e r := by unfold fh encL; rw [fl_all]
theorem fh_0 {α : Type} (e : α → List Int) (r : List α) : fh e r 0 = wideL r.length := by unfold fh; rw [fl_0, List.append_nil]
theorem fh_succ {α : Type} (d : α) (e : α → List Int) (r : List α) (k : Nat) (h : k < r.length) : fh e r k ++ e (nth d r k) = fh e r (k + 1) := by unfold fh; rw [List.append_assoc, fl_succ d e r k h]
theorem fh_item {α : Type} (d : α) (e : α → List Int) (r : List α) (k : Nat) (h : k < r.length) : (fh e r k).length + (e (nth d r k)).length ≤ (encL e r).length := by
  have := fl_item d e r k h
  unfold fh encL; rw [List.length_append, List.length_append]; omega
set_option maxHeartbeats 4000000 in
theorem rnumbers_any (r : List Int) (A : Option Addr) (c : Nat) (w : World) (hA : IntsAt w A r) (hl : (r.map wideL).flatten.length ≤ 100000000) :
    Calls Try.prog 17 #[.slice A r.length c] w fun e w' => e = .returned (.string (bS (r.map wideL).flatten)) ∧ Bl w w' := by
  have HA := hidW hA
  have HL := hidW hl
  have hm := hA.1
  unfold maxLen at hm
  clear hA hl
  go_enter Try.func17, Try.ntmps17
  go_wp2
  go_loopw [3, 4] (fun s i wr => ∃ k : Nat, k ≤ r.length ∧ i = .int .i64 (k : Int) ∧ s = .string (bS (fl wideL r k)) ∧ Bl w wr) (fun _ i _ => r.length - (intOf i).toNat)
  case atStart => exact ⟨0, by omega, rfl, rfl, Bl.refl _⟩
  case round =>
    obtain ⟨k, hk, rfl, rfl, h1⟩ := hrel
    have H1 := hidW h1
    clear h1
    by_cases hlt : k < r.length
    · rcases HA.out.2 with h0 | ⟨b, off, rfl, hi⟩
      · omega
      obtain ⟨c0, x0⟩ := hi k hlt
      clear hi
      have d0 := H1.out.cell c0
      have X := hidW x0
      clear c0 x0
      have hno := add_no (fl wideL r k) (wideL (nth (0 : Int) r k)) (by have := fl_item (0 : Int) wideL r k hlt; have := HL.out; omega)
      have hadd := bS_app (fl wideL r k) (wideL (nth (0 : Int) r k))
      rw [fl_succ (0 : Int) wideL r k hlt] at hadd
      go_wp2_with (go_at_call 19; refine (rwide_any _ _ X.out).mono ?_; rintro e w2 ⟨rfl, g2⟩)
      go_roundw
      case rel => exact ⟨k + 1, by omega, by go_num, rfl, H1.out.trans g2⟩
      case measure => simp [intOf]; omega
    · obtain rfl : k = r.length := by omega
      go_wp2
      go_ret
      exact ⟨by rw [← fl_all]; rfl, H1.out⟩

/-- Which form a file has: 1 on a stack, 2 on registers, 0 none. -/
def formN (f : Fi) : Int := if smayB f = true then 1 else if rfmayB f = true then 2 else 0
set_option maxHeartbeats 4000000 in
theorem rform_any (f : Fi) (A B : Option Addr) (a b : Nat) (w : World) (hA : ClsAt w A f.classes) (hB : MesAt w B f.methods) :
    Calls Try.prog 7 #[fiV f.classes.length f.methods.length A B a b] w fun e w' => e = .returned (.int .i64 (formN f)) ∧ Bl w w' := by
  have HA := hidW hA
  have HB := hidW hB
  clear hA hB
  have HF : Hid (FiBox (w.alloc (fiO f.classes.length f.methods.length A B a b)) w.heap.size 0 f.classes.length f.methods.length A B a b) := FiBox.new ..
  have HW : Hid (Bl w (w.alloc (fiO f.classes.length f.methods.length A B a b))) := (Bl.refl w).alloc _
  have HN := hidW (show formN f = if smayB f = true then 1 else if rfmayB f = true then 2 else 0 from rfl)
  generalize formN f = N at *
  cases hS : smayB f with
  | true =>
    rw [hS] at HN
    have HS := hidW hS
    clear hS
    go_enter Try.func7, Try.ntmps7
    go_wp2_with (go_at_call 15; refine (rsmay_any f _ _ _ _ _ (HA.out.bl HW.out) (HB.out.bl HW.out)).mono ?_; rintro e w1 ⟨he, g1⟩; rw [HS.out] at he; subst he)
    go_ret
    exact ⟨by rw [HN.out]; rfl, HW.out.trans g1⟩
  | false =>
    cases hR : rfmayB f with
    | true =>
      rw [hS, hR] at HN
      have HS := hidW hS
      have HR := hidW hR
      clear hS hR
      go_enter Try.func7, Try.ntmps7
      go_wp2_with (first
        | (go_at_call 15; refine (rsmay_any f _ _ _ _ _ (HA.out.bl HW.out) (HB.out.bl HW.out)).mono ?_; rintro e w1 ⟨he, g1⟩; rw [HS.out] at he; subst he; have G1 := hidW (HW.out.trans g1); obtain ⟨v0, v1⟩ := HF.out.bl g1; simp only [Nat.zero_add] at v1; clear g1)
        | (go_at_call 16; refine (rfmay_any f _ _ _ _ _ (HA.out.bl G1.out) (HB.out.bl G1.out)).mono ?_; rintro e w2 ⟨he, g2⟩; rw [HR.out] at he; subst he))
      go_ret
      exact ⟨by rw [HN.out]; rfl, G1.out.trans g2⟩
    | false =>
      rw [hS, hR] at HN
      have HS := hidW hS
      have HR := hidW hR
      clear hS hR
      go_enter Try.func7, Try.ntmps7
      go_wp2_with (first
        | (go_at_call 15; refine (rsmay_any f _ _ _ _ _ (HA.out.bl HW.out) (HB.out.bl HW.out)).mono ?_; rintro e w1 ⟨he, g1⟩; rw [HS.out] at he; subst he; have G1 := hidW (HW.out.trans g1); obtain ⟨v0, v1⟩ := HF.out.bl g1; simp only [Nat.zero_add] at v1; clear g1)
        | (go_at_call 16; refine (rfmay_any f _ _ _ _ _ (HA.out.bl G1.out) (HB.out.bl G1.out)).mono ?_; rintro e w2 ⟨he, g2⟩; rw [HR.out] at he; subst he))
      go_ret
      exact ⟨by rw [HN.out]; rfl, G1.out.trans g2⟩

/-- Numbers in a row that was just laid. -/
theorem ints_new (W : World) (r : List Int) (T : TypeId) {p : Nat} (hp : p = W.heap.size) (hl : r.length ≤ 1000) (hI : ∀ x ∈ r, I64 x) : IntsAt (W.alloc (.cells (r.map (Value.int .i64)).toArray T)) (some ⟨p, 0, none⟩) r :=
  ⟨by unfold maxLen; omega, Or.inr ⟨p, 0, rfl, fun i hi => by rw [Nat.zero_add]; exact row_new W r T hp hI i hi⟩⟩
theorem enc_le_row (r : List Int) (h : r.length ≤ 1000) : (r.map wideL).flatten.length ≤ 100000000 := by
  have := flat_le wideL 8 r (fun x _ => by rw [wide_len]; omega)
  omega
/-- The bytes of numbers in a row that was laid since. -/
theorem rnums_new (r : List Int) (W W' : World) (hl : r.length ≤ 1000) (hI : ∀ x ∈ r, I64 x) (hb : Bl (W.alloc (.cells (r.map (Value.int .i64)).toArray 3)) W') (n : Nat) (hn : n = r.length) :
    Calls Try.prog 17 #[.slice (some ⟨W.heap.size, 0, none⟩) n n] W' fun e w2 => e = .returned (.string (bS (r.map wideL).flatten)) ∧ Bl W' w2 := by
  subst hn
  exact rnumbers_any r _ _ W' ((ints_new W r _ rfl hl hI).bl hb) (enc_le_row r hl)
set_option maxHeartbeats 4000000 in
theorem rtypes_any (ts : List Ty) (A : Option Addr) (c : Nat) (w : World) (hA : TysAt w A ts) (hl : (encL encTy ts).length ≤ 100000000) :
    Calls Try.prog 18 #[.slice A ts.length c] w fun e w' => e = .returned (.string (bS (encL encTy ts))) ∧ Bl w w' := by
  have HA := hidW hA
  have HL := hidW hl
  have hm := hA.1
  unfold maxLen at hm
  clear hA hl
  have HI := hidW (ints_new w [(ts.length : Int)] 3 rfl (by simp) (by simp; unfold I64; omega))
  have HE := hidW (show ([(ts.length : Int)].map wideL).flatten = wideL ts.length by simp)
  go_enter Try.func18, Try.ntmps18
  go_wp2_with (go_at_call 17; refine (rnumbers_any [(ts.length : Int)] _ _ _ HI.out (by rw [HE.out, wide_len]; omega)).mono ?_; rintro e w1 ⟨he, g1⟩; rw [HE.out] at he; subst he; have G1 := hidW (((Bl.refl w).alloc _).trans g1); clear g1)
  go_loopw [3, 4] (fun s i wr => ∃ k : Nat, k ≤ ts.length ∧ i = .int .i64 (k : Int) ∧ s = .string (bS (fh encTy ts k)) ∧ Bl w wr) (fun _ i _ => ts.length - (intOf i).toNat)
  case atStart => exact ⟨0, by omega, rfl, by rw [fh_0], G1.out⟩
  case round =>
    obtain ⟨k, hk, rfl, rfl, h1⟩ := hrel
    have H1 := hidW h1
    clear h1 G1
    by_cases hlt : k < ts.length
    · rcases HA.out.2 with h0 | ⟨b, off, rfl, hi⟩
      · omega
      obtain ⟨c0, c1, x0, x1⟩ := hi k hlt
      clear hi
      have d0 := H1.out.cell c0
      have d1 := H1.out.cell c1
      have X := hidW (And.intro x0 x1)
      clear c0 c1 x0 x1
      have hno := add_no (fh encTy ts k) (encTy (nth ty0 ts k)) (by have := fh_item ty0 encTy ts k hlt; have := HL.out; omega)
      have hadd := bS_app (fh encTy ts k) (encTy (nth ty0 ts k))
      rw [fh_succ ty0 encTy ts k hlt] at hadd
      have HE2 := hidW (show ([(nth ty0 ts k).kind, (nth ty0 ts k).cls].map wideL).flatten = encTy (nth ty0 ts k) by simp [encTy])
      have HX := hidW (fun (W W' : World) (hb : Bl (W.alloc (.cells #[.int .i64 (nth ty0 ts k).kind, .int .i64 (nth ty0 ts k).cls] 3)) W') => rnums_new [(nth ty0 ts k).kind, (nth ty0 ts k).cls] W W' (by simp) (by simp; exact X.out) hb 2 rfl)
      have hk0 : (0 : Int) ≤ (k : Int) := by omega
      have hk1 : (k : Int) < (ts.length : Int) := by omega
      go_wp2
      go_region_held3 (fun w' => w'.cell? ⟨b, off + k * 2, none⟩ = some (.int .i64 (nth ty0 ts k).kind) ∧ w'.cell? ⟨b, off + k * 2 + 1, none⟩ = some (.int .i64 (nth ty0 ts k).cls)) (first | go_keep | exact ⟨g2.cell (((Bl.refl wr).alloc _).drew.cell d0), g2.cell (((Bl.refl wr).alloc _).drew.cell d1)⟩)
        ((go_at_call 17; refine (HX.out wr _ ((Bl.refl _).drew)).mono ?_; rintro e w2 ⟨he, g2⟩; rw [HE2.out] at he; subst he))
      go_wp2
      go_roundw
      case rel => exact ⟨k + 1, by omega, by go_num, rfl, (H1.out.alloc _).drew.trans g2⟩
      case measure => simp [intOf]; omega
    · obtain rfl : k = ts.length := by omega
      go_wp2
      go_ret
      exact ⟨by rw [← fh_all]; rfl, H1.out⟩

end Go.Proofs.Ytgiiapenmjollab
