/-
  Package rform: which files on registers may be: a contract.
-/
import Derived.Test.YtgiiapenmjollacLRformJ
namespace Go.Proofs.Ytgiiapenmjollac
open Go.RowKit
set_option linter.unusedVariables false
set_option linter.unusedSimpArgs false

theorem pmay_cls {f : Fi} (h : mayB f.classes = false) : pmayB f = false := by unfold pmayB; rw [h]; rfl
theorem pmay_many {f : Fi} (h : ¬ (1 ≤ (f.methods.length : Int) ∧ (f.methods.length : Int) ≤ 8)) : pmayB f = false := by unfold pmayB; rw [decide_eq_false h, Bool.false_and, Bool.and_false]
theorem pmay_me {f : Fi} {q : Nat} (hq : q < f.methods.length) (h : pmeB f.classes f.methods (nth me0 f.methods q) = false) : pmayB f = false := by
  unfold pmayB; rw [all_bad hq h, Bool.and_false, Bool.and_false]
theorem pmay_good {f : Fi} (h0 : mayB f.classes = true) (h : 1 ≤ (f.methods.length : Int) ∧ (f.methods.length : Int) ≤ 8)
    (hi : ∀ q, q < f.methods.length → pmeB f.classes f.methods (nth me0 f.methods q) = true) : pmayB f = true := by
  unfold pmayB; rw [h0, decide_eq_true h, all_good hi]; rfl

set_option maxRecDepth 100000 in
set_option maxHeartbeats 8000000 in
theorem pmay_any (f : Fi) (A B : Option Addr) (a b : Nat) (w : World) (hA : ClsAt w A f.classes) (hB : MesAt w B f.methods) :
    Calls Try.prog 8 #[fiV f.classes.length f.methods.length A B a b] w fun e w' => e = .returned (.bool (pmayB f)) ∧ Bl w w' := by
  have HA : Hid (ClsAt w A f.classes) := hA
  have HB : Hid (MesAt w B f.methods) := hB
  have hcm := hA.1
  have hmm := hB.1
  unfold maxLen at hcm hmm
  clear hA hB
  have HF : Hid (FiBox (w.alloc (fiO f.classes.length f.methods.length A B a b)) w.heap.size 0 f.classes.length f.methods.length A B a b) := FiBox.new ..
  have HW : Hid (Bl w (w.alloc (fiO f.classes.length f.methods.length A B a b))) := (Bl.refl w).alloc _
  cases hm : mayB f.classes
  · have hb := pmay_cls hm
    rw [hb]
    go_enter Try.func8, Try.ntmps8
    go_wp2_with (go_at_call 12; refine (may_any _ _ _ _ (HA.out.bl HW.out)).mono ?_; rintro e w1 ⟨he, g1⟩; rw [hm] at he; subst he)
    go_ret
    exact ⟨rfl, HW.out.trans g1⟩
  by_cases hn : 1 ≤ (f.methods.length : Int) ∧ (f.methods.length : Int) ≤ 8
  · have dn : decide (1 ≤ (f.methods.length : Int) ∧ (f.methods.length : Int) ≤ 8) = true := decide_eq_true hn
    have HG : Hid ((∀ q, q < f.methods.length → pmeB f.classes f.methods (nth me0 f.methods q) = true) → pmayB f = true) := pmay_good hm hn
    go_enter Try.func8, Try.ntmps8
    go_wp2_with (first
      | (go_at_call 12; refine (may_any _ _ _ _ (HA.out.bl HW.out)).mono ?_; rintro e w1 ⟨he, g1⟩; rw [hm] at he; subst he; have q1 := (HF.out.bl g1).2; simp only [Nat.zero_add] at q1)
      | (go_at_call 13; refine (span_any _ _ _ _).mono ?_; rintro e w2 ⟨he, hw2⟩; rw [dn] at he; subst he; rw [hw2]; clear hw2 w2))
    go_loopw [19] (fun i wr => ∃ k : Nat, k ≤ f.methods.length ∧ i = .int .i64 k ∧ Hid (∀ j, j < k → pmeB f.classes f.methods (nth me0 f.methods j) = true) ∧ Hid (Bl w wr) ∧ Hid (FiBox wr w.heap.size 0 f.classes.length f.methods.length A B a b)) (fun i _ => f.methods.length - (intOf i).toNat)
    case atStart => exact ⟨0, Nat.zero_le _, rfl, fun j hj => absurd hj (Nat.not_lt_zero _), HW.out.trans g1, HF.out.bl g1⟩
    case round =>
      clear HF HW q1 g1 hm
      obtain ⟨k, hk, rfl, hgk, hg, HF⟩ := hrel
      by_cases hkl : k < f.methods.length
      · have hmes := HB.out.bl hg.out
        have HMES := hidp hmes
        rcases hmes.2 with h0 | ⟨b', off', rfl, hcell⟩
        · omega
        obtain ⟨P, C, K, p, c, kk, c0, c1, c2, c3, c4, c5, c6, c7, hme⟩ := hcell k hkl
        have HBAD : Hid (pmeB f.classes f.methods (nth me0 f.methods k) = false → pmayB f = false) := pmay_me hkl
        generalize hM : nth me0 f.methods k = m at *
        have HM : Hid (nth me0 f.methods k = m) := hM
        have HME : Hid (MeAt wr m P C K) := hme
        have qf0 : ∀ o, (wr.alloc o).cell? ⟨w.heap.size, 0, none⟩ = some (.slice A f.classes.length a) := fun o => ((Bl.refl wr).alloc o).cell HF.out.1
        have qf1 : ∀ o, (wr.alloc o).cell? ⟨w.heap.size, 1, none⟩ = some (.slice (some ⟨b', off', none⟩) f.methods.length b) := fun o => by
          have := HF.out.2; simp only [Nat.zero_add] at this; exact ((Bl.refl wr).alloc o).cell this
        have HAL : Hid (Bl wr (wr.alloc (meO m P C K p c kk))) := (Bl.refl wr).alloc _
        have HFA : Hid (FiBox (wr.alloc (meO m P C K p c kk)) w.heap.size 0 f.classes.length f.methods.length A _ a b) := HF.out.bl HAL.out
        clear hmes hcell hM hme
        cases hh : pmeB f.classes f.methods m
        · have HN : Hid (pmayB f = false) := HBAD.out hh
          clear HBAD
          go_wp2_with (go_at_call 21; refine (pme_any f.classes f.methods _ _ _ _ m _ _ _ _ _ _ _ (HA.out.bl (hg.out.trans HAL.out)) (HMES.out.bl HAL.out) (HME.out.bl HAL.out)).mono ?_; rintro e w1 ⟨he, g1⟩; rw [hh] at he; subst he)
          go_ret
          exact ⟨ret_bool HN.out.symm, (hg.out.trans HAL.out).trans g1⟩
        · have HT : Hid (pmeB f.classes f.methods m = true) := hh
          clear HBAD
          go_wp2_with (go_at_call 21; refine (pme_any f.classes f.methods _ _ _ _ m _ _ _ _ _ _ _ (HA.out.bl (hg.out.trans HAL.out)) (HMES.out.bl HAL.out) (HME.out.bl HAL.out)).mono ?_; rintro e w1 ⟨he, g1⟩; rw [hh] at he; subst he)
          go_roundw
          case rel => exact ⟨k + 1, by omega, by go_num, fun j hj => if h : j < k then hgk.out j h else by have : j = k := by omega
                                                                                                           subst this; rw [HM.out]; exact HT.out, (hg.out.trans HAL.out).trans g1, HFA.out.bl g1⟩
          case measure => simp [intOf]; omega
      · obtain rfl : k = f.methods.length := by omega
        have HN : Hid (pmayB f = true) := HG.out hgk.out
        go_wp2
        go_ret
        exact ⟨ret_bool HN.out.symm, hg.out⟩
  · have hb := pmay_many (f := f) hn
    rw [hb]
    have dn : decide (1 ≤ (f.methods.length : Int) ∧ (f.methods.length : Int) ≤ 8) = false := decide_eq_false hn
    go_enter Try.func8, Try.ntmps8
    go_wp2_with (first
      | (go_at_call 12; refine (may_any _ _ _ _ (HA.out.bl HW.out)).mono ?_; rintro e w1 ⟨he, g1⟩; rw [hm] at he; subst he; have q1 := (HF.out.bl g1).2; simp only [Nat.zero_add] at q1)
      | (go_at_call 13; refine (span_any _ _ _ _).mono ?_; rintro e w2 ⟨he, hw2⟩; rw [dn] at he; subst he; rw [hw2]; clear hw2 w2))
    go_ret
    exact ⟨rfl, HW.out.trans g1⟩
/-- By the document's own way of saying it. -/
theorem pmay_doc (f : Fi) (A B : Option Addr) (a b : Nat) (w : World) (hA : ClsAt w A f.classes) (hB : MesAt w B f.methods) :
    Calls Try.prog 8 #[fiV f.classes.length f.methods.length A B a b] w fun e w' => e = .returned (.bool (rfmayB f)) ∧ Bl w w' := by
  rw [pmay_is]; exact pmay_any f A B a b w hA hB

end Go.Proofs.Ytgiiapenmjollac
