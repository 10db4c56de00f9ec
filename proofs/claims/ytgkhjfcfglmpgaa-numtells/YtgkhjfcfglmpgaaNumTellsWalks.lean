/-
  The document's own Narrow, Long, Int and Holds, and package num's Holds with its closure, each by a contract.
-/
import Derived.Test.YtgkhjfcfglmpgaaNumRef
namespace Go.Proofs.Ytgkhjfcfglmpgaa
open Go.RowKit

set_option maxHeartbeats 1000000 in
theorem rnarrow_any (a : Int) (w : World) :
    Calls Try.prog 14 #[.int .i64 a] w fun e w' => e = .returned (.int .i64 (wrap32 a)) ∧ w' = w := by
  have h := ref_narrow a
  have hb := tmod32_bd a
  by_cases h1 : a.tmod 4294967296 < 0
  · by_cases h2 : a.tmod 4294967296 + 4294967296 ≥ 2147483648
    · have HE : Hid (wrap32 a = a.tmod 4294967296 + 4294967296 - 4294967296) := h.1 h1 h2
      clear h
      go_enter Try.func14, Try.ntmps14
      go_wp2
      go_ret
      exact ⟨ret_i (by rw [HE.out]; omega), rfl⟩
    · have HE : Hid (wrap32 a = a.tmod 4294967296 + 4294967296) := h.2.1 h1 (by omega)
      clear h
      go_enter Try.func14, Try.ntmps14
      go_wp2
      go_ret
      exact ⟨ret_i (by rw [HE.out]), rfl⟩
  · by_cases h2 : a.tmod 4294967296 ≥ 2147483648
    · have HE : Hid (wrap32 a = a.tmod 4294967296 - 4294967296) := h.2.2.1 (by omega) h2
      clear h
      go_enter Try.func14, Try.ntmps14
      go_wp2
      go_ret
      exact ⟨ret_i (by rw [HE.out]), rfl⟩
    · have HE : Hid (wrap32 a = a.tmod 4294967296) := h.2.2.2 (by omega) (by omega)
      clear h
      go_enter Try.func14, Try.ntmps14
      go_wp2
      go_ret
      exact ⟨ret_i (by rw [HE.out]), rfl⟩

theorem neg_one_quo (a : Int) : wrap64 (-a) = wrap64 (a.tdiv (-1)) := by
  congr 1; rw [Int.tdiv_neg, Int.tdiv_one]
theorem rem_by (a b : Int) (h : -9223372036854775808 ≤ a) (h' : a ≤ 9223372036854775807) : wrap64 (a - wrap64 (wrap64 (a.tdiv b) * b)) = a.tmod b := by
  have h1 := mul_tdiv_tmod a b
  have h2 := tmod_bd a b h h'
  rw [w64_mul]
  have h3 : a - a.tdiv b * b = a.tmod b := by omega
  have h4 : wrap64 (a - wrap64 (a.tdiv b * b)) = wrap64 (a - a.tdiv b * b) := by
    generalize a.tdiv b * b = x; unfold wrap64; omega
  rw [h4, h3, w64_in h2.1 h2.2]

set_option maxHeartbeats 2000000 in
theorem rlong_any (op a b : Int) (w : World) (hlo : -9223372036854775808 ≤ a) (hhi : a ≤ 9223372036854775807) (hlo' : -9223372036854775808 ≤ b) (hhi' : b ≤ 9223372036854775807) :
    Calls Try.prog 10 #[.int .i64 op, .int .i64 a, .int .i64 b] w fun e w' => e = .returned (.tuple #[.int .i64 (lngV op a b), .bool (lngB op b)]) ∧ w' = w := by
  by_cases h1 : op = 1
  · subst h1
    have HE : Hid (lngV 1 a b = wrap64 (a + b) ∧ lngB 1 b = true) := ⟨by simp [lngV], by simp [lngB]⟩
    clear hlo hhi hlo' hhi'
    go_enter Try.func10, Try.ntmps10
    go_wp2
    go_ret2
    exact ⟨ret_ib HE.out.1.symm HE.out.2.symm, rfl⟩
  by_cases h2 : op = 2
  · subst h2
    have HE : Hid (lngV 2 a b = wrap64 (a - b) ∧ lngB 2 b = true) := ⟨by simp [lngV], by simp [lngB]⟩
    clear hlo hhi hlo' hhi'
    go_enter Try.func10, Try.ntmps10
    go_wp2
    go_ret2
    exact ⟨ret_ib HE.out.1.symm HE.out.2.symm, rfl⟩
  by_cases h3 : op = 3
  · subst h3
    have HE : Hid (lngV 3 a b = wrap64 (a * b) ∧ lngB 3 b = true) := ⟨by simp [lngV], by simp [lngB]⟩
    clear hlo hhi hlo' hhi'
    go_enter Try.func10, Try.ntmps10
    go_wp2
    go_ret2
    exact ⟨ret_ib HE.out.1.symm HE.out.2.symm, rfl⟩
  by_cases hbits : op = 6 ∨ op = 7 ∨ op = 8
  · have HE : Hid (lngV op a b = wrap64 (sumB (fun i => opB op (bitB a i) (bitB b i)) 64 : Nat) ∧ lngB op b = true) :=
      ⟨by have h4 : ¬ op = 4 := by omega
          have h5 : ¬ op = 5 := by omega
          simp only [lngV, if_neg h1, if_neg h2, if_neg h3, if_neg h4, if_neg h5, if_pos hbits],
       by simp only [lngB, decide_eq_true_eq]; omega⟩
    have hc := fun w => bits_any op a b w hbits hlo hhi hlo' hhi'
    clear hlo hhi hlo' hhi'
    rcases hbits with rfl | rfl | rfl
    all_goals
      go_enter Try.func10, Try.ntmps10
      go_wp2_with (go_at_call 23; refine (hc _).mono ?_; rintro e w' ⟨rfl, rfl⟩)
      go_ret2
      exact ⟨ret_ib HE.out.1.symm HE.out.2.symm, rfl⟩
  by_cases h4 : op = 4
  · subst h4
    by_cases hb : b = 0
    · subst hb
      have HE : Hid (lngV 4 a 0 = 0 ∧ lngB 4 0 = false) := ⟨by simp [lngV], by simp [lngB]⟩
      clear hlo hhi hlo' hhi'
      go_enter Try.func10, Try.ntmps10
      go_wp2
      go_ret2
      exact ⟨ret_ib HE.out.1.symm HE.out.2.symm, rfl⟩
    · have HE : Hid (lngV 4 a b = wrap64 (a.tdiv b) ∧ lngB 4 b = true) := ⟨by simp [lngV, hb], by simp [lngB, hb]⟩
      clear hlo hhi hlo' hhi'
      by_cases hm : b = -1
      · subst hm
        go_enter Try.func10, Try.ntmps10
        go_wp2
        go_ret2
        exact ⟨ret_ib (by rw [HE.out.1]; exact neg_one_quo a) HE.out.2.symm, rfl⟩
      · go_enter Try.func10, Try.ntmps10
        go_wp2
        go_ret2
        exact ⟨ret_ib HE.out.1.symm HE.out.2.symm, rfl⟩
  by_cases h5 : op = 5
  · subst h5
    by_cases hb : b = 0
    · subst hb
      have HE : Hid (lngV 5 a 0 = 0 ∧ lngB 5 0 = false) := ⟨by simp [lngV], by simp [lngB]⟩
      clear hlo hhi hlo' hhi'
      go_enter Try.func10, Try.ntmps10
      go_wp2
      go_ret2
      exact ⟨ret_ib HE.out.1.symm HE.out.2.symm, rfl⟩
    · have HE : Hid (lngV 5 a b = a.tmod b ∧ lngB 5 b = true) := ⟨by simp [lngV, hb], by simp [lngB, hb]⟩
      have HR : Hid (wrap64 (a - wrap64 (wrap64 (a.tdiv b) * b)) = a.tmod b) := rem_by a b hlo hhi
      clear hlo hhi hlo' hhi'
      by_cases hm : b = -1
      · subst hm
        go_enter Try.func10, Try.ntmps10
        go_wp2
        go_ret2
        exact ⟨ret_ib (by rw [HE.out.1, ← HR.out, ← neg_one_quo, Int.mul_neg_one]) HE.out.2.symm, rfl⟩
      · go_enter Try.func10, Try.ntmps10
        go_wp2
        go_ret2
        exact ⟨ret_ib (by rw [HE.out.1, ← HR.out]) HE.out.2.symm, rfl⟩
  have e1 : lngV op a b = 0 := by
    simp only [lngV, if_neg h1, if_neg h2, if_neg h3, if_neg h4, if_neg h5, if_neg hbits]
  have e2 : lngB op b = false := by simp only [lngB, decide_eq_false_iff_not]; omega
  rw [e1, e2]
  clear e1 e2 hlo hhi hlo' hhi'
  have h6 : ¬ op = 6 := by omega
  have h7 : ¬ op = 7 := by omega
  have h8 : ¬ op = 8 := by omega
  clear hbits
  go_enter Try.func10, Try.ntmps10
  go_wp2
  go_ret2
  exact ⟨rfl, rfl⟩

theorem rint_any (op a b : Int) (w : World) :
    Calls Try.prog 9 #[.int .i64 op, .int .i64 a, .int .i64 b] w fun e w' => e = .returned (.tuple #[.int .i64 (wrap32 (lngV op (wrap32 a) (wrap32 b))), .bool (lngB op (wrap32 b))]) ∧ w' = w := by
  have ha := w32_bd a
  have hb := w32_bd b
  go_enter Try.func9, Try.ntmps9
  go_wp2_with (first | (go_at_call 14; refine (rnarrow_any _ _).mono ?_; rintro e w' ⟨rfl, rfl⟩) | (go_at_call 10; refine (rlong_any _ _ _ _ (by omega) (by omega) (by omega) (by omega)).mono ?_; rintro e w' ⟨rfl, rfl⟩))
  go_ret2
  exact ⟨rfl, rfl⟩

theorem hld1 (a : Int) : hldB 1 a = (a == 0) := by unfold hldB; by_cases h : a = 0 <;> simp [h]
theorem hld2 (a : Int) : hldB 2 a = decide (a < 0) := by unfold hldB; simp
theorem hld3 (a : Int) : hldB 3 a = (a != 0) := by unfold hldB; by_cases h : a = 0 <;> simp [h]
theorem hld4 (a : Int) : hldB 4 a = decide (0 < a) := by unfold hldB; simp
theorem hld0 (c a : Int) (h1 : ¬ c = 1) (h2 : ¬ c = 2) (h3 : ¬ c = 3) (h4 : ¬ c = 4) : hldB c a = false := by unfold hldB; simp [h1, h2, h3, h4]

theorem rholds_any (c a : Int) (w : World) :
    Calls Try.prog 16 #[.int .i64 c, .int .i64 a] w fun e w' => e = .returned (.bool (hldB c a)) ∧ w' = w := by
  by_cases h1 : c = 1
  · subst h1
    rw [hld1]
    go_enter Try.func16, Try.ntmps16
    go_wp2
    go_ret
    exact ⟨rfl, rfl⟩
  by_cases h2 : c = 2
  · subst h2
    rw [hld2]
    go_enter Try.func16, Try.ntmps16
    go_wp2
    go_ret
    exact ⟨rfl, rfl⟩
  by_cases h3 : c = 3
  · subst h3
    rw [hld3]
    go_enter Try.func16, Try.ntmps16
    go_wp2
    go_ret
    exact ⟨rfl, rfl⟩
  by_cases h4 : c = 4
  · subst h4
    rw [hld4]
    go_enter Try.func16, Try.ntmps16
    go_wp2
    go_ret
    exact ⟨rfl, rfl⟩
  rw [hld0 c a h1 h2 h3 h4]
  go_enter Try.func16, Try.ntmps16
  go_wp2
  go_ret
  exact ⟨rfl, rfl⟩

theorem ask_any (c a : Int) (b : Nat) (w : World) (hc : w.cell? ⟨b, 0, none⟩ = some (.int .i64 c)) :
    Calls Try.prog 32 #[.int .i64 a, .pointer (some ⟨b, 0, none⟩)] w fun e w' => e = .returned (.bool (hldB c a)) ∧ w' = w := by
  by_cases h1 : c = 1
  · subst h1
    rw [hld1]
    go_enter Try.func32, Try.ntmps32
    go_wp2
    go_ret
    exact ⟨rfl, rfl⟩
  by_cases h2 : c = 2
  · subst h2
    rw [hld2]
    go_enter Try.func32, Try.ntmps32
    go_wp2
    go_ret
    exact ⟨rfl, rfl⟩
  by_cases h3 : c = 3
  · subst h3
    rw [hld3]
    go_enter Try.func32, Try.ntmps32
    go_wp2
    go_ret
    exact ⟨rfl, rfl⟩
  by_cases h4 : c = 4
  · subst h4
    rw [hld4]
    go_enter Try.func32, Try.ntmps32
    go_wp2
    go_ret
    exact ⟨rfl, rfl⟩
  rw [hld0 c a h1 h2 h3 h4]
  go_enter Try.func32, Try.ntmps32
  go_wp2
  go_ret
  exact ⟨rfl, rfl⟩

theorem holds_any (c a : Int) (w : World) :
    Calls Try.prog 13 #[.int .i64 c, .int .i64 a] w fun e w' => e = .returned (.bool (hldB c a)) ∧ Grown w w' := by
  have hmf : ∀ (fn : Fn) (first cap : Array Value) (w : World), (Instr.makeFunc fn first cap).run Try.prog w = .ok (.func fn first cap) w := fun _ _ _ _ => rfl
  go_enter Try.func13, Try.ntmps13
  go_wp2_with (first | (go_at_call 24; go_in) | (go_at_call 32; refine (ask_any c _ _ _ (by go_simp)).mono ?_; rintro e w' ⟨rfl, rfl⟩))
  go_ret
  exact ⟨rfl, by repeat (first | exact Grown.refl _ | apply Grown.drew | apply Grown.alloc)⟩

end Go.Proofs.Ytgkhjfcfglmpgaa
