/-
  A file that may be has few of everything; so its bytes are few, are read as it, and are no other file's.
-/
import Derived.Test.YtgiiapenmjollacLWirePlain
namespace Go.Proofs.Ytgiiapenmjollac
open Go.RowKit

structure Fi.few (f : Fi) : Prop where
  cs : f.classes.length ≤ 12
  fs : ∀ c ∈ f.classes, c.fields.length ≤ 6
  ms : f.methods.length ≤ 8
  ps : ∀ m ∈ f.methods, m.params.length ≤ 4 ∧ m.code.length ≤ 2400 ∧ m.hands.length ≤ 8
  gs : ∀ m ∈ f.methods, ∀ i ∈ m.code, i.args.length ≤ 4
theorem mem_nth {α : Type} (d : α) {l : List α} {x : α} (h : x ∈ l) : ∃ k, k < l.length ∧ nth d l k = x := by
  obtain ⟨k, hk, rfl⟩ := List.getElem_of_mem h
  exact ⟨k, hk, nth_get hk⟩
theorem mayB_few {l : List Cl} (h : mayB l = true) : l.length ≤ 12 ∧ ∀ c ∈ l, c.fields.length ≤ 6 := by
  unfold mayB at h
  simp only [Bool.and_eq_true, decide_eq_true_eq] at h
  refine ⟨h.1.2.1, fun c hc => ?_⟩
  obtain ⟨k, hk, rfl⟩ := mem_nth cl0 hc
  have := List.all_eq_true.1 h.2 k (List.mem_range.2 hk)
  unfold clB at this
  simp only [Bool.and_eq_true, decide_eq_true_eq] at this
  exact this.1.2
theorem headB_few {n : Nat} {m : Me} {most : Int} (h : headB n m most = true) : m.params.length ≤ 4 ∧ (m.code.length : Int) ≤ most ∧ m.hands.length ≤ 8 := by
  unfold headB at h
  simp only [Bool.and_eq_true, decide_eq_true_eq] at h
  exact ⟨h.1.1.1.1, h.1.1.1.2.2.2, h.1.1.1.2.1⟩
theorem smayB_few {f : Fi} (h : smayB f = true) : f.few := by
  unfold smayB at h
  simp only [Bool.and_eq_true, decide_eq_true_eq] at h
  have hc := mayB_few h.1.1
  have hm := List.all_eq_true.1 h.2
  have hh : ∀ m ∈ f.methods, headB f.classes.length m 400 = true ∧ ∀ i ∈ m.code, sinB f.classes f.methods.length m.code.length m.locs i = true := fun m hx => by
    have := hm m hx
    unfold smeB at this
    simp only [Bool.and_eq_true] at this
    exact ⟨this.1.1, List.all_eq_true.1 this.2⟩
  refine ⟨hc.1, hc.2, h.1.2.2, fun m hx => ?_, fun m hx i hi => ?_⟩
  · have := headB_few (hh m hx).1
    exact ⟨this.1, by omega, this.2.2⟩
  · have := (hh m hx).2 i hi
    unfold sinB at this
    simp only [Bool.and_eq_true, decide_eq_true_eq] at this
    omega
theorem rrestB_args {cs : List Cl} {ms : List Me} {n : Nat} {regs ret : Int} {i : In} (h : rrestB cs ms n regs ret i = true) :
    i.args.length = 0 ∨ (0 ≤ i.a ∧ i.a < ms.length ∧ i.args.length = (nth me0 ms i.a.toNat).params.length) := by
  unfold rrestB at h
  rw [Bool.and_eq_true, decide_eq_true_eq] at h
  rcases h.1 with h1 | h1
  · right
    have h2 := h.2
    rw [h1] at h2
    simp only [show ¬ ((18 : Int) = 14 ∨ (18 : Int) = 15) by omega, show ¬ ((18 : Int) = 1) by omega, show ¬ ((18 : Int) = 2) by omega, show ¬ ((18 : Int) = 5 ∨ (18 : Int) = 6) by omega, show ¬ ((18 : Int) = 4) by omega,
      show ¬ ((18 : Int) = 10 ∨ (18 : Int) = 12) by omega, show ¬ ((18 : Int) = 11) by omega, show ¬ ((18 : Int) = 13 ∨ (18 : Int) = 16) by omega, show ¬ ((18 : Int) = 17) by omega, show ¬ ((18 : Int) = 19) by omega, show ¬ ((18 : Int) = 23) by omega,
      show ¬ ((18 : Int) = 20) by omega, if_false, if_true, Bool.and_eq_true, decide_eq_true_eq] at h2
    exact h2.2.1
  · exact Or.inl h1
theorem rfmayB_few {f : Fi} (h : rfmayB f = true) : f.few := by
  unfold rfmayB at h
  simp only [Bool.and_eq_true, decide_eq_true_eq] at h
  have hc := mayB_few h.1.1
  have hm := List.all_eq_true.1 h.2
  have hh : ∀ m ∈ f.methods, headB f.classes.length m 2400 = true ∧ ∀ i ∈ m.code, rinB f.classes f.methods m.code.length m.regs m.ret.kind i = true := fun m hx => by
    have := hm m hx
    unfold rmeB at this
    simp only [Bool.and_eq_true] at this
    exact ⟨this.1.1, List.all_eq_true.1 this.2⟩
  refine ⟨hc.1, hc.2, h.1.2.2, fun m hx => ?_, fun m hx i hi => ?_⟩
  · have := headB_few (hh m hx).1
    exact ⟨this.1, by omega, this.2.2⟩
  · have := (hh m hx).2 i hi
    unfold rinB at this
    split at this
    · cases this
    · rw [Bool.and_eq_true] at this
      rcases rrestB_args this.2 with h0 | ⟨a0, a1, a2⟩
      · omega
      · have hk : i.a.toNat < f.methods.length := by omega
        have := (headB_few (hh _ (nth_mem (d := me0) hk)).1).1
        omega

theorem flat_le {α : Type} (e : α → List Int) (n : Nat) : ∀ (l : List α), (∀ x ∈ l, (e x).length ≤ n) → (l.map e).flatten.length ≤ l.length * n
  | [], _ => by simp
  | x :: l, h => by
    have h1 := h x List.mem_cons_self
    have h2 := flat_le e n l fun y hy => h y (List.mem_cons_of_mem _ hy)
    simp only [List.map_cons, List.flatten_cons, List.length_append, List.length_cons, Nat.add_mul]
    omega
theorem encL_le {α : Type} (e : α → List Int) (n k : Nat) (l : List α) (h : ∀ x ∈ l, (e x).length ≤ n) (hk : l.length ≤ k) : (encL e l).length ≤ 8 + k * n := by
  have h1 := flat_le e n l h
  have h2 : l.length * n ≤ k * n := Nat.mul_le_mul_right n hk
  unfold encL
  rw [List.length_append, wide_len]; omega
theorem encFi_le {f : Fi} (h : f.few) : (1 :: encFi f).length ≤ 50000000 := by
  have h1 : ∀ c ∈ f.classes, (encCl c).length ≤ 112 := fun c hc => by
    have := encL_le encTy 16 6 c.fields (fun t _ => by simp [encTy, wide_len]) (h.fs c hc)
    unfold encCl; rw [List.length_append, wide_len]; omega
  have h2 : ∀ m ∈ f.methods, (encMe m).length ≤ 200000 := fun m hm => by
    obtain ⟨p1, p2, p3⟩ := h.ps m hm
    have a := encL_le encTy 16 4 m.params (fun t _ => by simp [encTy, wide_len]) p1
    have b := encL_le encIn 80 2400 m.code (fun i hi => by
      have := encL_le wideL 8 4 i.args (fun t _ => by simp [wide_len]) (h.gs m hm i hi)
      unfold encIn; simp only [List.length_append, wide_len]; omega) p2
    have c := encL_le encHd 32 8 m.hands (fun t _ => by simp [encHd, wide_len]) p3
    unfold encMe; simp only [List.length_append, wide_len, encTy]; omega
  have a := encL_le encCl 112 12 f.classes h1 h.cs
  have b := encL_le encMe 200000 8 f.methods h2 h.ms
  unfold encFi; rw [List.length_cons, List.length_append]; omega

def bdP : Bd := ⟨12, 6, 8, 4, 2400, 8, 4⟩
/-- All numbers of a file are numbers of 64 bits. -/
structure Fi.nums (f : Fi) : Prop where
  cs : ∀ c ∈ f.classes, I64 c.super ∧ ∀ t ∈ c.fields, I64 t.kind ∧ I64 t.cls
  ms : ∀ m ∈ f.methods, m.ok ∧ (∀ t ∈ m.params, I64 t.kind ∧ I64 t.cls) ∧ (∀ i ∈ m.code, i.ok ∧ ∀ t ∈ i.args, I64 t) ∧ ∀ h ∈ m.hands, h.ok
theorem good_of {f : Fi} (h : f.few) (k : f.nums) (d : Bd) (h1 : 12 ≤ d.cs) (h2 : 6 ≤ d.fs) (h3 : 8 ≤ d.ms) (h4 : 4 ≤ d.ps) (h5 : 2400 ≤ d.co) (h6 : 8 ≤ d.hs) (h7 : 4 ≤ d.gs) : f.good d := by
  have hc := h.cs
  have hm := h.ms
  refine ⟨⟨by omega, by unfold Fits; omega, fun c hx => ?_⟩, by omega, by unfold Fits; omega, fun m hx => ?_⟩
  · have := h.fs c hx
    exact ⟨(k.cs c hx).1, by omega, by unfold Fits; omega, (k.cs c hx).2⟩
  · obtain ⟨p1, p2, p3⟩ := h.ps m hx
    obtain ⟨q1, q2, q3, q4⟩ := k.ms m hx
    refine ⟨q1, ⟨by omega, by unfold Fits; omega, q2⟩, ⟨by omega, by unfold Fits; omega, fun i hi => ?_⟩, by omega, by unfold Fits; omega, q4⟩
    have := h.gs m hx i hi
    exact ⟨(q3 i hi).1, by omega, by unfold Fits; omega, (q3 i hi).2⟩
theorem good_P {f : Fi} (h : f.few) (k : f.nums) : f.good bdP := good_of h k bdP (by decide) (by decide) (by decide) (by decide) (by decide) (by decide) (by decide)
theorem TysAt.nums {w : World} {A : Option Addr} {l : List Ty} (h : TysAt w A l) : ∀ t ∈ l, I64 t.kind ∧ I64 t.cls := by
  intro t ht
  obtain ⟨k, hk, rfl⟩ := mem_nth ty0 ht
  rcases h.2 with h0 | ⟨b, off, _, hi⟩
  · omega
  · exact (hi k hk).2.2
theorem IntsAt.nums {w : World} {A : Option Addr} {l : List Int} (h : IntsAt w A l) : ∀ t ∈ l, I64 t := by
  intro t ht
  obtain ⟨k, hk, rfl⟩ := mem_nth (0 : Int) ht
  rcases h.2 with h0 | ⟨b, off, _, hi⟩
  · omega
  · exact (hi k hk).2
theorem nums_of {w : World} {A B : Option Addr} {f : Fi} (hA : ClsAt w A f.classes) (hB : MesAt w B f.methods) : f.nums := by
  refine ⟨fun c hc => ?_, fun m hm => ?_⟩
  · obtain ⟨k, hk, rfl⟩ := mem_nth cl0 hc
    rcases hA.2 with h0 | ⟨b, off, _, hi⟩
    · omega
    · obtain ⟨_, h1, _, _, _, h2⟩ := hi k hk
      exact ⟨h1, h2.nums⟩
  · obtain ⟨k, hk, rfl⟩ := mem_nth me0 hm
    rcases hB.2 with h0 | ⟨b, off, _, hi⟩
    · omega
    · obtain ⟨P, C, K, _, _, _, _, _, _, _, _, _, _, _, h1, h2, h3, h4⟩ := hi k hk
      refine ⟨h4, h1.nums, fun i hx => ?_, fun x hx => ?_⟩
      · obtain ⟨j, hj, rfl⟩ := mem_nth in0 hx
        rcases h2.2 with h0 | ⟨b, off, _, hi⟩
        · omega
        · obtain ⟨_, _, _, _, _, g1, _, _, _, g2⟩ := hi j hj
          exact ⟨g1, g2.nums⟩
      · obtain ⟨j, hj, rfl⟩ := mem_nth hd0 hx
        rcases h3.2 with h0 | ⟨b, off, _, hi⟩
        · omega
        · exact (hi j hj).2.2.2.2

/-- What the bytes of a file are made of. -/
theorem putP_some {f : Fi} {b : List Int} (h : putP f = some b) : f.few ∧ ((smayB f = true ∧ b = 1 :: encFi f) ∨ (smayB f = false ∧ rfmayB f = true ∧ b = 2 :: encFi f)) := by
  unfold putP at h
  split at h
  · rename_i hs
    injection h with h
    exact ⟨smayB_few hs, Or.inl ⟨hs, h.symm⟩⟩
  · rename_i hs
    split at h
    · rename_i hr
      injection h with h
      exact ⟨rfmayB_few hr, Or.inr ⟨by simpa using hs, hr, h.symm⟩⟩
    · cases h
/-- Two files whose bytes begin alike are one. -/
theorem enc_one {f g : Fi} (hf : f.few) (hg : g.few) (nf : f.nums) (ng : g.nums) {r s : List Int} (h : encFi f ++ r = encFi g ++ s) : f = g ∧ r = s := by
  have h1 := pFi_und bdP f (good_P hf nf) r
  have h2 := pFi_und bdP g (good_P hg ng) s
  rw [h, h2] at h1
  simp only [Option.some.injEq, Prod.mk.injEq] at h1
  exact ⟨h1.1.symm, h1.2.symm⟩
theorem putP_one {f g : Fi} {b : List Int} (hf : putP f = some b) (hg : putP g = some b) (nf : f.nums) (ng : g.nums) : f = g := by
  obtain ⟨f1, f2⟩ := putP_some hf
  obtain ⟨g1, g2⟩ := putP_some hg
  have e : encFi f ++ [] = encFi g ++ [] := by
    rcases f2 with ⟨_, e1⟩ | ⟨_, _, e1⟩ <;> rcases g2 with ⟨_, e2⟩ | ⟨_, _, e2⟩ <;> (rw [e1] at e2; injection e2 with _ e3; rw [e3])
  exact (enc_one f1 g1 nf ng e).1
end Go.Proofs.Ytgiiapenmjollac
