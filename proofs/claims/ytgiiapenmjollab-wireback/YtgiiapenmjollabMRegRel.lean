/-
  A region that draws its order, taken apart by hand: an operation that only reads may be taken first.
-/
import Derived.Test.YtgiiapenmjollabChecked
import Derived.Deep.RegionHeld3
import Derived.RowKit3
import Derived.Orders
import Derived.Test.YtgiiapenmjollabMWireGood
namespace Go.Proofs.Ytgiiapenmjollab
open Go.RowKit
set_option linter.unusedVariables false
set_option linter.unusedSimpArgs false

/-- An operation that only reads may be taken first. -/
theorem takeH {P : Program} {md : Region.Mode} {ops : Array Oper} {Q : Exit → Act → World → Prop} {S : World → Prop} {i : Nat} {oi : Oper} {d : Option Tmp} {v : Value} {fuel : Nat} {listed : Array Bool} {a : Act} {w : World} (hi : ops[i]? = some oi) (hd : oi.dst = d)
    (hs : Region.noSelect ops = true) (hf : Region.free md ops listed i = true) (hr : (Region.ready md ops listed).contains i = true)
    (hQ : ∀ c a w, Q (.panic c) (a.put oi.dst v) w → Q (.panic c) a w) (hw : Region.wanted oi (yielded ops a.tmps) = true) (hy : ∀ w, S w → (execOp a.eval oi).run P w = .ok (.value v) w) (hS : S w)
    (h : wpAnyH P md ops Q S fuel (listed.setIfInBounds i true) (a.put d v) w) : wpAnyH P md ops Q S (fuel + 1) listed a w :=
  wpAnyH_take hi hs hf hr hQ (Or.inl ⟨hw, hy⟩) hS (hd ▸ h)

end Go.Proofs.Ytgiiapenmjollab
namespace Go.Proofs.Ytgiiapenmjollab
open Go.RowKit
set_option linter.unusedVariables false

/-- The operations that L names have come up, each with its value. -/
def fillA (vs : Nat → Value) (L : Nat → Bool) : Nat → List Oper → Act → Act
  | _, [], a => a
  | k, o :: os, a => fillA vs L (k + 1) os (if L k = true then a.put o.dst (vs k) else a)
def bindsTo (o : Oper) (j : Nat) : Bool := o.after.any fun e => Region.binds .any e && e.on == j
/-- Which operation has made a slot, when o comes up. -/
def madeBy (ops : List Oper) (o : Oper) (t : Tmp) : Option Nat := (List.range ops.length).find? fun j => ((ops[j]?).bind (·.dst)) == some t && bindsTo o j
def Rd (ops : List Oper) (R : Nat → Value → World → Prop) (a0 : Act) (o : Oper) (t : Tmp) (v : Value) (w : World) : Prop :=
  match madeBy ops o t with
  | some j => R j v w
  | none => v = a0.eval (.tmp t)
def relUpon (P : Program) (r : Value → World → Prop) (w : World) : Result Next → Prop
  | .ok (.value v) w' => Bl w w' ∧ r v w'
  | .ok (.enter f args) w' => Bl w w' ∧ Calls P f args w' fun e w'' => ∃ v, e = .returned v ∧ Bl w' w'' ∧ r v w''
  | _ => False
def tmpsOf (o : Oper) : List Tmp := o.op.operands.toList.filterMap fun | .tmp t => some t | _ => none
def relOk1 (ops : List Oper) (n i : Nat) (o : Oper) : Bool :=
  o.guard.isNone && (match o.op with | .select .. => false | _ => true) && (match o.dst with | some t => decide (t < n) | none => true)
  && (o.after.all fun e => decide (e.on < i))
  && (List.range ops.length).all fun j => match ops[j]? with
    | some x => (i == j || o.dst.isNone || x.dst != o.dst) && (i == j || x.dst.isNone || !(tmpsOf o).any (fun t => x.dst == some t) || bindsTo o j || bindsTo x i)
    | none => true
def relOkAll (ops : List Oper) (n : Nat) : Bool := (List.range ops.length).all fun i => match ops[i]? with | some o => relOk1 ops n i o | none => true

structure RelOk (ops : List Oper) (n i : Nat) (o : Oper) : Prop where
  guard : o.guard = none
  sel : ∀ cs b, o.op ≠ .select cs b
  dst : ∀ t, o.dst = some t → t < n
  after : ∀ e ∈ o.after, e.on < i
  diff : ∀ j x, ops[j]? = some x → i ≠ j → ∀ t, o.dst = some t → x.dst ≠ some t
  made : ∀ j x, ops[j]? = some x → i ≠ j → ∀ t ∈ tmpsOf o, x.dst = some t → bindsTo o j = true ∨ bindsTo x i = true
theorem relOk_of {ops : List Oper} {n : Nat} (h : relOkAll ops n = true) {i : Nat} {o : Oper} (ho : ops[i]? = some o) : RelOk ops n i o := by
  have hi : i < ops.length := (List.getElem?_eq_some_iff.1 ho).1
  have h1 := List.all_eq_true.1 h i (List.mem_range.2 hi)
  simp only [ho] at h1
  unfold relOk1 at h1
  simp only [Bool.and_eq_true] at h1
  obtain ⟨⟨⟨⟨g1, g2⟩, g3⟩, g4⟩, g5⟩ := h1
  have g5' : ∀ j x, ops[j]? = some x → ((i == j || o.dst.isNone || x.dst != o.dst) = true ∧ (i == j || x.dst.isNone || !(tmpsOf o).any (fun t => x.dst == some t) || bindsTo o j || bindsTo x i) = true) := fun j x hx => by
    have := List.all_eq_true.1 g5 j (List.mem_range.2 (List.getElem?_eq_some_iff.1 hx).1)
    simp only [hx, Bool.and_eq_true] at this
    exact this
  refine ⟨by simpa using g1, fun cs b e => (by rw [e] at g2; cases g2), fun t ht => (by rw [ht] at g3; simpa using g3), fun e he => (by simpa using Array.all_eq_true_iff_forall_mem.1 g4 e he), fun j x hx hne t ht hxt => ?_, fun j x hx hne t ht hxt => ?_⟩
  · have := (g5' j x hx).1
    rw [ht, hxt] at this
    simp at this
    exact hne this
  · have := (g5' j x hx).2
    rw [hxt] at this
    have ha : (tmpsOf o).any (fun s => (some t : Option Tmp) == some s) = true := List.any_eq_true.2 ⟨t, ht, by simp⟩
    rw [ha] at this
    simp only [Option.isNone_some, Bool.or_false, Bool.not_true, Bool.or_eq_true, beq_iff_eq] at this
    rcases this with (h' | h') | h'
    · exact absurd h' hne
    · exact Or.inl h'
    · exact Or.inr h'

section fill
theorem fill_put {vs : Nat → Value} {L : Nat → Bool} {d : Option Tmp} {v : Value} : ∀ (os : List Oper) (k : Nat) (a : Act), (∀ x ∈ os, ∀ t, d = some t → x.dst ≠ some t) → (fillA vs L k os a).put d v = fillA vs L k os (a.put d v)
  | [], _, _, _ => rfl
  | o :: os, k, a, h => by
    unfold fillA
    rw [fill_put os (k + 1) _ fun x hx => h x (List.mem_cons_of_mem _ hx)]
    congr 1
    split
    · exact Act.put_comm a _ _ fun t ht e => h o List.mem_cons_self t e ht
    · rfl
theorem fill_congr {vs vs' : Nat → Value} {L L' : Nat → Bool} : ∀ (os : List Oper) (k : Nat) (a : Act), (∀ j, k ≤ j → vs j = vs' j ∧ L j = L' j) → fillA vs L k os a = fillA vs' L' k os a
  | [], _, _, _ => rfl
  | o :: os, k, a, h => by
    unfold fillA
    rw [(h k (Nat.le_refl _)).1, (h k (Nat.le_refl _)).2]
    exact fill_congr os (k + 1) _ fun j hj => h j (by omega)
theorem fill_none {vs : Nat → Value} {L : Nat → Bool} : ∀ (os : List Oper) (k : Nat) (a : Act), (∀ j, L j = false) → fillA vs L k os a = a
  | [], _, _, _ => rfl
  | o :: os, k, a, h => by
    unfold fillA
    rw [h k, if_neg (by decide)]
    exact fill_none os (k + 1) a h
/-- One more comes up. -/
theorem fill_set {vs : Nat → Value} {L : Nat → Bool} {v : Value} {o : Oper} : ∀ (os : List Oper) (k m : Nat) (a : Act), os[m]? = some o → L (k + m) = false → (∀ j x, os[j]? = some x → j ≠ m → ∀ t, o.dst = some t → x.dst ≠ some t) →
    (fillA vs L k os a).put o.dst v = fillA (fun j => if j = k + m then v else vs j) (fun j => if j = k + m then true else L j) k os a
  | [], _, m, _, h, _, _ => by simp at h
  | x :: os, k, 0, a, h, hL, hd => by
    simp only [List.getElem?_cons_zero, Option.some.injEq] at h
    subst h
    unfold fillA
    simp only [Nat.add_zero] at hL ⊢
    rw [hL, if_neg (by decide)]
    rw [fill_put os (k + 1) a fun y hy t ht => by
      obtain ⟨j, hj⟩ := List.mem_iff_getElem?.1 hy
      exact hd (j + 1) y (by simpa using hj) (by omega) t ht]
    simp only [if_true]
    refine fill_congr os (k + 1) _ fun j hj => ⟨by rw [if_neg (by omega)], by rw [if_neg (by omega)]⟩
  | x :: os, k, m + 1, a, h, hL, hd => by
    simp only [List.getElem?_cons_succ] at h
    unfold fillA
    have e : k + (m + 1) = (k + 1) + m := by omega
    rw [e] at hL ⊢
    rw [fill_set os (k + 1) m _ h hL fun j y hy hne => hd (j + 1) y (by simpa using hy) (by omega)]
    rw [if_neg (show ¬ k = k + 1 + m by omega), if_neg (show ¬ k = k + 1 + m by omega)]
theorem put_size (a : Act) (d : Option Tmp) (v : Value) : (a.put d v).tmps.size = a.tmps.size := by
  cases d with
  | none => rfl
  | some t => simp [Act.put]
theorem eval_put_same (a : Act) (t : Tmp) (v : Value) (h : t < a.tmps.size) : (a.put (some t) v).eval (.tmp t) = v := by
  simp [Act.eval, Act.put, h]
theorem fill_eval {vs : Nat → Value} {L : Nat → Bool} {t : Tmp} : ∀ (os : List Oper) (k : Nat) (a : Act), (∀ j x, os[j]? = some x → L (k + j) = true → x.dst ≠ some t) → (fillA vs L k os a).eval (.tmp t) = a.eval (.tmp t)
  | [], _, _, _ => rfl
  | o :: os, k, a, h => by
    unfold fillA
    rw [fill_eval os (k + 1) _ fun j x hx hl => h (j + 1) x (by simpa using hx) (by rw [← hl]; congr 1; omega)]
    split
    · rename_i hk
      exact Act.eval_put fun d hd e => h 0 o rfl (by simpa using hk) (by rw [hd]; injection e with e; rw [e])
    · rfl
theorem fill_at {vs : Nat → Value} {L : Nat → Bool} {t : Tmp} {o : Oper} : ∀ (os : List Oper) (k m : Nat) (a : Act), os[m]? = some o → o.dst = some t → L (k + m) = true → t < a.tmps.size → (∀ j x, os[j]? = some x → j ≠ m → x.dst ≠ some t) → (fillA vs L k os a).eval (.tmp t) = vs (k + m)
  | [], _, m, _, h, _, _, _, _ => by simp at h
  | x :: os, k, 0, a, h, ht, hL, hs, hd => by
    simp only [List.getElem?_cons_zero, Option.some.injEq] at h
    subst h
    unfold fillA
    simp only [Nat.add_zero] at hL ⊢
    rw [hL, if_pos rfl, fill_eval os (k + 1) _ fun j y hy _ => hd (j + 1) y (by simpa using hy) (by omega), ht]
    exact eval_put_same a t _ hs
  | x :: os, k, m + 1, a, h, ht, hL, hs, hd => by
    simp only [List.getElem?_cons_succ] at h
    unfold fillA
    have e : k + (m + 1) = (k + 1) + m := by omega
    rw [e] at hL ⊢
    refine fill_at os (k + 1) m _ h ht hL ?_ fun j y hy hne => hd (j + 1) y (by simpa using hy) (by omega)
    split
    · rw [put_size]; exact hs
    · exact hs
end fill

section law
variable {P : Program} {Q : Exit → Act → World → Prop} {ops : List Oper} {R : Nat → Value → World → Prop} {a0 : Act} {w0 : World} {n : Nat}

/-- How far the region has come. -/
structure RInv (ops : List Oper) (R : Nat → Value → World → Prop) (a0 : Act) (w0 : World) (listed : Array Bool) (a : Act) (w : World) : Prop where
  size : listed.size = ops.length
  bl : Bl w0 w
  dn : ∀ j x, ops[j]? = some x → listed.getD j false = true → ∀ i, bindsTo x i = true → listed.getD i false = true
  ex : ∃ vs, a = fillA vs (fun j => listed.getD j false) 0 ops a0 ∧ ∀ j, listed.getD j false = true → R j (vs j) w
def leftN (listed : Array Bool) : Nat → Nat
  | 0 => 0
  | m + 1 => leftN listed m + (if listed.getD m true = true then 0 else 1)
theorem all_listed {listed : Array Bool} (hok : relOkAll ops n = true) (hsz : listed.size = ops.length) (hr : Region.ready .any ops.toArray listed = []) : ∀ i, i < ops.length → listed.getD i false = true := by
  intro i
  induction i using Nat.strongRecOn with
  | _ i ih =>
    intro hi
    cases hl : listed.getD i false with
    | true => rfl
    | false =>
      exfalso
      have hm : i ∈ Region.ready .any ops.toArray listed := by
        rw [mem_ready]
        refine ⟨?_, ops[i], by simp [hi], fun e he _ => ?_⟩
        · have hs : i < listed.size := by omega
          simp [Array.getD, hs] at hl ⊢
          exact hl
        · have := (relOk_of hok (List.getElem?_eq_getElem hi)).after e he
          exact ih e.on this (by omega)
      rw [hr] at hm
      cases hm
theorem getD_true_false {listed : Array Bool} {i : Nat} (h : listed.getD i true = false) : listed.getD i false = false ∧ i < listed.size := by
  by_cases hs : i < listed.size
  · simp [Array.getD, hs] at h ⊢
    exact h
  · simp [Array.getD, hs] at h
theorem left_less {listed : Array Bool} {i : Nat} (hi : listed.getD i true = false) : ∀ m, i < m → leftN (listed.setIfInBounds i true) m < leftN listed m := by
  intro m
  have key : ∀ m, leftN (listed.setIfInBounds i true) m + (if i < m then 1 else 0) = leftN listed m := by
    intro m
    induction m with
    | zero => simp [leftN]
    | succ m ih =>
      unfold leftN
      by_cases e : i = m
      · subst e
        have hs := (getD_true_false hi).2
        have h1 : (listed.setIfInBounds i true).getD i true = true := by simp [Array.getD, hs]
        rw [h1, hi, if_pos rfl, if_neg (show ¬ false = true by decide), if_pos (show i < i + 1 by omega)]
        rw [if_neg (Nat.lt_irrefl i)] at ih
        omega
      · have h1 : (listed.setIfInBounds i true).getD m true = listed.getD m true := getD_set_ne true e
        rw [h1]
        by_cases h2 : i < m
        · rw [if_pos h2] at ih
          rw [if_pos (show i < m + 1 by omega)]
          omega
        · rw [if_neg h2] at ih
          rw [if_neg (show ¬ i < m + 1 by omega)]
          omega
  intro hm
  have := key m
  rw [if_pos hm] at this
  omega
theorem wpAny_rel (hok : relOkAll ops n = true) (hn : a0.tmps.size = n) (hst : ∀ j v w w', R j v w → Bl w w' → R j v w')
    (hop : ∀ i o, ops[i]? = some o → ∀ (a : Act) (w : World), Bl w0 w → (∀ t ∈ tmpsOf o, Rd ops R a0 o t (a.eval (.tmp t)) w) → relUpon P (R i) w ((execOp a.eval o).run P w))
    (hend : ∀ vs w, Bl w0 w → (∀ i, i < ops.length → R i (vs i) w) → Q .normal (fillA vs (fun _ => true) 0 ops a0) w) :
    ∀ (fuel : Nat) (listed : Array Bool) (a : Act) (w : World), leftN listed ops.length ≤ fuel → RInv ops R a0 w0 listed a w → wpAny P .any ops.toArray Q fuel listed a w := by
  have fin : ∀ (listed : Array Bool) (a : Act) (w : World), RInv ops R a0 w0 listed a w → Region.ready .any ops.toArray listed = [] → Q .normal a w := by
    intro listed a w hI hr
    have hall := all_listed hok hI.size hr
    obtain ⟨vs, rfl, hR⟩ := hI.ex
    have e : fillA vs (fun j => listed.getD j false) 0 ops a0 = fillA vs (fun _ => true) 0 ops a0 := by
      have : ∀ (os : List Oper) (k : Nat) (a : Act), k + os.length ≤ ops.length → fillA vs (fun j => listed.getD j false) k os a = fillA vs (fun _ => true) k os a := by
        intro os
        induction os with
        | nil => intros; rfl
        | cons o os ih =>
          intro k a hk
          simp only [List.length_cons] at hk
          unfold fillA
          rw [hall k (by omega)]
          exact ih (k + 1) _ (by omega)
      exact this ops 0 a0 (by omega)
    rw [e]
    exact hend vs w hI.bl fun i hi => hR i (hall i hi)
  intro fuel
  induction fuel with
  | zero =>
    intro listed a w hf hI
    have hr : Region.ready .any ops.toArray listed = [] := by
      cases h : Region.ready .any ops.toArray listed with
      | nil => rfl
      | cons i l =>
        exfalso
        have hm : i ∈ Region.ready .any ops.toArray listed := by rw [h]; exact List.mem_cons_self
        obtain ⟨h0, o, ho, _⟩ := mem_ready.1 hm
        have hi : i < ops.length := by
          have := (Array.getElem?_eq_some_iff.1 ho).1
          simpa using this
        have := left_less h0 ops.length hi
        omega
    exact ⟨hr, fin listed a w hI hr⟩
  | succ fuel ih =>
    intro listed a w hf hI
    refine ⟨fin listed a w hI, fun i hm => ?_⟩
    obtain ⟨h0, o, ho, hedge⟩ := mem_ready.1 hm
    have ho' : ops[i]? = some o := by simpa using ho
    have hi : i < ops.length := (List.getElem?_eq_some_iff.1 ho').1
    have hr := relOk_of hok ho'
    obtain ⟨hl0, hls⟩ := getD_true_false h0
    obtain ⟨vs, ha, hR⟩ := hI.ex
    have hb : ∀ j, bindsTo o j = true → listed.getD j false = true := fun j hj => by
      unfold bindsTo at hj
      rw [Array.any_eq_true'] at hj
      obtain ⟨e, he, h1⟩ := hj
      rw [Bool.and_eq_true, beq_iff_eq] at h1
      rw [← h1.2]
      exact hedge e he h1.1
    have hread : ∀ t ∈ tmpsOf o, Rd ops R a0 o t (a.eval (.tmp t)) w := by
      intro t ht
      unfold Rd
      cases hmb : madeBy ops o t with
      | some j =>
        have h1 := List.find?_some hmb
        rw [Bool.and_eq_true, beq_iff_eq] at h1
        cases hx : ops[j]? with
        | none => rw [hx] at h1; simp at h1
        | some x =>
          rw [hx] at h1
          have hd : x.dst = some t := by simpa using h1.1
          have hlj := hb j h1.2
          have rj := relOk_of hok hx
          simp only
          rw [ha, fill_at ops 0 j a0 hx hd (by simpa using hlj) (by rw [hn]; exact rj.dst t hd) fun k y hy hne e => rj.diff k y hy (Ne.symm hne) t hd e]
          simpa using hR j hlj
      | none =>
        simp only
        rw [ha]
        refine fill_eval ops 0 a0 fun j x hx hl e => ?_
        simp only [Nat.zero_add] at hl
        have hne : i ≠ j := fun q => by subst q; rw [hl0] at hl; cases hl
        rcases hr.made j x hx hne t ht e with hq | hq
        · have hjr : j ∈ List.range ops.length := List.mem_range.2 (List.getElem?_eq_some_iff.1 hx).1
          have := List.find?_eq_none.1 hmb j hjr
          apply this
          rw [hx, hq]
          simp [e]
        · have := hI.dn j x hx hl i hq
          rw [hl0] at this
          cases this
    have hgo := hop i o ho' a w hI.bl hread
    have next : ∀ v w', Bl w w' → R i v w' → RInv ops R a0 w0 (listed.setIfInBounds i true) (a.put o.dst v) w' := by
      intro v w' hb' hv
      have hset : ∀ j, (listed.setIfInBounds i true).getD j false = if j = i then true else listed.getD j false := fun j => by
        by_cases e : j = i
        · subst e; rw [if_pos rfl]; simp [Array.getD, hls]
        · rw [if_neg e]; exact getD_set_ne false (Ne.symm e)
      refine ⟨by simpa using hI.size, hI.bl.trans hb', fun j x hx hj k hk => ?_, fun j => if j = i then v else vs j, ?_, fun j hj => ?_⟩
      · rw [hset] at hj ⊢
        by_cases e : j = i
        · subst e
          rw [ho'] at hx
          injection hx with hx
          subst hx
          rw [hb k hk]
          split <;> rfl
        · rw [if_neg e] at hj
          rw [hI.dn j x hx hj k hk]
          split <;> rfl
      · rw [ha]
        have := fill_set (vs := vs) (L := fun j => listed.getD j false) (v := v) ops 0 i a0 ho' (by simpa using hl0) fun j x hx hne t ht => hr.diff j x hx (Ne.symm hne) t ht
        simp only [Nat.zero_add] at this
        rw [this]
        exact fill_congr ops 0 a0 fun j _ => ⟨rfl, by rw [hset]⟩
      · rw [hset] at hj
        by_cases e : j = i
        · subst e; simp only [if_true]; exact hv
        · rw [if_neg e] at hj
          simp only [if_neg e]
          exact hst j _ w w' (hR j hj) hb'
    have hfu : leftN (listed.setIfInBounds i true) ops.length ≤ fuel := by
      have := left_less h0 ops.length hi
      omega
    have hstep : ∀ v w', Bl w w' → R i v w' → wpAny P .any ops.toArray Q fuel (listed.setIfInBounds i true) (a.put o.dst v) w' := fun v w' hb' hv => ih _ _ _ hfu (next v w' hb' hv)
    unfold wpOp
    rw [ho]
    have hw : Region.wanted o (yielded ops.toArray a.tmps) = true := by simp [Region.wanted, hr.guard]
    simp only [hw, if_true]
    left
    unfold Oper.wp
    generalize (execOp a.eval o).run P w = r at hgo
    cases r with
    | halt x w' => cases hgo
    | ok nx w' =>
      cases nx with
      | value v => exact hstep v w' hgo.1 hgo.2
      | enter f args =>
        simp only [Oper.upon]
        refine hgo.2.mono fun e w'' h => ?_
        obtain ⟨v, rfl, h1, h2⟩ := h
        exact hstep v w'' (hgo.1.trans h1) h2
      | _ => cases hgo
/-- THE LAW. -/
theorem wp_region_rel (R : Nat → Value → World → Prop) (n : Nat) {id : Nat} (hm : P.follows .mixedOrders = true) (hok : relOkAll ops n = true) (hn : a0.tmps.size = n) (hst : ∀ j v w w', R j v w → Bl w w' → R j v w')
    (hop : ∀ i o, ops[i]? = some o → ∀ (a : Act) (w : World), Bl w0 w → (∀ t ∈ tmpsOf o, Rd ops R a0 o t (a.eval (.tmp t)) w) → relUpon P (R i) w ((execOp a.eval o).run P w))
    (hend : ∀ vs w, Bl w0 w → (∀ i, i < ops.length → R i (vs i) w) → Q .normal (fillA vs (fun _ => true) 0 ops a0) w) : (Code.region id ops.toArray true).wp P Q a0 w0 := by
  refine wp_region_any hm ?_
  have h0 : ∀ (k j : Nat), (Array.replicate k false).getD j false = false := fun k j => by
    by_cases h : j < k <;> simp [Array.getD, h]
  have hl : ∀ (m : Nat) (A : Array Bool), leftN A m ≤ m := fun m A => by
    induction m with
    | zero => exact Nat.le_refl _
    | succ m ih => unfold leftN; split <;> omega
  refine wpAny_rel hok hn hst hop hend _ _ _ _ (by simpa using hl _ _) ⟨by simp, (Bl.refl w0).drew, fun j x _ hj => ?_, fun _ => undef, ?_, fun j hj => ?_⟩
  · rw [h0] at hj; cases hj
  · exact (fill_none ops 0 a0 fun j => h0 _ j).symm
  · rw [h0] at hj; cases hj
theorem Rd.at {o : Oper} {t : Tmp} {v : Value} {w : World} {j : Nat} (h : Rd ops R a0 o t v w) (hm : madeBy ops o t = some j) : R j v w := by
  unfold Rd at h; rw [hm] at h; exact h
theorem Rd.old {o : Oper} {t : Tmp} {v : Value} {w : World} (h : Rd ops R a0 o t v w) (hm : madeBy ops o t = none) : v = a0.eval (.tmp t) := by
  unfold Rd at h; rw [hm] at h; exact h
end law
def allOps (p : Nat → Oper → Prop) : Nat → List Oper → Prop
  | _, [] => True
  | k, o :: os => p k o ∧ allOps p (k + 1) os
theorem allOps_spec {p : Nat → Oper → Prop} : ∀ (os : List Oper) (k : Nat), allOps p k os → ∀ i o, os[i]? = some o → p (k + i) o
  | [], _, _, i, o, h => by simp at h
  | x :: os, k, hp, 0, o, h => by
    simp only [List.getElem?_cons_zero, Option.some.injEq] at h
    subst h; exact hp.1
  | x :: os, k, hp, i + 1, o, h => by
    have := allOps_spec os (k + 1) hp.2 i o (by simpa using h)
    have e : k + 1 + i = k + (i + 1) := by omega
    rw [e] at this; exact this

theorem ev_of {a : Act} {t : Tmp} {v : Value} (h : a.eval (.tmp t) = v) : a.tmps[t]?.getD undef = v := by
  rw [← h]; simp [Act.eval]
/-- What a slot holds: this value; numbers in a row that was laid since; one byte in a row. -/
def Ev (x : Value) : Value → World → Prop := fun v _ => v = x
def Er (r : List Int) : Value → World → Prop := fun v w => ∃ g, v = .slice (some ⟨g, 0, none⟩) r.length r.length ∧ IntsAt w (some ⟨g, 0, none⟩) r
def Eb (x : Int) : Value → World → Prop := fun v w => ∃ g, v = .slice (some ⟨g, 0, none⟩) 1 1 ∧ w.cell? ⟨g, 0, none⟩ = some (.int .u8 x)
def Stab (p : Value → World → Prop) : Prop := ∀ v w w', p v w → Bl w w' → p v w'
theorem Ev.st (x : Value) : Stab (Ev x) := fun _ _ _ h _ => h
theorem Er.st (r : List Int) : Stab (Er r) := fun _ _ _ ⟨g, h, k⟩ hb => ⟨g, h, k.bl hb⟩
theorem Eb.st (x : Int) : Stab (Eb x) := fun _ _ _ ⟨g, h, k⟩ hb => ⟨g, h, hb.cell k⟩
def fact (l : List (Value → World → Prop)) (i : Nat) : Value → World → Prop := l.getD i fun _ _ => True
def Stabs : List (Value → World → Prop) → Prop
  | [] => True
  | p :: l => Stab p ∧ Stabs l
theorem fact_st : ∀ (l : List (Value → World → Prop)), Stabs l → ∀ j v w w', fact l j v w → Bl w w' → fact l j v w'
  | [], _, j, _, _, _, h, _ => by simp [fact] at h ⊢
  | p :: l, hl, 0, v, w, w', h, hb => hl.1 v w w' h hb
  | p :: l, hl, j + 1, v, w, w', h, hb => fact_st l hl.2 j v w w' h hb
/-- THE LAW, by a list of facts, one an operation. -/
theorem wp_region_facts {P : Program} {Q : Exit → Act → World → Prop} {ops : List Oper} {a0 : Act} {w0 : World} (l : List (Value → World → Prop)) (n : Nat) {id : Nat} (hm : P.follows .mixedOrders = true) (hok : relOkAll ops n = true) (hn : a0.tmps.size = n) (hst : Stabs l)
    (hop : allOps (fun i o => ∀ (a : Act) (w : World), Bl w0 w → (∀ t ∈ tmpsOf o, Rd ops (fact l) a0 o t (a.eval (.tmp t)) w) → relUpon P (fact l i) w ((execOp a.eval o).run P w)) 0 ops)
    (hend : ∀ vs w, Bl w0 w → (∀ i, i < ops.length → fact l i (vs i) w) → Q .normal (fillA vs (fun _ => true) 0 ops a0) w) : (Code.region id ops.toArray true).wp P Q a0 w0 :=
  wp_region_rel (fact l) n hm hok hn (fact_st l hst) (fun i o h => by have := allOps_spec _ 0 hop i o h; rw [Nat.zero_add] at this; exact this) hend

end Go.Proofs.Ytgiiapenmjollab
namespace Go.Proofs.Ytgiiapenmjollab
open Go.RowKit
def qOp : Op → Bool
  | .call c => match c.callee with | .builtin .len => true | _ => false
  | .move _ | .assign _ | .fieldAddr .. | .nilCheck _ | .load .. | .binOp .. | .unOp .. | .indexAddr .. | .build .. | .slice .. | .index .. | .extract .. | .convert .. | .field .. | .pick .. | .lookup .. => true
  | _ => false
def nxA (md : Region.Mode) (l : List Bool) : List Edge → Bool
  | [] => true
  | e :: es => (!Region.binds md e || l.getD e.on false) && nxA md l es
def nxL (md : Region.Mode) (l : List Bool) (k : Nat) : List Oper → List Bool → Option (Nat × Oper)
  | o :: os, b :: bs => match !b && (qOp o.op && nxA md l o.after.toList) with
    | true => some (k, o)
    | false => nxL md l (k + 1) os bs
  | _, _ => none
theorem nx_at {md : Region.Mode} {l : List Bool} {i : Nat} {o : Oper} : ∀ (os : List Oper) (bs : List Bool) (k : Nat), nxL md l k os bs = some (i, o) → ∃ q, i = k + q ∧ os[q]? = some o
  | [], bs, k, h => by simp [nxL] at h
  | x :: os, [], k, h => by simp [nxL] at h
  | x :: os, b :: bs, k, h => by
    unfold nxL at h
    split at h
    · have h := Option.some.inj h
      exact ⟨0, by have := congrArg Prod.fst h; simp at this; omega, by have := congrArg Prod.snd h; simp at this; simp [this]⟩
    · obtain ⟨q, h1, h2⟩ := nx_at os bs (k + 1) h
      exact ⟨q + 1, by omega, by simpa using h2⟩
theorem tn {P : Program} {md : Region.Mode} {ops : Array Oper} {Q : Exit → Act → World → Prop} {S : World → Prop} {i : Nat} {oi : Oper} {v : Value} {fuel : Nat} {listed : Array Bool} {a : Act} {w : World} (hn : nxL md listed.toList 0 ops.toList listed.toList = some (i, oi))
    (hr : (Region.noSelect ops && (Region.free md ops listed i && ((Region.ready md ops listed).contains i && Region.wanted oi (yielded ops a.tmps)))) = true)
    (hQ : ∀ c a w, Q (.panic c) (a.put oi.dst v) w → Q (.panic c) a w) (hy : ∀ w, S w → (execOp a.eval oi).run P w = .ok (.value v) w) (hS : S w)
    (h : wpAnyH P md ops Q S fuel (listed.setIfInBounds i true) (a.put oi.dst v) w) : wpAnyH P md ops Q S (fuel + 1) listed a w := by
  rw [Bool.and_eq_true, Bool.and_eq_true, Bool.and_eq_true] at hr
  obtain ⟨q, h1, h2⟩ := nx_at _ _ _ hn
  have hi : ops[i]? = some oi := by rw [h1, Nat.zero_add, ← Array.getElem?_toList]; exact h2
  exact takeH hi rfl hr.1 hr.2.1 hr.2.2.1 hQ hr.2.2.2 hy hS h
theorem tk {P : Program} {md : Region.Mode} {ops : Array Oper} {Q : Exit → Act → World → Prop} {S : World → Prop} {i : Nat} {oi : Oper} {d : Option Tmp} {v : Value} {fuel : Nat} {listed : Array Bool} {a : Act} {w : World} (hi : ops[i]? = some oi) (hd : oi.dst = d)
    (hr : (Region.noSelect ops && (Region.free md ops listed i && (Region.ready md ops listed).contains i)) = true)
    (hQ : ∀ c a w, Q (.panic c) (a.put oi.dst v) w → Q (.panic c) a w) (hw : Region.wanted oi (yielded ops a.tmps) = true) (hy : ∀ w, S w → (execOp a.eval oi).run P w = .ok (.value v) w) (hS : S w)
    (h : wpAnyH P md ops Q S fuel (listed.setIfInBounds i true) (a.put d v) w) : wpAnyH P md ops Q S (fuel + 1) listed a w := by
  rw [Bool.and_eq_true, Bool.and_eq_true] at hr
  exact takeH hi hd hr.1 hr.2.1 hr.2.2 hQ hw hy hS h
theorem rd1 {P : Program} {md : Region.Mode} {ops : Array Oper} {Q : Exit → Act → World → Prop} {S : World → Prop} {fuel : Nat} {listed : Array Bool} {a : Act} {w : World} {i : Nat} {o : Oper} (hr : Region.ready md ops listed = [i]) (ho : ops[i]? = some o)
    (h : ∀ K' : Act → World → Prop, Shut (∀ a w, S w → (S w → wpAnyH P md ops Q S fuel (listed.setIfInBounds i true) a w) → K' a w) → if Region.wanted o (yielded ops a.tmps) = true then Oper.wp P o a w K' Q else K' (a.put o.dst undef) w) : wpAnyH P md ops Q S (fuel + 1) listed a w :=
  wpAnyH_ready hr (by simp) (AllReadyH.cons ho h AllReadyH.nil)
theorem aS (a : Act) (t : Tmp) (v : Value) : a.put (some t) v = { a with tmps := a.tmps.setIfInBounds t v } := rfl
theorem aN (a : Act) (v : Value) : a.put none v = a := rfl
theorem aT {α : Type} (l : List α) (i : Nat) (x : α) : l.toArray.setIfInBounds i x = (l.set i x).toArray := List.setIfInBounds_toArray ..
theorem a0 {α : Type} (x y : α) (l : List α) : (x :: l).set 0 y = y :: l := rfl
theorem a1 {α : Type} (x y : α) (l : List α) (n : Nat) : (x :: l).set (n + 1) y = x :: l.set n y := rfl
theorem aZ : (∀ (a : Act) (t : Tmp) (v : Value), a.put (some t) v = { a with tmps := a.tmps.setIfInBounds t v }) ∧ (∀ (a : Act) (v : Value), a.put none v = a) ∧ (∀ {α : Type} (l : List α) (i : Nat) (x : α), l.toArray.setIfInBounds i x = (l.set i x).toArray) ∧ (∀ {α : Type} (x y : α) (l : List α), (x :: l).set 0 y = y :: l) ∧ (∀ {α : Type} (x y : α) (l : List α) (n : Nat), (x :: l).set (n + 1) y = x :: l.set n y) :=
  ⟨aS, aN, aT, a0, a1⟩

end Go.Proofs.Ytgiiapenmjollab
