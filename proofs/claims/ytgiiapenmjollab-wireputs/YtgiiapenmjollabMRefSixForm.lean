/-
  Which files on registers may be, by the document: a contract.
-/
import Derived.Test.YtgiiapenmjollabMRefSixA
import Derived.Test.YtgiiapenmjollabMRefSixB
import Derived.Test.YtgiiapenmjollabMRefSixC
import Derived.Test.YtgiiapenmjollabMRefSixD
import Derived.Test.YtgiiapenmjollabMRefSixE
import Derived.Test.YtgiiapenmjollabMRefSixF
import Derived.Test.YtgiiapenmjollabMRefForm
namespace Go.Proofs.Ytgiiapenmjollab
open Go.RowKit
set_option linter.unusedVariables false
set_option linter.unusedSimpArgs false

theorem kinds_some {op x y z : Int} (h : kindsOf op = some (x, y, z)) : 1 ≤ op ∧ op ≤ 24 := by
  refine Decidable.byContradiction fun hc => ?_
  have hk : kindsOf op = none := by
    unfold kindsOf
    rw [if_neg (by omega), if_neg (by omega), if_neg (by omega), if_neg (by omega), if_neg (by omega), if_neg (by omega), if_neg (by omega), if_neg (by omega), if_neg (by omega), if_neg (by omega), if_neg (by omega), if_neg (by omega), if_neg (by omega), if_neg (by omega), if_neg (by omega), if_neg (by omega), if_neg (by omega), if_neg (by omega), if_neg (by omega), if_neg (by omega), if_neg (by omega), if_neg (by omega), if_neg (by omega), if_neg (by omega)]
  rw [hk] at h
  cases h

set_option maxRecDepth 100000 in
set_option maxHeartbeats 16000000 in
theorem rrins_any (i : In) (cs : List Cl) (ms : List Me) (A B : Option Addr) (a b : Nat) (m : Me) (P C K : Option Addr) (p c k : Nat) (Q : Option Addr) (q : Nat) (w : World) (hnc : cs.length ≤ 12) (hnm : ms.length ≤ 8) (hcode : m.code.length ≤ maxLen) (hlo : 1 ≤ m.regs) (hhi : m.regs ≤ 90)
    (hA : ClsAt w A cs) (hB : MesAt w B ms) (hQ : IntsAt w Q i.args) :
    Calls Try.prog 45 #[fiV cs.length ms.length A B a b, meV m P C K p c k, inV i Q q] w fun e w' => e = .returned (.bool (rinB cs ms m.code.length m.regs m.ret.kind i)) ∧ Bl w w' := by
  cases hk : kindsOf i.op with
  | none =>
    unfold maxLen at hcode
    have hb : rinB cs ms m.code.length m.regs m.ret.kind i = false := by unfold rinB; rw [hk]
    rw [hb]
    have h24 := kinds_none hk
    clear hb hk hA hB hQ
    go_enter Try.func45, Try.ntmps45
    go_wp2_with (go_at_call 72; refine (rnamed_none _ _ h24).mono ?_; rintro e w' ⟨rfl, rfl⟩)
    go_ret
    exact ⟨rfl, (((Bl.refl _).alloc _).alloc _).alloc _⟩
  | some xyz =>
    obtain ⟨x, y, z⟩ := xyz
    have h24 := kinds_some hk
    by_cases gA : i.op = 1 ∨ i.op = 2 ∨ i.op = 3 ∨ i.op = 5 ∨ i.op = 6 ∨ i.op = 7
    · exact rrins_A x y z i cs ms A B a b m P C K p c k Q q w hnc hnm hcode hlo hhi hA hB hQ hk gA
    by_cases gB : i.op = 8 ∨ i.op = 9 ∨ i.op = 21 ∨ i.op = 22 ∨ i.op = 24 ∨ i.op = 10 ∨ i.op = 12
    · exact rrins_B x y z i cs ms A B a b m P C K p c k Q q w hnc hnm hcode hlo hhi hA hB hQ hk gB
    by_cases gC : i.op = 11 ∨ i.op = 13 ∨ i.op = 16 ∨ i.op = 17 ∨ i.op = 20
    · exact rrins_C x y z i cs ms A B a b m P C K p c k Q q w hnc hnm hcode hlo hhi hA hB hQ hk gC
    by_cases gD : i.op = 4 ∨ i.op = 19 ∨ i.op = 23
    · exact rrins_D x y z i cs ms A B a b m P C K p c k Q q w hnc hnm hcode hlo hhi hA hB hQ hk gD
    by_cases gE : i.op = 14 ∨ i.op = 15
    · exact rrins_E x y z i cs ms A B a b m P C K p c k Q q w hnc hnm hcode hlo hhi hA hB hQ hk gE
    by_cases gF : i.op = 18
    · exact rrins_F x y z i cs ms A B a b m P C K p c k Q q w hnc hnm hcode hlo hhi hA hB hQ hk gF
    omega

theorem rme_head {cs : List Cl} {ms : List Me} {m : Me} (h : headB cs.length m 2400 = false) : rmeB cs ms m = false := by unfold rmeB; rw [h]; rfl
theorem rme_nums {cs : List Cl} {ms : List Me} {m : Me} (h : ¬ (m.stack = 0 ∧ m.locs = 0 ∧ 1 ≤ m.regs ∧ m.regs ≤ 90 ∧ (slotsN m.params : Int) ≤ m.regs)) : rmeB cs ms m = false := by
  unfold rmeB; rw [decide_eq_false h, Bool.and_false]; rfl
theorem rme_ins {cs : List Cl} {ms : List Me} {m : Me} {q : Nat} (hq : q < m.code.length) (h : rinB cs ms m.code.length m.regs m.ret.kind (nth in0 m.code q) = false) : rmeB cs ms m = false := by
  unfold rmeB; rw [all_bad hq h, Bool.and_false]
theorem rme_good {cs : List Cl} {ms : List Me} {m : Me} (h0 : headB cs.length m 2400 = true) (h : m.stack = 0 ∧ m.locs = 0 ∧ 1 ≤ m.regs ∧ m.regs ≤ 90 ∧ (slotsN m.params : Int) ≤ m.regs)
    (hi : ∀ q, q < m.code.length → rinB cs ms m.code.length m.regs m.ret.kind (nth in0 m.code q) = true) : rmeB cs ms m = true := by
  unfold rmeB; rw [h0, decide_eq_true h, all_good hi]; rfl
theorem rfmay_cls {f : Fi} (h : mayB f.classes = false) : rfmayB f = false := by unfold rfmayB; rw [h]; rfl
theorem rfmay_many {f : Fi} (h : ¬ (1 ≤ f.methods.length ∧ f.methods.length ≤ 8)) : rfmayB f = false := by unfold rfmayB; rw [decide_eq_false h, Bool.and_false]; rfl
theorem rfmay_me {f : Fi} {q : Nat} (hq : q < f.methods.length) (h : rmeB f.classes f.methods (nth me0 f.methods q) = false) : rfmayB f = false := by
  unfold rfmayB; rw [all_bad hq h, Bool.and_false]
theorem rfmay_good {f : Fi} (h0 : mayB f.classes = true) (h : 1 ≤ f.methods.length ∧ f.methods.length ≤ 8)
    (hi : ∀ q, q < f.methods.length → rmeB f.classes f.methods (nth me0 f.methods q) = true) : rfmayB f = true := by
  unfold rfmayB; rw [h0, decide_eq_true h, all_good hi]; rfl

set_option maxRecDepth 100000 in
set_option maxHeartbeats 16000000 in
theorem rfmay_any (f : Fi) (A B : Option Addr) (a b : Nat) (w : World) (hA : ClsAt w A f.classes) (hB : MesAt w B f.methods) :
    Calls Try.prog 16 #[fiV f.classes.length f.methods.length A B a b] w fun e w' => e = .returned (.bool (rfmayB f)) ∧ Bl w w' := by
  have HA : Hid (ClsAt w A f.classes) := hA
  have HB : Hid (MesAt w B f.methods) := hB
  have hcm := hA.1
  have hmm := hB.1
  unfold maxLen at hcm hmm
  clear hA hB
  have HF : Hid (FiBox (w.alloc (.cells #[.slice A f.classes.length a, .slice B f.methods.length b] 25)) w.heap.size 0 f.classes.length f.methods.length A B a b) := ⟨cell_of_new rfl, cell_of_new rfl⟩
  have HW : Hid (Bl w (w.alloc (.cells #[.slice A f.classes.length a, .slice B f.methods.length b] 25))) := (Bl.refl w).alloc _
  cases hm : mayB f.classes
  · have hb := rfmay_cls hm
    rw [hb]
    go_enter Try.func16, Try.ntmps16
    go_wp2_with (go_at_call 40; refine (rmay_any _ _ _ _ (HA.out.bl HW.out)).mono ?_; rintro e w1 ⟨he, g1⟩; rw [hm] at he; subst he)
    go_ret
    exact ⟨rfl, HW.out.trans g1⟩
  by_cases hn : 1 ≤ (f.methods.length : Int) ∧ (f.methods.length : Int) ≤ 8
  · have dn : decide (1 ≤ (f.methods.length : Int) ∧ (f.methods.length : Int) ≤ 8) = true := decide_eq_true hn
    have HG : Hid ((∀ q, q < f.methods.length → rmeB f.classes f.methods (nth me0 f.methods q) = true) → rfmayB f = true) := rfmay_good hm (by omega)
    have hnc := (may_tree hm).2.2
    go_enter Try.func16, Try.ntmps16
    go_wp2_with (first
      | (go_at_call 40; refine (rmay_any _ _ _ _ (HA.out.bl HW.out)).mono ?_; rintro e w1 ⟨he, g1⟩; rw [hm] at he; subst he; have q1 := (HF.out.bl g1).2; simp only [Nat.zero_add] at q1)
      | (go_at_call 41; refine (within_any _ _ _ _).mono ?_; rintro e w2 ⟨he, rfl⟩; rw [dn] at he; subst he))
    go_loopw [3] (fun i wr => ∃ k : Nat, k ≤ f.methods.length ∧ i = .int .i64 k ∧ Hid (∀ j, j < k → rmeB f.classes f.methods (nth me0 f.methods j) = true) ∧ Hid (Bl w wr) ∧ Hid (FiBox wr w.heap.size 0 f.classes.length f.methods.length A B a b)) (fun i _ => f.methods.length - (intOf i).toNat)
    case atStart => exact ⟨0, Nat.zero_le _, rfl, fun j hj => absurd hj (Nat.not_lt_zero _), HW.out.trans g1, HF.out.bl g1⟩
    case round =>
      clear HF HW q1 g1 hm
      obtain ⟨k, hk, rfl, hgk, hg, HF⟩ := hrel
      rename World => w0
      have hf1 := HF.out.2
      simp only [Nat.zero_add] at hf1
      by_cases hkl : k < f.methods.length
      · have hmes := HB.out.bl hg.out
        rcases hmes.2 with h0 | ⟨b', off', rfl, hcell⟩
        · omega
        obtain ⟨P, C, K, p, c, kk, c0, c1, c2, c3, c4, c5, c6, c7, hme⟩ := hcell k hkl
        have HBAD : Hid (rmeB f.classes f.methods (nth me0 f.methods k) = false → rfmayB f = false) := rfmay_me hkl
        generalize hM : nth me0 f.methods k = m at *
        have HM : Hid (nth me0 f.methods k = m) := hM
        have hcl := hme.2.1.1
        have hpl := hme.1.1
        clear hmes hcell hM
        have bm : MeBox (w0.alloc (.cells #[.slice P m.params.length p, .int .i64 m.ret.kind, .int .i64 m.ret.cls, .int .i64 m.stack, .int .i64 m.locs, .int .i64 m.regs, .slice C m.code.length c, .slice K m.hands.length kk] 50)) w0.heap.size 0 m P C K p c kk := ⟨cell_of_new rfl, cell_of_new rfl, cell_of_new rfl, cell_of_new rfl, cell_of_new rfl, cell_of_new rfl, cell_of_new rfl, cell_of_new rfl⟩
        have hal : Bl w0 (w0.alloc (.cells #[.slice P m.params.length p, .int .i64 m.ret.kind, .int .i64 m.ret.cls, .int .i64 m.stack, .int .i64 m.locs, .int .i64 m.regs, .slice C m.code.length c, .slice K m.hands.length kk] 50)) := (Bl.refl w0).alloc _
        have bf := HF.out.bl hal
        have XP : Hid (∀ x : Fut (w0.alloc (.cells #[.slice P m.params.length p, .int .i64 m.ret.kind, .int .i64 m.ret.cls, .int .i64 m.stack, .int .i64 m.locs, .int .i64 m.regs, .slice C m.code.length c, .slice K m.hands.length kk] 50)), TysAt x.to P m.params) := fun x => hme.1.bl (hal.trans x.is)
        have XK : Hid (∀ x : Fut (w0.alloc (.cells #[.slice P m.params.length p, .int .i64 m.ret.kind, .int .i64 m.ret.cls, .int .i64 m.stack, .int .i64 m.locs, .int .i64 m.regs, .slice C m.code.length c, .slice K m.hands.length kk] 50)), HdsAt x.to K m.hands) := fun x => hme.2.2.1.bl (hal.trans x.is)
        have HC : Hid (InsAt w0 C m.code) := hme.2.1
        have HAL : Hid (Bl w0 (w0.alloc (.cells #[.slice P m.params.length p, .int .i64 m.ret.kind, .int .i64 m.ret.cls, .int .i64 m.stack, .int .i64 m.locs, .int .i64 m.regs, .slice C m.code.length c, .slice K m.hands.length kk] 50))) := hal
        have HBM : Hid (MeBox (w0.alloc (.cells #[.slice P m.params.length p, .int .i64 m.ret.kind, .int .i64 m.ret.cls, .int .i64 m.stack, .int .i64 m.locs, .int .i64 m.regs, .slice C m.code.length c, .slice K m.hands.length kk] 50)) w0.heap.size 0 m P C K p c kk) := bm
        have HBF : Hid (FiBox (w0.alloc (.cells #[.slice P m.params.length p, .int .i64 m.ret.kind, .int .i64 m.ret.cls, .int .i64 m.stack, .int .i64 m.locs, .int .i64 m.regs, .slice C m.code.length c, .slice K m.hands.length kk] 50)) w.heap.size 0 f.classes.length f.methods.length (A) (some ⟨b', off', none⟩) a b) := bf
        have x0 := fut_cell bf.1
        have x1 := fut_cell bf.2
        have y0 := fut_cell bm.1
        have y1 := fut_cell bm.2.1
        have y2 := fut_cell bm.2.2.1
        have y3 := fut_cell bm.2.2.2.1
        have y4 := fut_cell bm.2.2.2.2.1
        have y5 := fut_cell bm.2.2.2.2.2.1
        have y6 := fut_cell bm.2.2.2.2.2.2.1
        have y7 := fut_cell bm.2.2.2.2.2.2.2
        clear bm bf hal hme HF
        cases hh : headB f.classes.length m 2400
        · have HN : Hid (rfmayB f = false) := HBAD.out (rme_head hh)
          have ds := hh
          go_wp2
          refine wp_region_fut (by kernel_rfl) (by kernel_rfl) fun hne => ?_
          repeat (go_big_quiet_step (first
            | (go_at_call 42; exact Calls.fut_eq _ (rhead_any _ _ _ _ _ _ m _ _ _ _ _ _ _ _ (XP.out _) (XK.out _) hnc hcl) (congrArg Value.bool hh))
            | (go_at_call 43; exact Calls.fut_same _ (rslots_any _ _ _ _ (XP.out _) (by omega)))
            | (go_at_call 41; exact Calls.fut_same_eq _ (within_any _ _ _ _) (congrArg Value.bool ds))))
          refine wpQuiet_nil ?_
          rintro _ ⟨⟨w2, hw2⟩, rfl⟩
          go_wp2
          go_ret
          exact ⟨ret_bool HN.out.symm, (hg.out.trans HAL.out).trans hw2⟩
        · have hfew := head_few4 hh
          by_cases hr : m.stack = 0
          · have hr' : (m.stack != 0) = false := by simpa using hr
            have HR : Hid (m.stack = 0) := hr
            clear hr
            by_cases hr2 : m.locs = 0
            · have hr2' : (m.locs != 0) = false := by simpa using hr2
              have HR2 : Hid (m.locs = 0) := hr2
              clear hr2
              by_cases hs : 1 ≤ m.regs ∧ m.regs ≤ 90
              · have ds : decide (1 ≤ m.regs ∧ m.regs ≤ 90) = true := decide_eq_true hs
                by_cases hl : m.regs < (slotsN m.params : Int)
                · have dl : decide (m.regs < (slotsN m.params : Int)) = true := decide_eq_true hl
                  have HN : Hid (rfmayB f = false) := HBAD.out (rme_nums (by omega))
                  go_wp2
                  refine wp_region_fut (by kernel_rfl) (by kernel_rfl) fun hne => ?_
                  repeat (go_big_quiet_step (first
                    | (go_at_call 42; exact Calls.fut_eq _ (rhead_any _ _ _ _ _ _ m _ _ _ _ _ _ _ _ (XP.out _) (XK.out _) hnc hcl) (congrArg Value.bool hh))
                    | (go_at_call 43; exact Calls.fut_same _ (rslots_any _ _ _ _ (XP.out _) (by omega)))
                    | (go_at_call 41; exact Calls.fut_same_eq _ (within_any _ _ _ _) (congrArg Value.bool ds))))
                  refine wpQuiet_nil ?_
                  rintro _ ⟨⟨w2, hw2⟩, rfl⟩
                  go_wp2
                  go_ret
                  exact ⟨ret_bool HN.out.symm, (hg.out.trans HAL.out).trans hw2⟩
                · have dl : decide (m.regs < (slotsN m.params : Int)) = false := decide_eq_false hl
                  have HGM : Hid ((∀ q, q < m.code.length → rinB f.classes f.methods m.code.length m.regs m.ret.kind (nth in0 m.code q) = true) → rmeB f.classes f.methods m = true) := rme_good hh ⟨HR.out, HR2.out, by omega⟩
                  go_wp2
                  refine wp_region_fut (by kernel_rfl) (by kernel_rfl) fun hne => ?_
                  repeat (go_big_quiet_step (first
                    | (go_at_call 42; exact Calls.fut_eq _ (rhead_any _ _ _ _ _ _ m _ _ _ _ _ _ _ _ (XP.out _) (XK.out _) hnc hcl) (congrArg Value.bool hh))
                    | (go_at_call 43; exact Calls.fut_same _ (rslots_any _ _ _ _ (XP.out _) (by omega)))
                    | (go_at_call 41; exact Calls.fut_same_eq _ (within_any _ _ _ _) (congrArg Value.bool ds))))
                  refine wpQuiet_nil ?_
                  rintro _ ⟨⟨w2, hw2⟩, rfl⟩
                  go_wp2
                  clear x0 x1 y0 y1 y2 y3 y4 y5 y6 y7 hne
                  go_loopw [5] (fun i wr2 => ∃ q : Nat, q ≤ m.code.length ∧ i = .int .i64 q ∧ Hid (∀ j, j < q → rinB f.classes f.methods m.code.length m.regs m.ret.kind (nth in0 m.code j) = true) ∧ Hid (Bl w0 wr2) ∧ Hid (FiBox wr2 w.heap.size 0 f.classes.length f.methods.length A (some ⟨b', off', none⟩) a b) ∧ Hid (MeBox wr2 w0.heap.size 0 m P C K p c kk)) (fun i _ => m.code.length - (intOf i).toNat)
                  case atStart => exact ⟨0, Nat.zero_le _, rfl, fun j hj => absurd hj (Nat.not_lt_zero _), HAL.out.trans hw2, HBF.out.bl hw2, HBM.out.bl hw2⟩
                  case round =>
                    clear HBF HBM HAL hw2 XP XK
                    obtain ⟨q, hq, rfl, hgq, hg2, HBF, HBM⟩ := hrel
                    have hm6 := HBM.out.2.2.2.2.2.2.1
                    simp only [Nat.zero_add] at hm6
                    by_cases hql : q < m.code.length
                    · have hic := HC.out.bl hg2.out
                      rcases hic.2 with h0 | ⟨b2, off2, rfl, hcell⟩
                      · omega
                      obtain ⟨c0, c1, c2, c3, c4, -, A', ca, c5, hia⟩ := hcell q hql
                      have HNI : Hid (rinB f.classes f.methods m.code.length m.regs m.ret.kind (nth in0 m.code q) = false → rfmayB f = false) := fun h => HBAD.out (rme_ins hql h)
                      generalize hX : nth in0 m.code q = X at *
                      have HX : Hid (nth in0 m.code q = X) := hX
                      clear hic hcell hX
                      have x0 := fut_cell HBF.out.1
                      have x1 := fut_cell HBF.out.2
                      have y0 := fut_cell HBM.out.1
                      have y1 := fut_cell HBM.out.2.1
                      have y2 := fut_cell HBM.out.2.2.1
                      have y3 := fut_cell HBM.out.2.2.2.1
                      have y4 := fut_cell HBM.out.2.2.2.2.1
                      have y5 := fut_cell HBM.out.2.2.2.2.2.1
                      have y6 := fut_cell HBM.out.2.2.2.2.2.2.1
                      have y7 := fut_cell HBM.out.2.2.2.2.2.2.2
                      have z0 := fut_cell c0
                      have z1 := fut_cell c1
                      have z2 := fut_cell c2
                      have z3 := fut_cell c3
                      have z4 := fut_cell c4
                      have z5 := fut_cell c5
                      clear c0 c1 c2 c3 c4 c5
                      have XA : Hid (∀ x : Fut wr, ClsAt x.to A f.classes) := fun x => HA.out.bl ((hg.out.trans hg2.out).trans x.is)
                      have XB : Hid (∀ x : Fut wr, MesAt x.to (some ⟨b', off', none⟩) f.methods) := fun x => HB.out.bl ((hg.out.trans hg2.out).trans x.is)
                      have XQ : Hid (∀ x : Fut wr, IntsAt x.to A' X.args) := fun x => hia.bl x.is
                      clear hia
                      cases hi : rinB f.classes f.methods m.code.length m.regs m.ret.kind X
                      · have HN : Hid (rfmayB f = false) := HNI.out hi
                        go_wp2
                        refine wp_region_fut (by kernel_rfl) (by kernel_rfl) fun hne => ?_
                        repeat (go_big_quiet_step ((go_at_call 45; exact Calls.fut_eq _ (rrins_any X f.classes f.methods _ _ _ _ m _ _ _ _ _ _ _ _ _ hnc (by omega) hcl hs.1 hs.2 (XA.out _) (XB.out _) (XQ.out _)) (congrArg Value.bool hi))))
                        refine wpQuiet_nil ?_
                        rintro _ ⟨⟨w3, hw3⟩, rfl⟩
                        go_wp2
                        go_ret
                        exact ⟨ret_bool HN.out.symm, (hg.out.trans hg2.out).trans hw3⟩
                      · have HI : Hid (rinB f.classes f.methods m.code.length m.regs m.ret.kind X = true) := hi
                        go_wp2
                        refine wp_region_fut (by kernel_rfl) (by kernel_rfl) fun hne => ?_
                        repeat (go_big_quiet_step ((go_at_call 45; exact Calls.fut_eq _ (rrins_any X f.classes f.methods _ _ _ _ m _ _ _ _ _ _ _ _ _ hnc (by omega) hcl hs.1 hs.2 (XA.out _) (XB.out _) (XQ.out _)) (congrArg Value.bool hi))))
                        refine wpQuiet_nil ?_
                        rintro _ ⟨⟨w3, hw3⟩, rfl⟩
                        go_wp2
                        go_roundw
                        case rel => exact ⟨q + 1, by omega, by go_num, fun j hj => if h : j < q then hgq.out j h else by have : j = q := by omega
                                                                                                                         subst this; rw [HX.out]; exact HI.out, hg2.out.trans hw3, HBF.out.bl hw3, HBM.out.bl hw3⟩
                        case measure => simp [intOf]; omega
                    · obtain rfl : q = m.code.length := by omega
                      have HT : Hid (rmeB f.classes f.methods m = true) := HGM.out hgq.out
                      go_wp2
                      go_roundw
                      case rel => exact ⟨k + 1, by omega, by go_num, fun j hj => if h : j < k then hgk.out j h else by have : j = k := by omega
                                                                                                                       subst this; rw [HM.out]; exact HT.out, hg.out.trans hg2.out, HBF⟩
                      case measure => simp [intOf]; omega
              · have ds : decide (1 ≤ m.regs ∧ m.regs ≤ 90) = false := decide_eq_false hs
                have HN : Hid (rfmayB f = false) := HBAD.out (rme_nums (by omega))
                go_wp2
                refine wp_region_fut (by kernel_rfl) (by kernel_rfl) fun hne => ?_
                repeat (go_big_quiet_step (first
                  | (go_at_call 42; exact Calls.fut_eq _ (rhead_any _ _ _ _ _ _ m _ _ _ _ _ _ _ _ (XP.out _) (XK.out _) hnc hcl) (congrArg Value.bool hh))
                  | (go_at_call 43; exact Calls.fut_same _ (rslots_any _ _ _ _ (XP.out _) (by omega)))
                  | (go_at_call 41; exact Calls.fut_same_eq _ (within_any _ _ _ _) (congrArg Value.bool ds))))
                refine wpQuiet_nil ?_
                rintro _ ⟨⟨w2, hw2⟩, rfl⟩
                go_wp2
                go_ret
                exact ⟨ret_bool HN.out.symm, (hg.out.trans HAL.out).trans hw2⟩
            · have hr2' : (m.locs != 0) = true := by simpa using hr2
              have ds := hh
              have HN : Hid (rfmayB f = false) := HBAD.out (rme_nums (by omega))
              go_wp2
              refine wp_region_fut (by kernel_rfl) (by kernel_rfl) fun hne => ?_
              repeat (go_big_quiet_step (first
                | (go_at_call 42; exact Calls.fut_eq _ (rhead_any _ _ _ _ _ _ m _ _ _ _ _ _ _ _ (XP.out _) (XK.out _) hnc hcl) (congrArg Value.bool hh))
                | (go_at_call 43; exact Calls.fut_same _ (rslots_any _ _ _ _ (XP.out _) (by omega)))
                | (go_at_call 41; exact Calls.fut_same_eq _ (within_any _ _ _ _) (congrArg Value.bool ds))))
              refine wpQuiet_nil ?_
              rintro _ ⟨⟨w2, hw2⟩, rfl⟩
              go_wp2
              go_ret
              exact ⟨ret_bool HN.out.symm, (hg.out.trans HAL.out).trans hw2⟩
          · have hr' : (m.stack != 0) = true := by simpa using hr
            have ds := hh
            have HN : Hid (rfmayB f = false) := HBAD.out (rme_nums (by omega))
            go_wp2
            refine wp_region_fut (by kernel_rfl) (by kernel_rfl) fun hne => ?_
            repeat (go_big_quiet_step (first
              | (go_at_call 42; exact Calls.fut_eq _ (rhead_any _ _ _ _ _ _ m _ _ _ _ _ _ _ _ (XP.out _) (XK.out _) hnc hcl) (congrArg Value.bool hh))
              | (go_at_call 43; exact Calls.fut_same _ (rslots_any _ _ _ _ (XP.out _) (by omega)))
              | (go_at_call 41; exact Calls.fut_same_eq _ (within_any _ _ _ _) (congrArg Value.bool ds))))
            refine wpQuiet_nil ?_
            rintro _ ⟨⟨w2, hw2⟩, rfl⟩
            go_wp2
            go_ret
            exact ⟨ret_bool HN.out.symm, (hg.out.trans HAL.out).trans hw2⟩
      · obtain rfl : k = f.methods.length := by omega
        have HN : Hid (rfmayB f = true) := HG.out hgk.out
        go_wp2
        go_ret
        exact ⟨ret_bool HN.out.symm, hg.out⟩
  · have hb := rfmay_many (f := f) (by omega)
    rw [hb]
    have dn : decide (1 ≤ (f.methods.length : Int) ∧ (f.methods.length : Int) ≤ 8) = false := decide_eq_false hn
    go_enter Try.func16, Try.ntmps16
    go_wp2_with (first
      | (go_at_call 40; refine (rmay_any _ _ _ _ (HA.out.bl HW.out)).mono ?_; rintro e w1 ⟨he, g1⟩; rw [hm] at he; subst he; have q1 := (HF.out.bl g1).2; simp only [Nat.zero_add] at q1)
      | (go_at_call 41; refine (within_any _ _ _ _).mono ?_; rintro e w2 ⟨he, rfl⟩; rw [dn] at he; subst he))
    go_ret
    exact ⟨rfl, HW.out.trans g1⟩

end Go.Proofs.Ytgiiapenmjollab
