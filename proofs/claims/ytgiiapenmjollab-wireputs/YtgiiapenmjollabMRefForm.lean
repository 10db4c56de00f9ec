/-
  Which files on a stack may be, by the document: a contract.
-/
import Derived.Test.YtgiiapenmjollabMRefInsAll
import Derived.Test.YtgiiapenmjollabMWireGood
namespace Go.Proofs.Ytgiiapenmjollab
open Go.RowKit
set_option linter.unusedVariables false
set_option linter.unusedSimpArgs false

theorem sme_head {cs : List Cl} {nm : Nat} {m : Me} (h : headB cs.length m 400 = false) : smeB cs nm m = false := by unfold smeB; rw [h]; rfl
theorem sme_nums {cs : List Cl} {nm : Nat} {m : Me} (h : ¬ (m.regs = 0 ∧ 0 ≤ m.stack ∧ m.stack ≤ 30 ∧ (slotsN m.params : Int) ≤ m.locs ∧ m.locs ≤ 60)) : smeB cs nm m = false := by
  unfold smeB; rw [decide_eq_false h, Bool.and_false]; rfl
theorem sme_ins {cs : List Cl} {nm : Nat} {m : Me} {q : Nat} (hq : q < m.code.length) (h : sinB cs nm m.code.length m.locs (nth in0 m.code q) = false) : smeB cs nm m = false := by
  unfold smeB; rw [all_bad hq h, Bool.and_false]
theorem sme_good {cs : List Cl} {nm : Nat} {m : Me} (h0 : headB cs.length m 400 = true) (h : m.regs = 0 ∧ 0 ≤ m.stack ∧ m.stack ≤ 30 ∧ (slotsN m.params : Int) ≤ m.locs ∧ m.locs ≤ 60)
    (hi : ∀ q, q < m.code.length → sinB cs nm m.code.length m.locs (nth in0 m.code q) = true) : smeB cs nm m = true := by
  unfold smeB; rw [h0, decide_eq_true h, all_good hi]; rfl
theorem smay_cls {f : Fi} (h : mayB f.classes = false) : smayB f = false := by unfold smayB; rw [h]; rfl
theorem smay_many {f : Fi} (h : ¬ (1 ≤ f.methods.length ∧ f.methods.length ≤ 8)) : smayB f = false := by unfold smayB; rw [decide_eq_false h, Bool.and_false]; rfl
theorem smay_me {f : Fi} {q : Nat} (hq : q < f.methods.length) (h : smeB f.classes f.methods.length (nth me0 f.methods q) = false) : smayB f = false := by
  unfold smayB; rw [all_bad hq h, Bool.and_false]
theorem smay_good {f : Fi} (h0 : mayB f.classes = true) (h : 1 ≤ f.methods.length ∧ f.methods.length ≤ 8)
    (hi : ∀ q, q < f.methods.length → smeB f.classes f.methods.length (nth me0 f.methods q) = true) : smayB f = true := by
  unfold smayB; rw [h0, decide_eq_true h, all_good hi]; rfl
theorem head_few4 {nc : Nat} {m : Me} {most : Int} (h : headB nc m most = true) : m.params.length ≤ 4 ∧ m.hands.length ≤ 8 ∧ 1 ≤ m.code.length ∧ (m.code.length : Int) ≤ most :=
  Decidable.byContradiction fun hc => by rw [head_few hc] at h; exact absurd h (by decide)

set_option maxRecDepth 100000 in
set_option maxHeartbeats 16000000 in
theorem rsmay_any (f : Fi) (A B : Option Addr) (a b : Nat) (w : World) (hA : ClsAt w A f.classes) (hB : MesAt w B f.methods) :
    Calls Try.prog 15 #[fiV f.classes.length f.methods.length A B a b] w fun e w' => e = .returned (.bool (smayB f)) ∧ Bl w w' := by
  have HA : Hid (ClsAt w A f.classes) := hA
  have HB : Hid (MesAt w B f.methods) := hB
  have hcm := hA.1
  have hmm := hB.1
  unfold maxLen at hcm hmm
  clear hA hB
  have HF : Hid (FiBox (w.alloc (.cells #[.slice A f.classes.length a, .slice B f.methods.length b] 25)) w.heap.size 0 f.classes.length f.methods.length A B a b) := ⟨cell_of_new rfl, cell_of_new rfl⟩
  have HW : Hid (Bl w (w.alloc (.cells #[.slice A f.classes.length a, .slice B f.methods.length b] 25))) := (Bl.refl w).alloc _
  cases hm : mayB f.classes
  · have hb := smay_cls hm
    rw [hb]
    go_enter Try.func15, Try.ntmps15
    go_wp2_with (go_at_call 40; refine (rmay_any _ _ _ _ (HA.out.bl HW.out)).mono ?_; rintro e w1 ⟨he, g1⟩; rw [hm] at he; subst he)
    go_ret
    exact ⟨rfl, HW.out.trans g1⟩
  by_cases hn : 1 ≤ (f.methods.length : Int) ∧ (f.methods.length : Int) ≤ 8
  · have dn : decide (1 ≤ (f.methods.length : Int) ∧ (f.methods.length : Int) ≤ 8) = true := decide_eq_true hn
    have HG : Hid ((∀ q, q < f.methods.length → smeB f.classes f.methods.length (nth me0 f.methods q) = true) → smayB f = true) := smay_good hm (by omega)
    have hnc := (may_tree hm).2.2
    go_enter Try.func15, Try.ntmps15
    go_wp2_with (first
      | (go_at_call 40; refine (rmay_any _ _ _ _ (HA.out.bl HW.out)).mono ?_; rintro e w1 ⟨he, g1⟩; rw [hm] at he; subst he; have q1 := (HF.out.bl g1).2; simp only [Nat.zero_add] at q1)
      | (go_at_call 41; refine (within_any _ _ _ _).mono ?_; rintro e w2 ⟨he, rfl⟩; rw [dn] at he; subst he))
    go_loopw [3] (fun i wr => ∃ k : Nat, k ≤ f.methods.length ∧ i = .int .i64 k ∧ Hid (∀ j, j < k → smeB f.classes f.methods.length (nth me0 f.methods j) = true) ∧ Hid (Bl w wr) ∧ Hid (FiBox wr w.heap.size 0 f.classes.length f.methods.length A B a b)) (fun i _ => f.methods.length - (intOf i).toNat)
    case atStart => exact ⟨0, Nat.zero_le _, rfl, fun j hj => absurd hj (Nat.not_lt_zero _), HW.out.trans g1, HF.out.bl g1⟩
    case round =>
      clear HF HW q1 g1 hm
      obtain ⟨k, hk, rfl, hgk, hg, HF⟩ := hrel
      rename World => w0
      have hf1 := HF.out.2
      simp only [Nat.zero_add] at hf1
      by_cases hkl : k < f.methods.length
      · have hmes := HB.out.bl hg.out
        rcases hmes.2 with h0 | ⟨b', off', rfl, hcell⟩
        · omega
        obtain ⟨P, C, K, p, c, kk, c0, c1, c2, c3, c4, c5, c6, c7, hme⟩ := hcell k hkl
        have HBAD : Hid (smeB f.classes f.methods.length (nth me0 f.methods k) = false → smayB f = false) := smay_me hkl
        generalize hM : nth me0 f.methods k = m at *
        have HM : Hid (nth me0 f.methods k = m) := hM
        have hcl := hme.2.1.1
        have hpl := hme.1.1
        clear hmes hcell hM
        have bm : MeBox (w0.alloc (.cells #[.slice P m.params.length p, .int .i64 m.ret.kind, .int .i64 m.ret.cls, .int .i64 m.stack, .int .i64 m.locs, .int .i64 m.regs, .slice C m.code.length c, .slice K m.hands.length kk] 50)) w0.heap.size 0 m P C K p c kk := ⟨cell_of_new rfl, cell_of_new rfl, cell_of_new rfl, cell_of_new rfl, cell_of_new rfl, cell_of_new rfl, cell_of_new rfl, cell_of_new rfl⟩
        have hal : Bl w0 (w0.alloc (.cells #[.slice P m.params.length p, .int .i64 m.ret.kind, .int .i64 m.ret.cls, .int .i64 m.stack, .int .i64 m.locs, .int .i64 m.regs, .slice C m.code.length c, .slice K m.hands.length kk] 50)) := (Bl.refl w0).alloc _
        have bf := HF.out.bl hal
        have XP : Hid (∀ x : Fut (w0.alloc (.cells #[.slice P m.params.length p, .int .i64 m.ret.kind, .int .i64 m.ret.cls, .int .i64 m.stack, .int .i64 m.locs, .int .i64 m.regs, .slice C m.code.length c, .slice K m.hands.length kk] 50)), TysAt x.to P m.params) := fun x => hme.1.bl (hal.trans x.is)
        have XK : Hid (∀ x : Fut (w0.alloc (.cells #[.slice P m.params.length p, .int .i64 m.ret.kind, .int .i64 m.ret.cls, .int .i64 m.stack, .int .i64 m.locs, .int .i64 m.regs, .slice C m.code.length c, .slice K m.hands.length kk] 50)), HdsAt x.to K m.hands) := fun x => hme.2.2.1.bl (hal.trans x.is)
        have HC : Hid (InsAt w0 C m.code) := hme.2.1
        have HAL : Hid (Bl w0 (w0.alloc (.cells #[.slice P m.params.length p, .int .i64 m.ret.kind, .int .i64 m.ret.cls, .int .i64 m.stack, .int .i64 m.locs, .int .i64 m.regs, .slice C m.code.length c, .slice K m.hands.length kk] 50))) := hal
        have HBM : Hid (MeBox (w0.alloc (.cells #[.slice P m.params.length p, .int .i64 m.ret.kind, .int .i64 m.ret.cls, .int .i64 m.stack, .int .i64 m.locs, .int .i64 m.regs, .slice C m.code.length c, .slice K m.hands.length kk] 50)) w0.heap.size 0 m P C K p c kk) := bm
        have HBF : Hid (FiBox (w0.alloc (.cells #[.slice P m.params.length p, .int .i64 m.ret.kind, .int .i64 m.ret.cls, .int .i64 m.stack, .int .i64 m.locs, .int .i64 m.regs, .slice C m.code.length c, .slice K m.hands.length kk] 50)) w.heap.size 0 f.classes.length f.methods.length (A) (some ⟨b', off', none⟩) a b) := bf
        have x0 := fut_cell bf.1
        have x1 := fut_cell bf.2
        have y0 := fut_cell bm.1
        have y1 := fut_cell bm.2.1
        have y2 := fut_cell bm.2.2.1
        have y3 := fut_cell bm.2.2.2.1
        have y4 := fut_cell bm.2.2.2.2.1
        have y5 := fut_cell bm.2.2.2.2.2.1
        have y6 := fut_cell bm.2.2.2.2.2.2.1
        have y7 := fut_cell bm.2.2.2.2.2.2.2
        clear bm bf hal hme HF
        cases hh : headB f.classes.length m 400
        · have HN : Hid (smayB f = false) := HBAD.out (sme_head hh)
          have ds := hh
          have dl := hh
          go_wp2
          refine wp_region_fut (by kernel_rfl) (by kernel_rfl) fun hne => ?_
          repeat (go_big_quiet_step (first
            | (go_at_call 42; exact Calls.fut_eq _ (rhead_any _ _ _ _ _ _ m _ _ _ _ _ _ _ _ (XP.out _) (XK.out _) hnc hcl) (congrArg Value.bool hh))
            | (go_at_call 43; exact Calls.fut_same _ (rslots_any _ _ _ _ (XP.out _) (by omega)))
            | (go_at_call 41; exact Calls.fut_same_eq _ (within_any _ _ _ _) (congrArg Value.bool (by first | exact ds | exact dl)))))
          refine wpQuiet_nil ?_
          rintro _ ⟨⟨w2, hw2⟩, rfl⟩
          go_wp2
          go_ret
          exact ⟨ret_bool HN.out.symm, (hg.out.trans HAL.out).trans hw2⟩
        · have hfew := head_few4 hh
          by_cases hr : m.regs = 0
          · have hr' : (m.regs != 0) = false := by simpa using hr
            have HR : Hid (m.regs = 0) := hr
            clear hr
            by_cases hs : 0 ≤ m.stack ∧ m.stack ≤ 30
            · have ds : decide (0 ≤ m.stack ∧ m.stack ≤ 30) = true := decide_eq_true hs
              by_cases hl : (slotsN m.params : Int) ≤ m.locs ∧ m.locs ≤ 60
              · have dl : decide ((slotsN m.params : Int) ≤ m.locs ∧ m.locs ≤ 60) = true := decide_eq_true hl
                have HGM : Hid ((∀ q, q < m.code.length → sinB f.classes f.methods.length m.code.length m.locs (nth in0 m.code q) = true) → smeB f.classes f.methods.length m = true) := sme_good hh ⟨HR.out, by omega⟩
                go_wp2
                refine wp_region_fut (by kernel_rfl) (by kernel_rfl) fun hne => ?_
                repeat (go_big_quiet_step (first
                  | (go_at_call 42; exact Calls.fut_eq _ (rhead_any _ _ _ _ _ _ m _ _ _ _ _ _ _ _ (XP.out _) (XK.out _) hnc hcl) (congrArg Value.bool hh))
                  | (go_at_call 43; exact Calls.fut_same _ (rslots_any _ _ _ _ (XP.out _) (by omega)))
                  | (go_at_call 41; exact Calls.fut_same_eq _ (within_any _ _ _ _) (congrArg Value.bool (by first | exact ds | exact dl)))))
                refine wpQuiet_nil ?_
                rintro _ ⟨⟨w2, hw2⟩, rfl⟩
                go_wp2
                clear x0 x1 y0 y1 y2 y3 y4 y5 y6 y7 hne
                go_loopw [5] (fun i wr2 => ∃ q : Nat, q ≤ m.code.length ∧ i = .int .i64 q ∧ Hid (∀ j, j < q → sinB f.classes f.methods.length m.code.length m.locs (nth in0 m.code j) = true) ∧ Hid (Bl w0 wr2) ∧ Hid (FiBox wr2 w.heap.size 0 f.classes.length f.methods.length A (some ⟨b', off', none⟩) a b) ∧ Hid (MeBox wr2 w0.heap.size 0 m P C K p c kk)) (fun i _ => m.code.length - (intOf i).toNat)
                case atStart => exact ⟨0, Nat.zero_le _, rfl, fun j hj => absurd hj (Nat.not_lt_zero _), HAL.out.trans hw2, HBF.out.bl hw2, HBM.out.bl hw2⟩
                case round =>
                  clear HBF HBM HAL hw2 XP XK
                  obtain ⟨q, hq, rfl, hgq, hg2, HBF, HBM⟩ := hrel
                  have hm6 := HBM.out.2.2.2.2.2.2.1
                  simp only [Nat.zero_add] at hm6
                  by_cases hql : q < m.code.length
                  · have hic := HC.out.bl hg2.out
                    rcases hic.2 with h0 | ⟨b2, off2, rfl, hcell⟩
                    · omega
                    obtain ⟨c0, c1, c2, c3, c4, -, A', ca, c5, -⟩ := hcell q hql
                    have HNI : Hid (sinB f.classes f.methods.length m.code.length m.locs (nth in0 m.code q) = false → smayB f = false) := fun h => HBAD.out (sme_ins hql h)
                    generalize hX : nth in0 m.code q = X at *
                    have HX : Hid (nth in0 m.code q = X) := hX
                    clear hic hcell hX
                    have x0 := fut_cell HBF.out.1
                    have x1 := fut_cell HBF.out.2
                    have y0 := fut_cell HBM.out.1
                    have y1 := fut_cell HBM.out.2.1
                    have y2 := fut_cell HBM.out.2.2.1
                    have y3 := fut_cell HBM.out.2.2.2.1
                    have y4 := fut_cell HBM.out.2.2.2.2.1
                    have y5 := fut_cell HBM.out.2.2.2.2.2.1
                    have y6 := fut_cell HBM.out.2.2.2.2.2.2.1
                    have y7 := fut_cell HBM.out.2.2.2.2.2.2.2
                    have z0 := fut_cell c0
                    have z1 := fut_cell c1
                    have z2 := fut_cell c2
                    have z3 := fut_cell c3
                    have z4 := fut_cell c4
                    have z5 := fut_cell c5
                    clear c0 c1 c2 c3 c4 c5
                    have XA : Hid (∀ x : Fut wr, ClsAt x.to A f.classes) := fun x => HA.out.bl ((hg.out.trans hg2.out).trans x.is)
                    have hlo : 0 ≤ m.locs := by omega
                    cases hi : sinB f.classes f.methods.length m.code.length m.locs X
                    · have HN : Hid (smayB f = false) := HNI.out hi
                      go_wp2
                      refine wp_region_fut (by kernel_rfl) (by kernel_rfl) fun hne => ?_
                      repeat (go_big_quiet_step ((go_at_call 44; exact Calls.fut_eq _ (rins_any X f.classes _ _ _ _ _ m _ _ _ _ _ _ _ _ _ hnc (by omega) hcl hlo hl.2 (XA.out _)) (congrArg Value.bool hi))))
                      refine wpQuiet_nil ?_
                      rintro _ ⟨⟨w3, hw3⟩, rfl⟩
                      go_wp2
                      go_ret
                      exact ⟨ret_bool HN.out.symm, (hg.out.trans hg2.out).trans hw3⟩
                    · have HI : Hid (sinB f.classes f.methods.length m.code.length m.locs X = true) := hi
                      go_wp2
                      refine wp_region_fut (by kernel_rfl) (by kernel_rfl) fun hne => ?_
                      repeat (go_big_quiet_step ((go_at_call 44; exact Calls.fut_eq _ (rins_any X f.classes _ _ _ _ _ m _ _ _ _ _ _ _ _ _ hnc (by omega) hcl hlo hl.2 (XA.out _)) (congrArg Value.bool hi))))
                      refine wpQuiet_nil ?_
                      rintro _ ⟨⟨w3, hw3⟩, rfl⟩
                      go_wp2
                      go_roundw
                      case rel => exact ⟨q + 1, by omega, by go_num, fun j hj => if h : j < q then hgq.out j h else by have : j = q := by omega
                                                                                                                       subst this; rw [HX.out]; exact HI.out, hg2.out.trans hw3, HBF.out.bl hw3, HBM.out.bl hw3⟩
                      case measure => simp [intOf]; omega
                  · obtain rfl : q = m.code.length := by omega
                    have HT : Hid (smeB f.classes f.methods.length m = true) := HGM.out hgq.out
                    go_wp2
                    go_roundw
                    case rel => exact ⟨k + 1, by omega, by go_num, fun j hj => if h : j < k then hgk.out j h else by have : j = k := by omega
                                                                                                                     subst this; rw [HM.out]; exact HT.out, hg.out.trans hg2.out, HBF⟩
                    case measure => simp [intOf]; omega
              · have dl : decide ((slotsN m.params : Int) ≤ m.locs ∧ m.locs ≤ 60) = false := decide_eq_false hl
                have HN : Hid (smayB f = false) := HBAD.out (sme_nums (by omega))
                go_wp2
                refine wp_region_fut (by kernel_rfl) (by kernel_rfl) fun hne => ?_
                repeat (go_big_quiet_step (first
                  | (go_at_call 42; exact Calls.fut_eq _ (rhead_any _ _ _ _ _ _ m _ _ _ _ _ _ _ _ (XP.out _) (XK.out _) hnc hcl) (congrArg Value.bool hh))
                  | (go_at_call 43; exact Calls.fut_same _ (rslots_any _ _ _ _ (XP.out _) (by omega)))
                  | (go_at_call 41; exact Calls.fut_same_eq _ (within_any _ _ _ _) (congrArg Value.bool (by first | exact ds | exact dl)))))
                refine wpQuiet_nil ?_
                rintro _ ⟨⟨w2, hw2⟩, rfl⟩
                go_wp2
                go_ret
                exact ⟨ret_bool HN.out.symm, (hg.out.trans HAL.out).trans hw2⟩
            · have ds : decide (0 ≤ m.stack ∧ m.stack ≤ 30) = false := decide_eq_false hs
              have dl := hh
              have HN : Hid (smayB f = false) := HBAD.out (sme_nums (by omega))
              go_wp2
              refine wp_region_fut (by kernel_rfl) (by kernel_rfl) fun hne => ?_
              repeat (go_big_quiet_step (first
                | (go_at_call 42; exact Calls.fut_eq _ (rhead_any _ _ _ _ _ _ m _ _ _ _ _ _ _ _ (XP.out _) (XK.out _) hnc hcl) (congrArg Value.bool hh))
                | (go_at_call 43; exact Calls.fut_same _ (rslots_any _ _ _ _ (XP.out _) (by omega)))
                | (go_at_call 41; exact Calls.fut_same_eq _ (within_any _ _ _ _) (congrArg Value.bool (by first | exact ds | exact dl)))))
              refine wpQuiet_nil ?_
              rintro _ ⟨⟨w2, hw2⟩, rfl⟩
              go_wp2
              go_ret
              exact ⟨ret_bool HN.out.symm, (hg.out.trans HAL.out).trans hw2⟩
          · have hr' : (m.regs != 0) = true := by simpa using hr
            have ds := hh
            have dl := hh
            have HN : Hid (smayB f = false) := HBAD.out (sme_nums (by omega))
            go_wp2
            refine wp_region_fut (by kernel_rfl) (by kernel_rfl) fun hne => ?_
            repeat (go_big_quiet_step (first
              | (go_at_call 42; exact Calls.fut_eq _ (rhead_any _ _ _ _ _ _ m _ _ _ _ _ _ _ _ (XP.out _) (XK.out _) hnc hcl) (congrArg Value.bool hh))
              | (go_at_call 43; exact Calls.fut_same _ (rslots_any _ _ _ _ (XP.out _) (by omega)))
              | (go_at_call 41; exact Calls.fut_same_eq _ (within_any _ _ _ _) (congrArg Value.bool (by first | exact ds | exact dl)))))
            refine wpQuiet_nil ?_
            rintro _ ⟨⟨w2, hw2⟩, rfl⟩
            go_wp2
            go_ret
            exact ⟨ret_bool HN.out.symm, (hg.out.trans HAL.out).trans hw2⟩
      · obtain rfl : k = f.methods.length := by omega
        have HN : Hid (smayB f = true) := HG.out hgk.out
        go_wp2
        go_ret
        exact ⟨ret_bool HN.out.symm, hg.out⟩
  · have hb := smay_many (f := f) (by omega)
    rw [hb]
    have dn : decide (1 ≤ (f.methods.length : Int) ∧ (f.methods.length : Int) ≤ 8) = false := decide_eq_false hn
    go_enter Try.func15, Try.ntmps15
    go_wp2_with (first
      | (go_at_call 40; refine (rmay_any _ _ _ _ (HA.out.bl HW.out)).mono ?_; rintro e w1 ⟨he, g1⟩; rw [hm] at he; subst he; have q1 := (HF.out.bl g1).2; simp only [Nat.zero_add] at q1)
      | (go_at_call 41; refine (within_any _ _ _ _).mono ?_; rintro e w2 ⟨he, rfl⟩; rw [dn] at he; subst he))
    go_ret
    exact ⟨rfl, HW.out.trans g1⟩

end Go.Proofs.Ytgiiapenmjollab
