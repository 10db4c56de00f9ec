/-
  The document's bytes of a whole file.
-/
import Derived.Test.YtgiiapenmjollabMWireDocB
import Derived.Test.YtgiiapenmjollabMRegRel
import Derived.Deep.DeepCutAuto
namespace Go.Proofs.Ytgiiapenmjollab
open Go.RowKit
set_option maxRecDepth 100000
set_option linter.unusedVariables false
set_option linter.unusedSimpArgs false

theorem byte_conv (g : Nat) (N : Int) (w : World) (h : w.cell? ⟨g, 0, none⟩ = some (.int .u8 N)) : (convert 26 9 (.slice (some ⟨g, 0, none⟩) 1 1)).run Try.prog w = .ok (.string (bS [N])) w :=
  run_convert_bytes_arg (P := Try.prog) w 26 5 Try.underlying26 Try.underlying5 g 0 1 1 [N] rfl (fun i hi => by
    obtain rfl : i = 0 := by omega
    exact h) 9 Try.underlying9
/-- One list behind another. -/
def ca (a b : List Int) : List Int := a ++ b
/-- The bytes of numbers. -/
def fw (r : List Int) : List Int := (r.map wideL).flatten
theorem bS_ca (a b : List Int) : bS a ++ bS b = bS (ca a b) := bS_app a b

set_option maxHeartbeats 40000000 in
theorem rbytes_any (f : Fi) (A B : Option Addr) (a b : Nat) (w : World) (hA : ClsAt w A f.classes) (hB : MesAt w B f.methods) (N : Int) (hN : formN f = N) (hN2 : N = 1 ∨ N = 2) (hF : f.few) :
    Calls Try.prog 8 #[fiV f.classes.length f.methods.length A B a b] w fun e w' => e = .returned (.string (bS (N :: encFi f))) ∧ Bl w w' := by
  have HF : Hid (FiBox (w.alloc (fiO f.classes.length f.methods.length A B a b)) w.heap.size 0 f.classes.length f.methods.length A B a b) := FiBox.new ..
  have HW : Hid (Bl w (w.alloc (fiO f.classes.length f.methods.length A B a b))) := (Bl.refl w).alloc _
  have HA := hidW (hA.bl HW.out)
  have HB := hidW (hB.bl HW.out)
  have HN := hidW hN
  have hcm := hF.cs
  have hmm := hF.ms
  have HT := hidW (show ((([N] ++ encL encCl f.classes) ++ encL encMe f.methods).length ≤ 50000000) by have := encFi_le hF; unfold encFi at this; simpa using this)
  have hn0 : 0 ≤ N := by omega
  have hn1 : N < 256 := by omega
  clear hA hB hN hF hN2
  go_enter Try.func8, Try.ntmps8
  go_wp2_with (go_at_call 7; refine (rform_any f _ _ _ _ _ HA.out HB.out).mono ?_; rintro e w1 ⟨he, g1⟩; rw [HN.out] at he; subst he; obtain ⟨v0, v1⟩ := HF.out.bl g1; simp only [Nat.zero_add] at v1; have G1 := hidW g1; clear g1)
  refine wp_region_facts [Ev (.int .i64 N), Ev (.int .u8 N), Eb N, Ev (.string (bS [N])), Ev (.pointer (some ⟨w.heap.size, 0, none⟩)), Ev (.slice A f.classes.length a), Ev (.int .i64 (f.classes.length : Int)), Er [(f.classes.length : Int)], Ev (.string (bS (wideL f.classes.length))), Ev (.string (bS (ca ([N]) (wideL f.classes.length)))), Ev (.string (bS (ca ([N]) (wideL f.classes.length))))] 161 (by kernel_rfl) (by kernel_rfl) rfl ⟨Ev.st _, Ev.st _, Eb.st _, Ev.st _, Ev.st _, Ev.st _, Ev.st _, Er.st _, Ev.st _, Ev.st _, Ev.st _, trivial⟩ ⟨?r2h0, ?r2h1, ?r2h2, ?r2h3, ?r2h4, ?r2h5, ?r2h6, ?r2h7, ?r2h8, ?r2h9, ?r2h10, trivial⟩ ?r2end
  case r2h0 =>
    intro aa ww hb hh
    have x0 : aa.tmps[3]?.getD undef = .int .i64 N := ev_of ((hh 3 (by decide)).old (by kernel_rfl))
    clear hh
    go_simp
    exact ⟨Bl.refl _, rfl⟩
  case r2h1 =>
    intro aa ww hb hh
    have x0 : aa.tmps[14]?.getD undef = .int .i64 N := ev_of ((hh 14 (by decide)).at (j := 0) (by kernel_rfl))
    clear hh
    go_simp
    exact ⟨Bl.refl _, by show Value.int .u8 (N % 256) = _; rw [Int.emod_eq_of_lt hn0 hn1]⟩
  case r2h2 =>
    intro aa ww hb hh
    have x0 : aa.tmps[15]?.getD undef = .int .u8 N := ev_of ((hh 15 (by decide)).at (j := 1) (by kernel_rfl))
    clear hh
    go_simp
    exact ⟨(Bl.refl _).alloc _, _, rfl, cell_of_new rfl⟩
  case r2h3 =>
    intro aa ww hb hh
    obtain ⟨g, x0, x1⟩ : Eb N (aa.eval (.tmp 16)) ww := (hh 16 (by decide)).at (j := 2) (by kernel_rfl)
    have x0 := ev_of x0
    have hcv := byte_conv g N ww x1
    clear hh
    go_simp
    exact ⟨Bl.refl _, rfl⟩
  case r2h4 =>
    intro aa ww hb hh
    have x0 : aa.tmps[1]?.getD undef = .pointer (some ⟨w.heap.size, 0, none⟩) := ev_of ((hh 1 (by decide)).old (by kernel_rfl))
    clear hh
    go_simp
    exact ⟨Bl.refl _, rfl⟩
  case r2h5 =>
    intro aa ww hb hh
    have x0 : aa.tmps[18]?.getD undef = .pointer (some ⟨w.heap.size, 0, none⟩) := ev_of ((hh 18 (by decide)).at (j := 4) (by kernel_rfl))
    have y0 := hb.cell v0
    clear hh
    go_simp
    exact ⟨Bl.refl _, rfl⟩
  case r2h6 =>
    intro aa ww hb hh
    have x0 : aa.tmps[19]?.getD undef = .slice A f.classes.length a := ev_of ((hh 19 (by decide)).at (j := 5) (by kernel_rfl))
    clear hh
    go_simp
    exact ⟨Bl.refl _, rfl⟩
  case r2h7 =>
    intro aa ww hb hh
    have x0 : aa.tmps[20]?.getD undef = .int .i64 (f.classes.length : Int) := ev_of ((hh 20 (by decide)).at (j := 6) (by kernel_rfl))
    clear hh
    go_simp
    exact ⟨(Bl.refl _).alloc _, _, rfl, ints_new ww [(f.classes.length : Int)] _ rfl (by simp) (by simp; unfold I64; omega)⟩
  case r2h8 =>
    intro aa ww hb hh
    obtain ⟨g, x0, x1⟩ : Er [(f.classes.length : Int)] (aa.eval (.tmp 21)) ww := (hh 21 (by decide)).at (j := 7) (by kernel_rfl)
    have x0 := ev_of x0
    clear hh
    go_simp
    exact ⟨Bl.refl _, (rnumbers_any [(f.classes.length : Int)] _ _ _ x1 (enc_le_row _ (by simp))).mono fun e w2 ⟨he, g2⟩ => ⟨_, he, g2, by show _ = _; simp [encTy]⟩⟩
  case r2h9 =>
    intro aa ww hb hh
    have x0 : aa.tmps[17]?.getD undef = .string (bS [N]) := ev_of ((hh 17 (by decide)).at (j := 3) (by kernel_rfl))
    have x1 : aa.tmps[22]?.getD undef = .string (bS (wideL f.classes.length)) := ev_of ((hh 22 (by decide)).at (j := 8) (by kernel_rfl))
    have hno := add_no ([N]) (wideL f.classes.length) (by simp [wide_len])
    have hadd := bS_ca ([N]) (wideL f.classes.length)
    clear hh
    go_simp
    exact ⟨Bl.refl _, rfl⟩
  case r2h10 =>
    intro aa ww hb hh
    have x0 : aa.tmps[23]?.getD undef = .string (bS (ca ([N]) (wideL f.classes.length))) := ev_of ((hh 23 (by decide)).at (j := 9) (by kernel_rfl))
    clear hh
    go_simp
    exact ⟨Bl.refl _, rfl⟩
  intro vs ww hb hh
  have y : vs 10 = .string (bS (ca ([N]) (wideL f.classes.length))) := hh 10 (by decide)
  clear hh
  simp only [fillA, if_true, aZ]
  rw [y]
  have HB_ := hidW hb
  clear y hb
  have V0 := hidW v0
  have V1 := hidW v1
  clear v0 v1
  obtain ⟨w2, hw2⟩ : ∃ w2, w2 = ww := ⟨ww, rfl⟩
  subst hw2
  have HW2 := HB_
  clear HB_
  go_wp2
  go_loopw [4, 5] (fun s i wr => ∃ k : Nat, k ≤ f.classes.length ∧ i = .int .i64 (k : Int) ∧ s = .string (bS (ca [N] (fh encCl f.classes k))) ∧ Bl w1 wr) (fun _ i _ => f.classes.length - (intOf i).toNat)
  case atStart => exact ⟨0, by omega, rfl, by rw [fh_0], HW2.out⟩
  case round =>
    obtain ⟨k, hk, rfl, rfl, h1⟩ := hrel
    have H1 := hidW h1
    clear h1
    have x0v := H1.out.cell V0.out
    by_cases hlt : k < f.classes.length
    · rcases HA.out.2 with h0 | ⟨p, q, rfl, hi⟩
      · omega
      obtain ⟨i0, ix, A2, a2, i1, i2⟩ := hi k hlt
      have c0 := H1.out.cell (G1.out.cell i0)
      have c1 := H1.out.cell (G1.out.cell i1)
      have X := hidW (And.intro ix ((i2.bl G1.out).bl H1.out))
      clear hi i0 ix i1 i2
      have hk0 : (0 : Int) ≤ (k : Int) := by omega
      have hk1 : (k : Int) < (f.classes.length : Int) := by omega
      have HE := hidW (show ca (ca (ca [N] (fh encCl f.classes k)) (wideL (nth cl0 f.classes k).super)) (encL encTy (nth cl0 f.classes k).fields) = ca [N] (fh encCl f.classes (k + 1)) by
        rw [← fh_succ cl0 encCl f.classes k hlt]; simp only [ca, encCl, List.append_assoc])
      have HL := hidW (show (ca (ca (ca [N] (fh encCl f.classes k)) (wideL (nth cl0 f.classes k).super)) (encL encTy (nth cl0 f.classes k).fields)).length ≤ 50000000 by
        have t1 := fh_item cl0 encCl f.classes k hlt
        have t2 := HT.out
        simp only [ca, encCl, List.length_append, List.length_cons, List.length_nil] at t1 t2 ⊢
        omega)
      go_wp2
      refine wp_region_facts [Ev (.string (bS (ca [N] (fh encCl f.classes k)))), Ev (.pointer (some ⟨w.heap.size, 0, none⟩)), Ev (.slice (some ⟨p, q, none⟩) f.classes.length a), Ev (.int .i64 (k : Int)), Ev (.pointer (some ⟨p, q + k * 2, none⟩)), Ev (.pointer (some ⟨p, q + k * 2, none⟩)), Ev (.int .i64 (nth cl0 f.classes k).super), Er [(nth cl0 f.classes k).super], Ev (.string (bS (wideL (nth cl0 f.classes k).super))), Ev (.string (bS (ca (ca [N] (fh encCl f.classes k)) (wideL (nth cl0 f.classes k).super)))), Ev (.pointer (some ⟨w.heap.size, 0, none⟩)), Ev (.slice (some ⟨p, q, none⟩) f.classes.length a), Ev (.int .i64 (k : Int)), Ev (.pointer (some ⟨p, q + k * 2, none⟩)), Ev (.pointer (some ⟨p, q + k * 2 + 1, none⟩)), Ev (.slice A2 (nth cl0 f.classes k).fields.length a2), Ev (.string (bS (encL encTy (nth cl0 f.classes k).fields))), Ev (.string (bS (ca (ca (ca [N] (fh encCl f.classes k)) (wideL (nth cl0 f.classes k).super)) (encL encTy (nth cl0 f.classes k).fields)))), Ev (.string (bS (ca (ca (ca [N] (fh encCl f.classes k)) (wideL (nth cl0 f.classes k).super)) (encL encTy (nth cl0 f.classes k).fields))))] 161 (by kernel_rfl) (by kernel_rfl) rfl ⟨Ev.st _, Ev.st _, Ev.st _, Ev.st _, Ev.st _, Ev.st _, Ev.st _, Er.st _, Ev.st _, Ev.st _, Ev.st _, Ev.st _, Ev.st _, Ev.st _, Ev.st _, Ev.st _, Ev.st _, Ev.st _, Ev.st _, trivial⟩ ⟨?r6h0, ?r6h1, ?r6h2, ?r6h3, ?r6h4, ?r6h5, ?r6h6, ?r6h7, ?r6h8, ?r6h9, ?r6h10, ?r6h11, ?r6h12, ?r6h13, ?r6h14, ?r6h15, ?r6h16, ?r6h17, ?r6h18, trivial⟩ ?r6end
      case r6h0 =>
        intro aa ww hb hh
        have x0 : aa.tmps[4]?.getD undef = .string (bS (ca [N] (fh encCl f.classes k))) := ev_of ((hh 4 (by decide)).old (by kernel_rfl))
        clear hh
        go_simp
        exact ⟨Bl.refl _, rfl⟩
      case r6h1 =>
        intro aa ww hb hh
        have x0 : aa.tmps[1]?.getD undef = .pointer (some ⟨w.heap.size, 0, none⟩) := ev_of ((hh 1 (by decide)).old (by kernel_rfl))
        clear hh
        go_simp
        exact ⟨Bl.refl _, rfl⟩
      case r6h2 =>
        intro aa ww hb hh
        have x0 : aa.tmps[32]?.getD undef = .pointer (some ⟨w.heap.size, 0, none⟩) := ev_of ((hh 32 (by decide)).at (j := 1) (by kernel_rfl))
        have y0 := hb.cell x0v
        clear hh
        go_simp
        exact ⟨Bl.refl _, rfl⟩
      case r6h3 =>
        intro aa ww hb hh
        have x0 : aa.tmps[5]?.getD undef = .int .i64 (k : Int) := ev_of ((hh 5 (by decide)).old (by kernel_rfl))
        clear hh
        go_simp
        exact ⟨Bl.refl _, rfl⟩
      case r6h4 =>
        intro aa ww hb hh
        have x0 : aa.tmps[33]?.getD undef = .slice (some ⟨p, q, none⟩) f.classes.length a := ev_of ((hh 33 (by decide)).at (j := 2) (by kernel_rfl))
        have x1 : aa.tmps[34]?.getD undef = .int .i64 (k : Int) := ev_of ((hh 34 (by decide)).at (j := 3) (by kernel_rfl))
        clear hh
        go_simp
        exact ⟨Bl.refl _, rfl⟩
      case r6h5 =>
        intro aa ww hb hh
        have x0 : aa.tmps[35]?.getD undef = .pointer (some ⟨p, q + k * 2, none⟩) := ev_of ((hh 35 (by decide)).at (j := 4) (by kernel_rfl))
        clear hh
        go_simp
        exact ⟨Bl.refl _, rfl⟩
      case r6h6 =>
        intro aa ww hb hh
        have x0 : aa.tmps[36]?.getD undef = .pointer (some ⟨p, q + k * 2, none⟩) := ev_of ((hh 36 (by decide)).at (j := 5) (by kernel_rfl))
        have y0 := hb.cell c0
        clear hh
        go_simp
        exact ⟨Bl.refl _, rfl⟩
      case r6h7 =>
        intro aa ww hb hh
        have x0 : aa.tmps[37]?.getD undef = .int .i64 (nth cl0 f.classes k).super := ev_of ((hh 37 (by decide)).at (j := 6) (by kernel_rfl))
        clear hh
        go_simp
        exact ⟨(Bl.refl _).alloc _, _, rfl, ints_new ww [(nth cl0 f.classes k).super] _ rfl (by simp) (by simp; exact X.out.1)⟩
      case r6h8 =>
        intro aa ww hb hh
        obtain ⟨g, x0, x1⟩ : Er [(nth cl0 f.classes k).super] (aa.eval (.tmp 38)) ww := (hh 38 (by decide)).at (j := 7) (by kernel_rfl)
        have x0 := ev_of x0
        clear hh
        go_simp
        exact ⟨Bl.refl _, (rnumbers_any [(nth cl0 f.classes k).super] _ _ _ x1 (enc_le_row _ (by simp))).mono fun e w2 ⟨he, g2⟩ => ⟨_, he, g2, by show _ = _; simp [encTy]⟩⟩
      case r6h9 =>
        intro aa ww hb hh
        have x0 : aa.tmps[31]?.getD undef = .string (bS (ca [N] (fh encCl f.classes k))) := ev_of ((hh 31 (by decide)).at (j := 0) (by kernel_rfl))
        have x1 : aa.tmps[39]?.getD undef = .string (bS (wideL (nth cl0 f.classes k).super)) := ev_of ((hh 39 (by decide)).at (j := 8) (by kernel_rfl))
        have hno := add_no (ca [N] (fh encCl f.classes k)) (wideL (nth cl0 f.classes k).super) (by have := HL.out; simp only [ca, encL, List.length_append, List.length_cons, List.length_nil, wide_len] at this ⊢; omega)
        have hadd := bS_ca (ca [N] (fh encCl f.classes k)) (wideL (nth cl0 f.classes k).super)
        clear hh
        go_simp
        exact ⟨Bl.refl _, rfl⟩
      case r6h10 =>
        intro aa ww hb hh
        have x0 : aa.tmps[1]?.getD undef = .pointer (some ⟨w.heap.size, 0, none⟩) := ev_of ((hh 1 (by decide)).old (by kernel_rfl))
        clear hh
        go_simp
        exact ⟨Bl.refl _, rfl⟩
      case r6h11 =>
        intro aa ww hb hh
        have x0 : aa.tmps[41]?.getD undef = .pointer (some ⟨w.heap.size, 0, none⟩) := ev_of ((hh 41 (by decide)).at (j := 10) (by kernel_rfl))
        have y0 := hb.cell x0v
        clear hh
        go_simp
        exact ⟨Bl.refl _, rfl⟩
      case r6h12 =>
        intro aa ww hb hh
        have x0 : aa.tmps[5]?.getD undef = .int .i64 (k : Int) := ev_of ((hh 5 (by decide)).old (by kernel_rfl))
        clear hh
        go_simp
        exact ⟨Bl.refl _, rfl⟩
      case r6h13 =>
        intro aa ww hb hh
        have x0 : aa.tmps[42]?.getD undef = .slice (some ⟨p, q, none⟩) f.classes.length a := ev_of ((hh 42 (by decide)).at (j := 11) (by kernel_rfl))
        have x1 : aa.tmps[43]?.getD undef = .int .i64 (k : Int) := ev_of ((hh 43 (by decide)).at (j := 12) (by kernel_rfl))
        clear hh
        go_simp
        exact ⟨Bl.refl _, rfl⟩
      case r6h14 =>
        intro aa ww hb hh
        have x0 : aa.tmps[44]?.getD undef = .pointer (some ⟨p, q + k * 2, none⟩) := ev_of ((hh 44 (by decide)).at (j := 13) (by kernel_rfl))
        clear hh
        go_simp
        exact ⟨Bl.refl _, rfl⟩
      case r6h15 =>
        intro aa ww hb hh
        have x0 : aa.tmps[45]?.getD undef = .pointer (some ⟨p, q + k * 2 + 1, none⟩) := ev_of ((hh 45 (by decide)).at (j := 14) (by kernel_rfl))
        have y0 := hb.cell c1
        clear hh
        go_simp
        exact ⟨Bl.refl _, rfl⟩
      case r6h16 =>
        intro aa ww hb hh
        have x0 : aa.tmps[46]?.getD undef = .slice A2 (nth cl0 f.classes k).fields.length a2 := ev_of ((hh 46 (by decide)).at (j := 15) (by kernel_rfl))
        clear hh
        go_simp
        exact ⟨Bl.refl _, (rtypes_any (nth cl0 f.classes k).fields _ _ _ (X.out.2.bl hb) (by have := HL.out; simp only [ca, encL, List.length_append, List.length_cons, List.length_nil, wide_len] at this ⊢; omega)).mono fun e w2 ⟨he, g2⟩ => ⟨_, he, g2, rfl⟩⟩
      case r6h17 =>
        intro aa ww hb hh
        have x0 : aa.tmps[40]?.getD undef = .string (bS (ca (ca [N] (fh encCl f.classes k)) (wideL (nth cl0 f.classes k).super))) := ev_of ((hh 40 (by decide)).at (j := 9) (by kernel_rfl))
        have x1 : aa.tmps[47]?.getD undef = .string (bS (encL encTy (nth cl0 f.classes k).fields)) := ev_of ((hh 47 (by decide)).at (j := 16) (by kernel_rfl))
        have hno := add_no (ca (ca [N] (fh encCl f.classes k)) (wideL (nth cl0 f.classes k).super)) (encL encTy (nth cl0 f.classes k).fields) (by have := HL.out; simp only [ca, encL, List.length_append, List.length_cons, List.length_nil, wide_len] at this ⊢; omega)
        have hadd := bS_ca (ca (ca [N] (fh encCl f.classes k)) (wideL (nth cl0 f.classes k).super)) (encL encTy (nth cl0 f.classes k).fields)
        clear hh
        go_simp
        exact ⟨Bl.refl _, rfl⟩
      case r6h18 =>
        intro aa ww hb hh
        have x0 : aa.tmps[48]?.getD undef = .string (bS (ca (ca (ca [N] (fh encCl f.classes k)) (wideL (nth cl0 f.classes k).super)) (encL encTy (nth cl0 f.classes k).fields))) := ev_of ((hh 48 (by decide)).at (j := 17) (by kernel_rfl))
        clear hh
        go_simp
        exact ⟨Bl.refl _, rfl⟩
      intro vs ww hb hh
      have y : vs 18 = .string (bS (ca (ca (ca [N] (fh encCl f.classes k)) (wideL (nth cl0 f.classes k).super)) (encL encTy (nth cl0 f.classes k).fields))) := hh 18 (by decide)
      clear hh
      simp only [fillA, if_true, aZ]
      rw [y]
      have HB_ := hidW hb
      clear y hb
      go_wp2
      go_roundw
      case rel => exact ⟨k + 1, by omega, by go_num, by rw [HE.out], H1.out.trans HB_.out⟩
      case measure => simp [intOf]; omega
    · obtain rfl : k = f.classes.length := by omega
      have x1v := H1.out.cell V1.out
      have HX := hidW (fun (W W' : World) (hb : Bl (W.alloc (.cells #[.int .i64 (f.methods.length : Int)] 3)) W') => rnums_new [(f.methods.length : Int)] W W' (by simp) (by simp; unfold I64; omega) hb 1 rfl)
      have HC := hidW (show ca (ca [N] (fh encCl f.classes f.classes.length)) (wideL f.methods.length) = ca (ca [N] (encL encCl f.classes)) (fh encMe f.methods 0) by rw [fh_all, fh_0])
      have hno := add_no (ca [N] (fh encCl f.classes f.classes.length)) (wideL f.methods.length) (by have t1 := HT.out; rw [fh_all]; simp only [ca, List.length_append, wide_len, encL] at t1 ⊢; omega)
      have hadd := bS_ca (ca [N] (fh encCl f.classes f.classes.length)) (wideL f.methods.length)
      rw [HC.out] at hadd
      go_wp2_with (go_at_call 17; refine (HX.out wr _ (Bl.refl _)).mono ?_; rintro e w5 ⟨he, g5⟩; rw [show ([(f.methods.length : Int)].map wideL).flatten = wideL f.methods.length by simp] at he; subst he; have G5 := hidW (((Bl.refl wr).alloc _).trans g5); clear g5)
      have H5 := hidW (H1.out.trans G5.out)
      clear hadd hno x0v x1v HX
      go_loopw [4, 6] (fun s i wr => ∃ k : Nat, k ≤ f.methods.length ∧ i = .int .i64 (k : Int) ∧ s = .string (bS (ca (ca [N] (encL encCl f.classes)) (fh encMe f.methods k))) ∧ Bl w1 wr) (fun _ i _ => f.methods.length - (intOf i).toNat)
      case atStart => exact ⟨0, by omega, rfl, rfl, H5.out⟩
      case round =>
        obtain ⟨k, hk, rfl, rfl, h1⟩ := hrel
        obtain ⟨w0, hw0⟩ : ∃ w0, w0 = wr := ⟨wr, rfl⟩
        subst hw0
        have H1 := hidW h1
        clear h1 H5
        have x1v := H1.out.cell V1.out
        by_cases hlt : k < f.methods.length
        · rcases HB.out.2 with h0 | ⟨p, q, rfl, hi⟩
          · omega
          obtain ⟨P, C, K, pp, pc, pk, i0, i1, i2, i3, i4, i5, i6, i7, i8⟩ := hi k hlt
          have GG := hidW (G1.out.trans H1.out)
          have c0 := GG.out.cell i0
          have c1 := GG.out.cell i1
          have c2 := GG.out.cell i2
          have c3 := GG.out.cell i3
          have c4 := GG.out.cell i4
          have c5 := GG.out.cell i5
          have c6 := GG.out.cell i6
          have c7 := GG.out.cell i7
          have I8 := hidW (i8.bl GG.out)
          clear hi i0 i1 i2 i3 i4 i5 i6 i7 i8
          have hcm2 := I8.out.2.1.1
          have hhm2 := I8.out.2.2.1.1
          unfold maxLen at hcm2 hhm2
          have E0 := hidW (cell_of_new (w := w0) (cs := #[.slice P (nth me0 f.methods k).params.length pp, .int .i64 (nth me0 f.methods k).ret.kind, .int .i64 (nth me0 f.methods k).ret.cls, .int .i64 (nth me0 f.methods k).stack, .int .i64 (nth me0 f.methods k).locs, .int .i64 (nth me0 f.methods k).regs, .slice C (nth me0 f.methods k).code.length pc, .slice K (nth me0 f.methods k).hands.length pk]) (t := 50) (o := 0) rfl)
          have E1 := hidW (cell_of_new (w := w0) (cs := #[.slice P (nth me0 f.methods k).params.length pp, .int .i64 (nth me0 f.methods k).ret.kind, .int .i64 (nth me0 f.methods k).ret.cls, .int .i64 (nth me0 f.methods k).stack, .int .i64 (nth me0 f.methods k).locs, .int .i64 (nth me0 f.methods k).regs, .slice C (nth me0 f.methods k).code.length pc, .slice K (nth me0 f.methods k).hands.length pk]) (t := 50) (o := 1) rfl)
          have E2 := hidW (cell_of_new (w := w0) (cs := #[.slice P (nth me0 f.methods k).params.length pp, .int .i64 (nth me0 f.methods k).ret.kind, .int .i64 (nth me0 f.methods k).ret.cls, .int .i64 (nth me0 f.methods k).stack, .int .i64 (nth me0 f.methods k).locs, .int .i64 (nth me0 f.methods k).regs, .slice C (nth me0 f.methods k).code.length pc, .slice K (nth me0 f.methods k).hands.length pk]) (t := 50) (o := 2) rfl)
          have E3 := hidW (cell_of_new (w := w0) (cs := #[.slice P (nth me0 f.methods k).params.length pp, .int .i64 (nth me0 f.methods k).ret.kind, .int .i64 (nth me0 f.methods k).ret.cls, .int .i64 (nth me0 f.methods k).stack, .int .i64 (nth me0 f.methods k).locs, .int .i64 (nth me0 f.methods k).regs, .slice C (nth me0 f.methods k).code.length pc, .slice K (nth me0 f.methods k).hands.length pk]) (t := 50) (o := 3) rfl)
          have E4 := hidW (cell_of_new (w := w0) (cs := #[.slice P (nth me0 f.methods k).params.length pp, .int .i64 (nth me0 f.methods k).ret.kind, .int .i64 (nth me0 f.methods k).ret.cls, .int .i64 (nth me0 f.methods k).stack, .int .i64 (nth me0 f.methods k).locs, .int .i64 (nth me0 f.methods k).regs, .slice C (nth me0 f.methods k).code.length pc, .slice K (nth me0 f.methods k).hands.length pk]) (t := 50) (o := 4) rfl)
          have E5 := hidW (cell_of_new (w := w0) (cs := #[.slice P (nth me0 f.methods k).params.length pp, .int .i64 (nth me0 f.methods k).ret.kind, .int .i64 (nth me0 f.methods k).ret.cls, .int .i64 (nth me0 f.methods k).stack, .int .i64 (nth me0 f.methods k).locs, .int .i64 (nth me0 f.methods k).regs, .slice C (nth me0 f.methods k).code.length pc, .slice K (nth me0 f.methods k).hands.length pk]) (t := 50) (o := 5) rfl)
          have E6 := hidW (cell_of_new (w := w0) (cs := #[.slice P (nth me0 f.methods k).params.length pp, .int .i64 (nth me0 f.methods k).ret.kind, .int .i64 (nth me0 f.methods k).ret.cls, .int .i64 (nth me0 f.methods k).stack, .int .i64 (nth me0 f.methods k).locs, .int .i64 (nth me0 f.methods k).regs, .slice C (nth me0 f.methods k).code.length pc, .slice K (nth me0 f.methods k).hands.length pk]) (t := 50) (o := 6) rfl)
          have E7 := hidW (cell_of_new (w := w0) (cs := #[.slice P (nth me0 f.methods k).params.length pp, .int .i64 (nth me0 f.methods k).ret.kind, .int .i64 (nth me0 f.methods k).ret.cls, .int .i64 (nth me0 f.methods k).stack, .int .i64 (nth me0 f.methods k).locs, .int .i64 (nth me0 f.methods k).regs, .slice C (nth me0 f.methods k).code.length pc, .slice K (nth me0 f.methods k).hands.length pk]) (t := 50) (o := 7) rfl)
          have W2 := hidW ((Bl.refl w0).alloc (.cells #[.slice P (nth me0 f.methods k).params.length pp, .int .i64 (nth me0 f.methods k).ret.kind, .int .i64 (nth me0 f.methods k).ret.cls, .int .i64 (nth me0 f.methods k).stack, .int .i64 (nth me0 f.methods k).locs, .int .i64 (nth me0 f.methods k).regs, .slice C (nth me0 f.methods k).code.length pc, .slice K (nth me0 f.methods k).hands.length pk] 50))
          have HE := hidW (show ca (ca (ca (ca (ca (ca [N] (encL encCl f.classes)) (fh encMe f.methods k)) (encL encTy (nth me0 f.methods k).params)) (fw [(nth me0 f.methods k).ret.kind, (nth me0 f.methods k).ret.cls, (nth me0 f.methods k).stack, (nth me0 f.methods k).locs, (nth me0 f.methods k).regs, ((nth me0 f.methods k).code.length : Int)])) (fl encIn (nth me0 f.methods k).code (nth me0 f.methods k).code.length)) (encL encHd (nth me0 f.methods k).hands) = ca (ca [N] (encL encCl f.classes)) (fh encMe f.methods (k + 1)) by
            rw [← fh_succ me0 encMe f.methods k hlt, fl_all]
            simp [ca, fw, encMe, encTy, encL])
          have HLA := hidW (show (ca (ca (ca (ca (ca (ca [N] (encL encCl f.classes)) (fh encMe f.methods k)) (encL encTy (nth me0 f.methods k).params)) (fw [(nth me0 f.methods k).ret.kind, (nth me0 f.methods k).ret.cls, (nth me0 f.methods k).stack, (nth me0 f.methods k).locs, (nth me0 f.methods k).regs, ((nth me0 f.methods k).code.length : Int)])) (fl encIn (nth me0 f.methods k).code (nth me0 f.methods k).code.length)) (encL encHd (nth me0 f.methods k).hands)).length ≤ 50000000 by
            rw [HE.out]
            have t1 := fh_item me0 encMe f.methods k hlt
            have t2 := HT.out
            rw [← fh_succ me0 encMe f.methods k hlt]
            simp only [ca, List.length_append, List.length_cons, List.length_nil] at t1 t2 ⊢
            omega)
          have HL := hidW (show ((ca (ca (ca (ca [N] (encL encCl f.classes)) (fh encMe f.methods k)) (encL encTy (nth me0 f.methods k).params)) (fw [(nth me0 f.methods k).ret.kind, (nth me0 f.methods k).ret.cls, (nth me0 f.methods k).stack, (nth me0 f.methods k).locs, (nth me0 f.methods k).regs, ((nth me0 f.methods k).code.length : Int)]))).length ≤ 50000000 by
            have t1 := HLA.out
            simp only [ca, List.length_append] at t1 ⊢
            omega)
          go_wp2
          refine wp_region_facts [Ev (.string (bS (ca (ca [N] (encL encCl f.classes)) (fh encMe f.methods k)))), Ev (.pointer (some ⟨w0.heap.size, 0, none⟩)), Ev (.slice P (nth me0 f.methods k).params.length pp), Ev (.string (bS (encL encTy (nth me0 f.methods k).params))), Ev (.string (bS (ca (ca (ca [N] (encL encCl f.classes)) (fh encMe f.methods k)) (encL encTy (nth me0 f.methods k).params)))), Ev (.pointer (some ⟨w0.heap.size, 1, none⟩)), Ev (.pointer (some ⟨w0.heap.size, 1, none⟩)), Ev (.int .i64 (nth me0 f.methods k).ret.kind), Ev (.pointer (some ⟨w0.heap.size, 1, none⟩)), Ev (.pointer (some ⟨w0.heap.size, 2, none⟩)), Ev (.int .i64 (nth me0 f.methods k).ret.cls), Ev (.pointer (some ⟨w0.heap.size, 3, none⟩)), Ev (.int .i64 (nth me0 f.methods k).stack), Ev (.pointer (some ⟨w0.heap.size, 4, none⟩)), Ev (.int .i64 (nth me0 f.methods k).locs), Ev (.pointer (some ⟨w0.heap.size, 5, none⟩)), Ev (.int .i64 (nth me0 f.methods k).regs), Ev (.pointer (some ⟨w0.heap.size, 6, none⟩)), Ev (.slice C (nth me0 f.methods k).code.length pc), Ev (.int .i64 ((nth me0 f.methods k).code.length : Int)), Er [(nth me0 f.methods k).ret.kind, (nth me0 f.methods k).ret.cls, (nth me0 f.methods k).stack, (nth me0 f.methods k).locs, (nth me0 f.methods k).regs, ((nth me0 f.methods k).code.length : Int)], Ev (.string (bS (fw [(nth me0 f.methods k).ret.kind, (nth me0 f.methods k).ret.cls, (nth me0 f.methods k).stack, (nth me0 f.methods k).locs, (nth me0 f.methods k).regs, ((nth me0 f.methods k).code.length : Int)]))), Ev (.string (bS (ca (ca (ca (ca [N] (encL encCl f.classes)) (fh encMe f.methods k)) (encL encTy (nth me0 f.methods k).params)) (fw [(nth me0 f.methods k).ret.kind, (nth me0 f.methods k).ret.cls, (nth me0 f.methods k).stack, (nth me0 f.methods k).locs, (nth me0 f.methods k).regs, ((nth me0 f.methods k).code.length : Int)])))), Ev (.string (bS (ca (ca (ca (ca [N] (encL encCl f.classes)) (fh encMe f.methods k)) (encL encTy (nth me0 f.methods k).params)) (fw [(nth me0 f.methods k).ret.kind, (nth me0 f.methods k).ret.cls, (nth me0 f.methods k).stack, (nth me0 f.methods k).locs, (nth me0 f.methods k).regs, ((nth me0 f.methods k).code.length : Int)]))))] 161 (by kernel_rfl) (by kernel_rfl) rfl ⟨Ev.st _, Ev.st _, Ev.st _, Ev.st _, Ev.st _, Ev.st _, Ev.st _, Ev.st _, Ev.st _, Ev.st _, Ev.st _, Ev.st _, Ev.st _, Ev.st _, Ev.st _, Ev.st _, Ev.st _, Ev.st _, Ev.st _, Ev.st _, Er.st _, Ev.st _, Ev.st _, Ev.st _, trivial⟩ ⟨?r12h0, ?r12h1, ?r12h2, ?r12h3, ?r12h4, ?r12h5, ?r12h6, ?r12h7, ?r12h8, ?r12h9, ?r12h10, ?r12h11, ?r12h12, ?r12h13, ?r12h14, ?r12h15, ?r12h16, ?r12h17, ?r12h18, ?r12h19, ?r12h20, ?r12h21, ?r12h22, ?r12h23, trivial⟩ ?r12end
          case r12h0 =>
            intro aa ww hb hh
            have x0 : aa.tmps[4]?.getD undef = .string (bS (ca (ca [N] (encL encCl f.classes)) (fh encMe f.methods k))) := ev_of ((hh 4 (by decide)).old (by kernel_rfl))
            clear hh
            go_simp
            exact ⟨Bl.refl _, rfl⟩
          case r12h1 =>
            intro aa ww hb hh
            have x0 : aa.tmps[7]?.getD undef = .pointer (some ⟨w0.heap.size, 0, none⟩) := ev_of ((hh 7 (by decide)).old (by kernel_rfl))
            clear hh
            go_simp
            exact ⟨Bl.refl _, rfl⟩
          case r12h2 =>
            intro aa ww hb hh
            have x0 : aa.tmps[69]?.getD undef = .pointer (some ⟨w0.heap.size, 0, none⟩) := ev_of ((hh 69 (by decide)).at (j := 1) (by kernel_rfl))
            have y0 := hb.cell E0.out
            clear hh
            go_simp
            exact ⟨Bl.refl _, rfl⟩
          case r12h3 =>
            intro aa ww hb hh
            have x0 : aa.tmps[70]?.getD undef = .slice P (nth me0 f.methods k).params.length pp := ev_of ((hh 70 (by decide)).at (j := 2) (by kernel_rfl))
            clear hh
            go_simp
            exact ⟨Bl.refl _, (rtypes_any (nth me0 f.methods k).params _ _ _ ((I8.out.1.bl W2.out).bl hb) (by have := HL.out; simp only [ca, encL, List.length_append, List.length_cons, List.length_nil, wide_len] at this ⊢; omega)).mono fun e w2 ⟨he, g2⟩ => ⟨_, he, g2, rfl⟩⟩
          case r12h4 =>
            intro aa ww hb hh
            have x0 : aa.tmps[68]?.getD undef = .string (bS (ca (ca [N] (encL encCl f.classes)) (fh encMe f.methods k))) := ev_of ((hh 68 (by decide)).at (j := 0) (by kernel_rfl))
            have x1 : aa.tmps[71]?.getD undef = .string (bS (encL encTy (nth me0 f.methods k).params)) := ev_of ((hh 71 (by decide)).at (j := 3) (by kernel_rfl))
            have hno := add_no (ca (ca [N] (encL encCl f.classes)) (fh encMe f.methods k)) (encL encTy (nth me0 f.methods k).params) (by have := HL.out; simp only [ca, encL, List.length_append, List.length_cons, List.length_nil, wide_len] at this ⊢; omega)
            have hadd := bS_ca (ca (ca [N] (encL encCl f.classes)) (fh encMe f.methods k)) (encL encTy (nth me0 f.methods k).params)
            clear hh
            go_simp
            exact ⟨Bl.refl _, rfl⟩
          case r12h5 =>
            intro aa ww hb hh
            have x0 : aa.tmps[7]?.getD undef = .pointer (some ⟨w0.heap.size, 0, none⟩) := ev_of ((hh 7 (by decide)).old (by kernel_rfl))
            clear hh
            go_simp
            exact ⟨Bl.refl _, rfl⟩
          case r12h6 =>
            intro aa ww hb hh
            have x0 : aa.tmps[73]?.getD undef = .pointer (some ⟨w0.heap.size, 1, none⟩) := ev_of ((hh 73 (by decide)).at (j := 5) (by kernel_rfl))
            clear hh
            go_simp
            exact ⟨Bl.refl _, rfl⟩
          case r12h7 =>
            intro aa ww hb hh
            have x0 : aa.tmps[74]?.getD undef = .pointer (some ⟨w0.heap.size, 1, none⟩) := ev_of ((hh 74 (by decide)).at (j := 6) (by kernel_rfl))
            have y0 := hb.cell E1.out
            clear hh
            go_simp
            exact ⟨Bl.refl _, rfl⟩
          case r12h8 =>
            intro aa ww hb hh
            have x0 : aa.tmps[7]?.getD undef = .pointer (some ⟨w0.heap.size, 0, none⟩) := ev_of ((hh 7 (by decide)).old (by kernel_rfl))
            clear hh
            go_simp
            exact ⟨Bl.refl _, rfl⟩
          case r12h9 =>
            intro aa ww hb hh
            have x0 : aa.tmps[76]?.getD undef = .pointer (some ⟨w0.heap.size, 1, none⟩) := ev_of ((hh 76 (by decide)).at (j := 8) (by kernel_rfl))
            clear hh
            go_simp
            exact ⟨Bl.refl _, rfl⟩
          case r12h10 =>
            intro aa ww hb hh
            have x0 : aa.tmps[77]?.getD undef = .pointer (some ⟨w0.heap.size, 2, none⟩) := ev_of ((hh 77 (by decide)).at (j := 9) (by kernel_rfl))
            have y0 := hb.cell E2.out
            clear hh
            go_simp
            exact ⟨Bl.refl _, rfl⟩
          case r12h11 =>
            intro aa ww hb hh
            have x0 : aa.tmps[7]?.getD undef = .pointer (some ⟨w0.heap.size, 0, none⟩) := ev_of ((hh 7 (by decide)).old (by kernel_rfl))
            clear hh
            go_simp
            exact ⟨Bl.refl _, rfl⟩
          case r12h12 =>
            intro aa ww hb hh
            have x0 : aa.tmps[79]?.getD undef = .pointer (some ⟨w0.heap.size, 3, none⟩) := ev_of ((hh 79 (by decide)).at (j := 11) (by kernel_rfl))
            have y0 := hb.cell E3.out
            clear hh
            go_simp
            exact ⟨Bl.refl _, rfl⟩
          case r12h13 =>
            intro aa ww hb hh
            have x0 : aa.tmps[7]?.getD undef = .pointer (some ⟨w0.heap.size, 0, none⟩) := ev_of ((hh 7 (by decide)).old (by kernel_rfl))
            clear hh
            go_simp
            exact ⟨Bl.refl _, rfl⟩
          case r12h14 =>
            intro aa ww hb hh
            have x0 : aa.tmps[81]?.getD undef = .pointer (some ⟨w0.heap.size, 4, none⟩) := ev_of ((hh 81 (by decide)).at (j := 13) (by kernel_rfl))
            have y0 := hb.cell E4.out
            clear hh
            go_simp
            exact ⟨Bl.refl _, rfl⟩
          case r12h15 =>
            intro aa ww hb hh
            have x0 : aa.tmps[7]?.getD undef = .pointer (some ⟨w0.heap.size, 0, none⟩) := ev_of ((hh 7 (by decide)).old (by kernel_rfl))
            clear hh
            go_simp
            exact ⟨Bl.refl _, rfl⟩
          case r12h16 =>
            intro aa ww hb hh
            have x0 : aa.tmps[83]?.getD undef = .pointer (some ⟨w0.heap.size, 5, none⟩) := ev_of ((hh 83 (by decide)).at (j := 15) (by kernel_rfl))
            have y0 := hb.cell E5.out
            clear hh
            go_simp
            exact ⟨Bl.refl _, rfl⟩
          case r12h17 =>
            intro aa ww hb hh
            have x0 : aa.tmps[7]?.getD undef = .pointer (some ⟨w0.heap.size, 0, none⟩) := ev_of ((hh 7 (by decide)).old (by kernel_rfl))
            clear hh
            go_simp
            exact ⟨Bl.refl _, rfl⟩
          case r12h18 =>
            intro aa ww hb hh
            have x0 : aa.tmps[85]?.getD undef = .pointer (some ⟨w0.heap.size, 6, none⟩) := ev_of ((hh 85 (by decide)).at (j := 17) (by kernel_rfl))
            have y0 := hb.cell E6.out
            clear hh
            go_simp
            exact ⟨Bl.refl _, rfl⟩
          case r12h19 =>
            intro aa ww hb hh
            have x0 : aa.tmps[86]?.getD undef = .slice C (nth me0 f.methods k).code.length pc := ev_of ((hh 86 (by decide)).at (j := 18) (by kernel_rfl))
            clear hh
            go_simp
            exact ⟨Bl.refl _, rfl⟩
          case r12h20 =>
            intro aa ww hb hh
            have x0 : aa.tmps[75]?.getD undef = .int .i64 (nth me0 f.methods k).ret.kind := ev_of ((hh 75 (by decide)).at (j := 7) (by kernel_rfl))
            have x1 : aa.tmps[78]?.getD undef = .int .i64 (nth me0 f.methods k).ret.cls := ev_of ((hh 78 (by decide)).at (j := 10) (by kernel_rfl))
            have x2 : aa.tmps[80]?.getD undef = .int .i64 (nth me0 f.methods k).stack := ev_of ((hh 80 (by decide)).at (j := 12) (by kernel_rfl))
            have x3 : aa.tmps[82]?.getD undef = .int .i64 (nth me0 f.methods k).locs := ev_of ((hh 82 (by decide)).at (j := 14) (by kernel_rfl))
            have x4 : aa.tmps[84]?.getD undef = .int .i64 (nth me0 f.methods k).regs := ev_of ((hh 84 (by decide)).at (j := 16) (by kernel_rfl))
            have x5 : aa.tmps[87]?.getD undef = .int .i64 ((nth me0 f.methods k).code.length : Int) := ev_of ((hh 87 (by decide)).at (j := 19) (by kernel_rfl))
            clear hh
            go_simp
            exact ⟨(Bl.refl _).alloc _, _, rfl, ints_new ww [(nth me0 f.methods k).ret.kind, (nth me0 f.methods k).ret.cls, (nth me0 f.methods k).stack, (nth me0 f.methods k).locs, (nth me0 f.methods k).regs, ((nth me0 f.methods k).code.length : Int)] _ rfl (by simp) (by simp; exact ⟨I8.out.2.2.2.1, I8.out.2.2.2.2.1, I8.out.2.2.2.2.2.1, I8.out.2.2.2.2.2.2.1, I8.out.2.2.2.2.2.2.2, by unfold I64; omega⟩)⟩
          case r12h21 =>
            intro aa ww hb hh
            obtain ⟨g, x0, x1⟩ : Er [(nth me0 f.methods k).ret.kind, (nth me0 f.methods k).ret.cls, (nth me0 f.methods k).stack, (nth me0 f.methods k).locs, (nth me0 f.methods k).regs, ((nth me0 f.methods k).code.length : Int)] (aa.eval (.tmp 88)) ww := (hh 88 (by decide)).at (j := 20) (by kernel_rfl)
            have x0 := ev_of x0
            clear hh
            go_simp
            exact ⟨Bl.refl _, (rnumbers_any [(nth me0 f.methods k).ret.kind, (nth me0 f.methods k).ret.cls, (nth me0 f.methods k).stack, (nth me0 f.methods k).locs, (nth me0 f.methods k).regs, ((nth me0 f.methods k).code.length : Int)] _ _ _ x1 (enc_le_row _ (by simp))).mono fun e w2 ⟨he, g2⟩ => ⟨_, he, g2, rfl⟩⟩
          case r12h22 =>
            intro aa ww hb hh
            have x0 : aa.tmps[72]?.getD undef = .string (bS (ca (ca (ca [N] (encL encCl f.classes)) (fh encMe f.methods k)) (encL encTy (nth me0 f.methods k).params))) := ev_of ((hh 72 (by decide)).at (j := 4) (by kernel_rfl))
            have x1 : aa.tmps[89]?.getD undef = .string (bS (fw [(nth me0 f.methods k).ret.kind, (nth me0 f.methods k).ret.cls, (nth me0 f.methods k).stack, (nth me0 f.methods k).locs, (nth me0 f.methods k).regs, ((nth me0 f.methods k).code.length : Int)])) := ev_of ((hh 89 (by decide)).at (j := 21) (by kernel_rfl))
            have hno := add_no (ca (ca (ca [N] (encL encCl f.classes)) (fh encMe f.methods k)) (encL encTy (nth me0 f.methods k).params)) (fw [(nth me0 f.methods k).ret.kind, (nth me0 f.methods k).ret.cls, (nth me0 f.methods k).stack, (nth me0 f.methods k).locs, (nth me0 f.methods k).regs, ((nth me0 f.methods k).code.length : Int)]) (by have := HL.out; simp only [ca, encL, List.length_append, List.length_cons, List.length_nil, wide_len] at this ⊢; omega)
            have hadd := bS_ca (ca (ca (ca [N] (encL encCl f.classes)) (fh encMe f.methods k)) (encL encTy (nth me0 f.methods k).params)) (fw [(nth me0 f.methods k).ret.kind, (nth me0 f.methods k).ret.cls, (nth me0 f.methods k).stack, (nth me0 f.methods k).locs, (nth me0 f.methods k).regs, ((nth me0 f.methods k).code.length : Int)])
            clear hh
            go_simp
            exact ⟨Bl.refl _, rfl⟩
          case r12h23 =>
            intro aa ww hb hh
            have x0 : aa.tmps[90]?.getD undef = .string (bS (ca (ca (ca (ca [N] (encL encCl f.classes)) (fh encMe f.methods k)) (encL encTy (nth me0 f.methods k).params)) (fw [(nth me0 f.methods k).ret.kind, (nth me0 f.methods k).ret.cls, (nth me0 f.methods k).stack, (nth me0 f.methods k).locs, (nth me0 f.methods k).regs, ((nth me0 f.methods k).code.length : Int)]))) := ev_of ((hh 90 (by decide)).at (j := 22) (by kernel_rfl))
            clear hh
            go_simp
            exact ⟨Bl.refl _, rfl⟩
          intro vs ww hb hh
          have y : vs 23 = .string (bS (ca (ca (ca (ca [N] (encL encCl f.classes)) (fh encMe f.methods k)) (encL encTy (nth me0 f.methods k).params)) (fw [(nth me0 f.methods k).ret.kind, (nth me0 f.methods k).ret.cls, (nth me0 f.methods k).stack, (nth me0 f.methods k).locs, (nth me0 f.methods k).regs, ((nth me0 f.methods k).code.length : Int)]))) := hh 23 (by decide)
          clear hh
          simp only [fillA, if_true, aZ]
          rw [y]
          have HB_ := hidW hb
          clear y hb
          obtain ⟨w4, hw4⟩ : ∃ w4, w4 = ww := ⟨ww, rfl⟩
          subst hw4
          have HB4 := HB_
          clear HB_ c0 c1 c2 c3 c4 c5 c6 c7 x1v
          go_wp2
          go_loopw [4, 8] (fun s i wr => ∃ m : Nat, m ≤ (nth me0 f.methods k).code.length ∧ i = .int .i64 (m : Int) ∧ s = .string (bS (ca (ca (ca (ca (ca [N] (encL encCl f.classes)) (fh encMe f.methods k)) (encL encTy (nth me0 f.methods k).params)) (fw [(nth me0 f.methods k).ret.kind, (nth me0 f.methods k).ret.cls, (nth me0 f.methods k).stack, (nth me0 f.methods k).locs, (nth me0 f.methods k).regs, ((nth me0 f.methods k).code.length : Int)])) (fl encIn (nth me0 f.methods k).code m))) ∧ Bl w4 wr) (fun _ i _ => (nth me0 f.methods k).code.length - (intOf i).toNat)
          case atStart => exact ⟨0, by omega, rfl, by rw [fl_0]; unfold ca; rw [List.append_nil], Bl.refl _⟩
          case round =>
            obtain ⟨m, hmk, rfl, rfl, h3⟩ := hrel
            obtain ⟨w3, hw3⟩ : ∃ w3, w3 = wr := ⟨wr, rfl⟩
            subst hw3
            have H3 := hidW h3
            clear h3
            have e6 := H3.out.cell (HB4.out.cell E6.out)
            have GH := hidW ((W2.out.trans HB4.out).trans H3.out)
            by_cases hlt2 : m < (nth me0 f.methods k).code.length
            · rcases I8.out.2.1.2 with h0 | ⟨cb, co, rfl, hi⟩
              · omega
              obtain ⟨i0, i1, i2, i3, i4, i5, Q, qc, i6, i7⟩ := hi m hlt2
              have c0 := GH.out.cell i0
              have c1 := GH.out.cell i1
              have c2 := GH.out.cell i2
              have c3 := GH.out.cell i3
              have c4 := GH.out.cell i4
              have c5 := GH.out.cell i6
              have X5 := hidW i5
              have X6 := hidW (i7.bl GH.out)
              clear hi i0 i1 i2 i3 i4 i5 i6 i7
              have hqm := X6.out.1
              unfold maxLen at hqm
              have D0 := hidW (cell_of_new (w := w3) (cs := #[.int .i64 (nth in0 (nth me0 f.methods k).code m).op, .int .i64 (nth in0 (nth me0 f.methods k).code m).a, .int .i64 (nth in0 (nth me0 f.methods k).code m).b, .int .i64 (nth in0 (nth me0 f.methods k).code m).c, .int .i64 (nth in0 (nth me0 f.methods k).code m).n, .slice Q (nth in0 (nth me0 f.methods k).code m).args.length qc]) (t := 53) (o := 0) rfl)
              have D1 := hidW (cell_of_new (w := w3) (cs := #[.int .i64 (nth in0 (nth me0 f.methods k).code m).op, .int .i64 (nth in0 (nth me0 f.methods k).code m).a, .int .i64 (nth in0 (nth me0 f.methods k).code m).b, .int .i64 (nth in0 (nth me0 f.methods k).code m).c, .int .i64 (nth in0 (nth me0 f.methods k).code m).n, .slice Q (nth in0 (nth me0 f.methods k).code m).args.length qc]) (t := 53) (o := 1) rfl)
              have D2 := hidW (cell_of_new (w := w3) (cs := #[.int .i64 (nth in0 (nth me0 f.methods k).code m).op, .int .i64 (nth in0 (nth me0 f.methods k).code m).a, .int .i64 (nth in0 (nth me0 f.methods k).code m).b, .int .i64 (nth in0 (nth me0 f.methods k).code m).c, .int .i64 (nth in0 (nth me0 f.methods k).code m).n, .slice Q (nth in0 (nth me0 f.methods k).code m).args.length qc]) (t := 53) (o := 2) rfl)
              have D3 := hidW (cell_of_new (w := w3) (cs := #[.int .i64 (nth in0 (nth me0 f.methods k).code m).op, .int .i64 (nth in0 (nth me0 f.methods k).code m).a, .int .i64 (nth in0 (nth me0 f.methods k).code m).b, .int .i64 (nth in0 (nth me0 f.methods k).code m).c, .int .i64 (nth in0 (nth me0 f.methods k).code m).n, .slice Q (nth in0 (nth me0 f.methods k).code m).args.length qc]) (t := 53) (o := 3) rfl)
              have D4 := hidW (cell_of_new (w := w3) (cs := #[.int .i64 (nth in0 (nth me0 f.methods k).code m).op, .int .i64 (nth in0 (nth me0 f.methods k).code m).a, .int .i64 (nth in0 (nth me0 f.methods k).code m).b, .int .i64 (nth in0 (nth me0 f.methods k).code m).c, .int .i64 (nth in0 (nth me0 f.methods k).code m).n, .slice Q (nth in0 (nth me0 f.methods k).code m).args.length qc]) (t := 53) (o := 4) rfl)
              have D5 := hidW (cell_of_new (w := w3) (cs := #[.int .i64 (nth in0 (nth me0 f.methods k).code m).op, .int .i64 (nth in0 (nth me0 f.methods k).code m).a, .int .i64 (nth in0 (nth me0 f.methods k).code m).b, .int .i64 (nth in0 (nth me0 f.methods k).code m).c, .int .i64 (nth in0 (nth me0 f.methods k).code m).n, .slice Q (nth in0 (nth me0 f.methods k).code m).args.length qc]) (t := 53) (o := 5) rfl)
              have W3 := hidW ((Bl.refl w3).alloc (.cells #[.int .i64 (nth in0 (nth me0 f.methods k).code m).op, .int .i64 (nth in0 (nth me0 f.methods k).code m).a, .int .i64 (nth in0 (nth me0 f.methods k).code m).b, .int .i64 (nth in0 (nth me0 f.methods k).code m).c, .int .i64 (nth in0 (nth me0 f.methods k).code m).n, .slice Q (nth in0 (nth me0 f.methods k).code m).args.length qc] 53))
              have HE2 := hidW (show ca (ca (ca (ca (ca (ca (ca (ca (ca [N] (encL encCl f.classes)) (fh encMe f.methods k)) (encL encTy (nth me0 f.methods k).params)) (fw [(nth me0 f.methods k).ret.kind, (nth me0 f.methods k).ret.cls, (nth me0 f.methods k).stack, (nth me0 f.methods k).locs, (nth me0 f.methods k).regs, ((nth me0 f.methods k).code.length : Int)])) (fl encIn (nth me0 f.methods k).code m)) (fw [(nth in0 (nth me0 f.methods k).code m).op, (nth in0 (nth me0 f.methods k).code m).a, (nth in0 (nth me0 f.methods k).code m).b, (nth in0 (nth me0 f.methods k).code m).c])) (wideL (nth in0 (nth me0 f.methods k).code m).n)) (wideL (nth in0 (nth me0 f.methods k).code m).args.length)) (fw (nth in0 (nth me0 f.methods k).code m).args) = ca (ca (ca (ca (ca [N] (encL encCl f.classes)) (fh encMe f.methods k)) (encL encTy (nth me0 f.methods k).params)) (fw [(nth me0 f.methods k).ret.kind, (nth me0 f.methods k).ret.cls, (nth me0 f.methods k).stack, (nth me0 f.methods k).locs, (nth me0 f.methods k).regs, ((nth me0 f.methods k).code.length : Int)])) (fl encIn (nth me0 f.methods k).code (m + 1)) by
                rw [← fl_succ in0 encIn (nth me0 f.methods k).code m hlt2]
                simp [ca, fw, encIn, encL])
              have HL2 := hidW (show (ca (ca (ca (ca (ca (ca (ca (ca (ca [N] (encL encCl f.classes)) (fh encMe f.methods k)) (encL encTy (nth me0 f.methods k).params)) (fw [(nth me0 f.methods k).ret.kind, (nth me0 f.methods k).ret.cls, (nth me0 f.methods k).stack, (nth me0 f.methods k).locs, (nth me0 f.methods k).regs, ((nth me0 f.methods k).code.length : Int)])) (fl encIn (nth me0 f.methods k).code m)) (fw [(nth in0 (nth me0 f.methods k).code m).op, (nth in0 (nth me0 f.methods k).code m).a, (nth in0 (nth me0 f.methods k).code m).b, (nth in0 (nth me0 f.methods k).code m).c])) (wideL (nth in0 (nth me0 f.methods k).code m).n)) (wideL (nth in0 (nth me0 f.methods k).code m).args.length)) (fw (nth in0 (nth me0 f.methods k).code m).args)).length ≤ 50000000 by
                rw [HE2.out, ← fl_succ in0 encIn (nth me0 f.methods k).code m hlt2]
                have t1 := fl_item in0 encIn (nth me0 f.methods k).code m hlt2
                have t2 := HLA.out
                rw [fl_all] at t2
                simp only [ca, List.length_append] at t1 t2 ⊢
                omega)
              have hk0 : (0 : Int) ≤ (m : Int) := by omega
              have hk1 : (m : Int) < ((nth me0 f.methods k).code.length : Int) := by omega
              go_wp2
              refine wp_region_facts [Ev (.string (bS (ca (ca (ca (ca (ca [N] (encL encCl f.classes)) (fh encMe f.methods k)) (encL encTy (nth me0 f.methods k).params)) (fw [(nth me0 f.methods k).ret.kind, (nth me0 f.methods k).ret.cls, (nth me0 f.methods k).stack, (nth me0 f.methods k).locs, (nth me0 f.methods k).regs, ((nth me0 f.methods k).code.length : Int)])) (fl encIn (nth me0 f.methods k).code m)))), Ev (.pointer (some ⟨w3.heap.size, 0, none⟩)), Ev (.int .i64 (nth in0 (nth me0 f.methods k).code m).op), Ev (.pointer (some ⟨w3.heap.size, 1, none⟩)), Ev (.int .i64 (nth in0 (nth me0 f.methods k).code m).a), Ev (.pointer (some ⟨w3.heap.size, 2, none⟩)), Ev (.int .i64 (nth in0 (nth me0 f.methods k).code m).b), Ev (.pointer (some ⟨w3.heap.size, 3, none⟩)), Ev (.int .i64 (nth in0 (nth me0 f.methods k).code m).c), Er [(nth in0 (nth me0 f.methods k).code m).op, (nth in0 (nth me0 f.methods k).code m).a, (nth in0 (nth me0 f.methods k).code m).b, (nth in0 (nth me0 f.methods k).code m).c], Ev (.string (bS (fw [(nth in0 (nth me0 f.methods k).code m).op, (nth in0 (nth me0 f.methods k).code m).a, (nth in0 (nth me0 f.methods k).code m).b, (nth in0 (nth me0 f.methods k).code m).c]))), Ev (.string (bS (ca (ca (ca (ca (ca (ca [N] (encL encCl f.classes)) (fh encMe f.methods k)) (encL encTy (nth me0 f.methods k).params)) (fw [(nth me0 f.methods k).ret.kind, (nth me0 f.methods k).ret.cls, (nth me0 f.methods k).stack, (nth me0 f.methods k).locs, (nth me0 f.methods k).regs, ((nth me0 f.methods k).code.length : Int)])) (fl encIn (nth me0 f.methods k).code m)) (fw [(nth in0 (nth me0 f.methods k).code m).op, (nth in0 (nth me0 f.methods k).code m).a, (nth in0 (nth me0 f.methods k).code m).b, (nth in0 (nth me0 f.methods k).code m).c])))), Ev (.pointer (some ⟨w3.heap.size, 4, none⟩)), Ev (.int .i64 (nth in0 (nth me0 f.methods k).code m).n), Ev (.string (bS (wideL (nth in0 (nth me0 f.methods k).code m).n))), Ev (.string (bS (ca (ca (ca (ca (ca (ca (ca [N] (encL encCl f.classes)) (fh encMe f.methods k)) (encL encTy (nth me0 f.methods k).params)) (fw [(nth me0 f.methods k).ret.kind, (nth me0 f.methods k).ret.cls, (nth me0 f.methods k).stack, (nth me0 f.methods k).locs, (nth me0 f.methods k).regs, ((nth me0 f.methods k).code.length : Int)])) (fl encIn (nth me0 f.methods k).code m)) (fw [(nth in0 (nth me0 f.methods k).code m).op, (nth in0 (nth me0 f.methods k).code m).a, (nth in0 (nth me0 f.methods k).code m).b, (nth in0 (nth me0 f.methods k).code m).c])) (wideL (nth in0 (nth me0 f.methods k).code m).n)))), Ev (.pointer (some ⟨w3.heap.size, 5, none⟩)), Ev (.slice Q (nth in0 (nth me0 f.methods k).code m).args.length qc), Ev (.int .i64 ((nth in0 (nth me0 f.methods k).code m).args.length : Int)), Er [((nth in0 (nth me0 f.methods k).code m).args.length : Int)], Ev (.string (bS (wideL (nth in0 (nth me0 f.methods k).code m).args.length))), Ev (.string (bS (ca (ca (ca (ca (ca (ca (ca (ca [N] (encL encCl f.classes)) (fh encMe f.methods k)) (encL encTy (nth me0 f.methods k).params)) (fw [(nth me0 f.methods k).ret.kind, (nth me0 f.methods k).ret.cls, (nth me0 f.methods k).stack, (nth me0 f.methods k).locs, (nth me0 f.methods k).regs, ((nth me0 f.methods k).code.length : Int)])) (fl encIn (nth me0 f.methods k).code m)) (fw [(nth in0 (nth me0 f.methods k).code m).op, (nth in0 (nth me0 f.methods k).code m).a, (nth in0 (nth me0 f.methods k).code m).b, (nth in0 (nth me0 f.methods k).code m).c])) (wideL (nth in0 (nth me0 f.methods k).code m).n)) (wideL (nth in0 (nth me0 f.methods k).code m).args.length)))), Ev (.pointer (some ⟨w3.heap.size, 5, none⟩)), Ev (.slice Q (nth in0 (nth me0 f.methods k).code m).args.length qc), Ev (.string (bS (fw (nth in0 (nth me0 f.methods k).code m).args))), Ev (.string (bS (ca (ca (ca (ca (ca (ca (ca (ca (ca [N] (encL encCl f.classes)) (fh encMe f.methods k)) (encL encTy (nth me0 f.methods k).params)) (fw [(nth me0 f.methods k).ret.kind, (nth me0 f.methods k).ret.cls, (nth me0 f.methods k).stack, (nth me0 f.methods k).locs, (nth me0 f.methods k).regs, ((nth me0 f.methods k).code.length : Int)])) (fl encIn (nth me0 f.methods k).code m)) (fw [(nth in0 (nth me0 f.methods k).code m).op, (nth in0 (nth me0 f.methods k).code m).a, (nth in0 (nth me0 f.methods k).code m).b, (nth in0 (nth me0 f.methods k).code m).c])) (wideL (nth in0 (nth me0 f.methods k).code m).n)) (wideL (nth in0 (nth me0 f.methods k).code m).args.length)) (fw (nth in0 (nth me0 f.methods k).code m).args)))), Ev (.string (bS (ca (ca (ca (ca (ca (ca (ca (ca (ca [N] (encL encCl f.classes)) (fh encMe f.methods k)) (encL encTy (nth me0 f.methods k).params)) (fw [(nth me0 f.methods k).ret.kind, (nth me0 f.methods k).ret.cls, (nth me0 f.methods k).stack, (nth me0 f.methods k).locs, (nth me0 f.methods k).regs, ((nth me0 f.methods k).code.length : Int)])) (fl encIn (nth me0 f.methods k).code m)) (fw [(nth in0 (nth me0 f.methods k).code m).op, (nth in0 (nth me0 f.methods k).code m).a, (nth in0 (nth me0 f.methods k).code m).b, (nth in0 (nth me0 f.methods k).code m).c])) (wideL (nth in0 (nth me0 f.methods k).code m).n)) (wideL (nth in0 (nth me0 f.methods k).code m).args.length)) (fw (nth in0 (nth me0 f.methods k).code m).args))))] 161 (by kernel_rfl) (by kernel_rfl) rfl ⟨Ev.st _, Ev.st _, Ev.st _, Ev.st _, Ev.st _, Ev.st _, Ev.st _, Ev.st _, Ev.st _, Er.st _, Ev.st _, Ev.st _, Ev.st _, Ev.st _, Ev.st _, Ev.st _, Ev.st _, Ev.st _, Ev.st _, Er.st _, Ev.st _, Ev.st _, Ev.st _, Ev.st _, Ev.st _, Ev.st _, Ev.st _, trivial⟩ ⟨?r17h0, ?r17h1, ?r17h2, ?r17h3, ?r17h4, ?r17h5, ?r17h6, ?r17h7, ?r17h8, ?r17h9, ?r17h10, ?r17h11, ?r17h12, ?r17h13, ?r17h14, ?r17h15, ?r17h16, ?r17h17, ?r17h18, ?r17h19, ?r17h20, ?r17h21, ?r17h22, ?r17h23, ?r17h24, ?r17h25, ?r17h26, trivial⟩ ?r17end
              case r17h0 =>
                intro aa ww hb hh
                have x0 : aa.tmps[4]?.getD undef = .string (bS (ca (ca (ca (ca (ca [N] (encL encCl f.classes)) (fh encMe f.methods k)) (encL encTy (nth me0 f.methods k).params)) (fw [(nth me0 f.methods k).ret.kind, (nth me0 f.methods k).ret.cls, (nth me0 f.methods k).stack, (nth me0 f.methods k).locs, (nth me0 f.methods k).regs, ((nth me0 f.methods k).code.length : Int)])) (fl encIn (nth me0 f.methods k).code m))) := ev_of ((hh 4 (by decide)).old (by kernel_rfl))
                clear hh
                go_simp
                exact ⟨Bl.refl _, rfl⟩
              case r17h1 =>
                intro aa ww hb hh
                have x0 : aa.tmps[9]?.getD undef = .pointer (some ⟨w3.heap.size, 0, none⟩) := ev_of ((hh 9 (by decide)).old (by kernel_rfl))
                clear hh
                go_simp
                exact ⟨Bl.refl _, rfl⟩
              case r17h2 =>
                intro aa ww hb hh
                have x0 : aa.tmps[104]?.getD undef = .pointer (some ⟨w3.heap.size, 0, none⟩) := ev_of ((hh 104 (by decide)).at (j := 1) (by kernel_rfl))
                have y0 := hb.cell D0.out
                clear hh
                go_simp
                exact ⟨Bl.refl _, rfl⟩
              case r17h3 =>
                intro aa ww hb hh
                have x0 : aa.tmps[9]?.getD undef = .pointer (some ⟨w3.heap.size, 0, none⟩) := ev_of ((hh 9 (by decide)).old (by kernel_rfl))
                clear hh
                go_simp
                exact ⟨Bl.refl _, rfl⟩
              case r17h4 =>
                intro aa ww hb hh
                have x0 : aa.tmps[106]?.getD undef = .pointer (some ⟨w3.heap.size, 1, none⟩) := ev_of ((hh 106 (by decide)).at (j := 3) (by kernel_rfl))
                have y0 := hb.cell D1.out
                clear hh
                go_simp
                exact ⟨Bl.refl _, rfl⟩
              case r17h5 =>
                intro aa ww hb hh
                have x0 : aa.tmps[9]?.getD undef = .pointer (some ⟨w3.heap.size, 0, none⟩) := ev_of ((hh 9 (by decide)).old (by kernel_rfl))
                clear hh
                go_simp
                exact ⟨Bl.refl _, rfl⟩
              case r17h6 =>
                intro aa ww hb hh
                have x0 : aa.tmps[108]?.getD undef = .pointer (some ⟨w3.heap.size, 2, none⟩) := ev_of ((hh 108 (by decide)).at (j := 5) (by kernel_rfl))
                have y0 := hb.cell D2.out
                clear hh
                go_simp
                exact ⟨Bl.refl _, rfl⟩
              case r17h7 =>
                intro aa ww hb hh
                have x0 : aa.tmps[9]?.getD undef = .pointer (some ⟨w3.heap.size, 0, none⟩) := ev_of ((hh 9 (by decide)).old (by kernel_rfl))
                clear hh
                go_simp
                exact ⟨Bl.refl _, rfl⟩
              case r17h8 =>
                intro aa ww hb hh
                have x0 : aa.tmps[110]?.getD undef = .pointer (some ⟨w3.heap.size, 3, none⟩) := ev_of ((hh 110 (by decide)).at (j := 7) (by kernel_rfl))
                have y0 := hb.cell D3.out
                clear hh
                go_simp
                exact ⟨Bl.refl _, rfl⟩
              case r17h9 =>
                intro aa ww hb hh
                have x0 : aa.tmps[105]?.getD undef = .int .i64 (nth in0 (nth me0 f.methods k).code m).op := ev_of ((hh 105 (by decide)).at (j := 2) (by kernel_rfl))
                have x1 : aa.tmps[107]?.getD undef = .int .i64 (nth in0 (nth me0 f.methods k).code m).a := ev_of ((hh 107 (by decide)).at (j := 4) (by kernel_rfl))
                have x2 : aa.tmps[109]?.getD undef = .int .i64 (nth in0 (nth me0 f.methods k).code m).b := ev_of ((hh 109 (by decide)).at (j := 6) (by kernel_rfl))
                have x3 : aa.tmps[111]?.getD undef = .int .i64 (nth in0 (nth me0 f.methods k).code m).c := ev_of ((hh 111 (by decide)).at (j := 8) (by kernel_rfl))
                clear hh
                go_simp
                exact ⟨(Bl.refl _).alloc _, _, rfl, ints_new ww [(nth in0 (nth me0 f.methods k).code m).op, (nth in0 (nth me0 f.methods k).code m).a, (nth in0 (nth me0 f.methods k).code m).b, (nth in0 (nth me0 f.methods k).code m).c] _ rfl (by simp) (by simp; exact ⟨X5.out.1, X5.out.2.1, X5.out.2.2.1, X5.out.2.2.2.1⟩)⟩
              case r17h10 =>
                intro aa ww hb hh
                obtain ⟨g, x0, x1⟩ : Er [(nth in0 (nth me0 f.methods k).code m).op, (nth in0 (nth me0 f.methods k).code m).a, (nth in0 (nth me0 f.methods k).code m).b, (nth in0 (nth me0 f.methods k).code m).c] (aa.eval (.tmp 112)) ww := (hh 112 (by decide)).at (j := 9) (by kernel_rfl)
                have x0 := ev_of x0
                clear hh
                go_simp
                exact ⟨Bl.refl _, (rnumbers_any [(nth in0 (nth me0 f.methods k).code m).op, (nth in0 (nth me0 f.methods k).code m).a, (nth in0 (nth me0 f.methods k).code m).b, (nth in0 (nth me0 f.methods k).code m).c] _ _ _ x1 (enc_le_row _ (by simp))).mono fun e w2 ⟨he, g2⟩ => ⟨_, he, g2, rfl⟩⟩
              case r17h11 =>
                intro aa ww hb hh
                have x0 : aa.tmps[103]?.getD undef = .string (bS (ca (ca (ca (ca (ca [N] (encL encCl f.classes)) (fh encMe f.methods k)) (encL encTy (nth me0 f.methods k).params)) (fw [(nth me0 f.methods k).ret.kind, (nth me0 f.methods k).ret.cls, (nth me0 f.methods k).stack, (nth me0 f.methods k).locs, (nth me0 f.methods k).regs, ((nth me0 f.methods k).code.length : Int)])) (fl encIn (nth me0 f.methods k).code m))) := ev_of ((hh 103 (by decide)).at (j := 0) (by kernel_rfl))
                have x1 : aa.tmps[113]?.getD undef = .string (bS (fw [(nth in0 (nth me0 f.methods k).code m).op, (nth in0 (nth me0 f.methods k).code m).a, (nth in0 (nth me0 f.methods k).code m).b, (nth in0 (nth me0 f.methods k).code m).c])) := ev_of ((hh 113 (by decide)).at (j := 10) (by kernel_rfl))
                have hno := add_no (ca (ca (ca (ca (ca [N] (encL encCl f.classes)) (fh encMe f.methods k)) (encL encTy (nth me0 f.methods k).params)) (fw [(nth me0 f.methods k).ret.kind, (nth me0 f.methods k).ret.cls, (nth me0 f.methods k).stack, (nth me0 f.methods k).locs, (nth me0 f.methods k).regs, ((nth me0 f.methods k).code.length : Int)])) (fl encIn (nth me0 f.methods k).code m)) (fw [(nth in0 (nth me0 f.methods k).code m).op, (nth in0 (nth me0 f.methods k).code m).a, (nth in0 (nth me0 f.methods k).code m).b, (nth in0 (nth me0 f.methods k).code m).c]) (by have := HL2.out; simp only [ca, encL, List.length_append, List.length_cons, List.length_nil, wide_len] at this ⊢; omega)
                have hadd := bS_ca (ca (ca (ca (ca (ca [N] (encL encCl f.classes)) (fh encMe f.methods k)) (encL encTy (nth me0 f.methods k).params)) (fw [(nth me0 f.methods k).ret.kind, (nth me0 f.methods k).ret.cls, (nth me0 f.methods k).stack, (nth me0 f.methods k).locs, (nth me0 f.methods k).regs, ((nth me0 f.methods k).code.length : Int)])) (fl encIn (nth me0 f.methods k).code m)) (fw [(nth in0 (nth me0 f.methods k).code m).op, (nth in0 (nth me0 f.methods k).code m).a, (nth in0 (nth me0 f.methods k).code m).b, (nth in0 (nth me0 f.methods k).code m).c])
                clear hh
                go_simp
                exact ⟨Bl.refl _, rfl⟩
              case r17h12 =>
                intro aa ww hb hh
                have x0 : aa.tmps[9]?.getD undef = .pointer (some ⟨w3.heap.size, 0, none⟩) := ev_of ((hh 9 (by decide)).old (by kernel_rfl))
                clear hh
                go_simp
                exact ⟨Bl.refl _, rfl⟩
              case r17h13 =>
                intro aa ww hb hh
                have x0 : aa.tmps[115]?.getD undef = .pointer (some ⟨w3.heap.size, 4, none⟩) := ev_of ((hh 115 (by decide)).at (j := 12) (by kernel_rfl))
                have y0 := hb.cell D4.out
                clear hh
                go_simp
                exact ⟨Bl.refl _, rfl⟩
              case r17h14 =>
                intro aa ww hb hh
                have x0 : aa.tmps[116]?.getD undef = .int .i64 (nth in0 (nth me0 f.methods k).code m).n := ev_of ((hh 116 (by decide)).at (j := 13) (by kernel_rfl))
                clear hh
                go_simp
                exact ⟨Bl.refl _, (rwide_any (nth in0 (nth me0 f.methods k).code m).n _ X5.out.2.2.2.2).mono fun e w2 ⟨he, g2⟩ => ⟨_, he, g2, rfl⟩⟩
              case r17h15 =>
                intro aa ww hb hh
                have x0 : aa.tmps[114]?.getD undef = .string (bS (ca (ca (ca (ca (ca (ca [N] (encL encCl f.classes)) (fh encMe f.methods k)) (encL encTy (nth me0 f.methods k).params)) (fw [(nth me0 f.methods k).ret.kind, (nth me0 f.methods k).ret.cls, (nth me0 f.methods k).stack, (nth me0 f.methods k).locs, (nth me0 f.methods k).regs, ((nth me0 f.methods k).code.length : Int)])) (fl encIn (nth me0 f.methods k).code m)) (fw [(nth in0 (nth me0 f.methods k).code m).op, (nth in0 (nth me0 f.methods k).code m).a, (nth in0 (nth me0 f.methods k).code m).b, (nth in0 (nth me0 f.methods k).code m).c]))) := ev_of ((hh 114 (by decide)).at (j := 11) (by kernel_rfl))
                have x1 : aa.tmps[117]?.getD undef = .string (bS (wideL (nth in0 (nth me0 f.methods k).code m).n)) := ev_of ((hh 117 (by decide)).at (j := 14) (by kernel_rfl))
                have hno := add_no (ca (ca (ca (ca (ca (ca [N] (encL encCl f.classes)) (fh encMe f.methods k)) (encL encTy (nth me0 f.methods k).params)) (fw [(nth me0 f.methods k).ret.kind, (nth me0 f.methods k).ret.cls, (nth me0 f.methods k).stack, (nth me0 f.methods k).locs, (nth me0 f.methods k).regs, ((nth me0 f.methods k).code.length : Int)])) (fl encIn (nth me0 f.methods k).code m)) (fw [(nth in0 (nth me0 f.methods k).code m).op, (nth in0 (nth me0 f.methods k).code m).a, (nth in0 (nth me0 f.methods k).code m).b, (nth in0 (nth me0 f.methods k).code m).c])) (wideL (nth in0 (nth me0 f.methods k).code m).n) (by have := HL2.out; simp only [ca, encL, List.length_append, List.length_cons, List.length_nil, wide_len] at this ⊢; omega)
                have hadd := bS_ca (ca (ca (ca (ca (ca (ca [N] (encL encCl f.classes)) (fh encMe f.methods k)) (encL encTy (nth me0 f.methods k).params)) (fw [(nth me0 f.methods k).ret.kind, (nth me0 f.methods k).ret.cls, (nth me0 f.methods k).stack, (nth me0 f.methods k).locs, (nth me0 f.methods k).regs, ((nth me0 f.methods k).code.length : Int)])) (fl encIn (nth me0 f.methods k).code m)) (fw [(nth in0 (nth me0 f.methods k).code m).op, (nth in0 (nth me0 f.methods k).code m).a, (nth in0 (nth me0 f.methods k).code m).b, (nth in0 (nth me0 f.methods k).code m).c])) (wideL (nth in0 (nth me0 f.methods k).code m).n)
                clear hh
                go_simp
                exact ⟨Bl.refl _, rfl⟩
              case r17h16 =>
                intro aa ww hb hh
                have x0 : aa.tmps[9]?.getD undef = .pointer (some ⟨w3.heap.size, 0, none⟩) := ev_of ((hh 9 (by decide)).old (by kernel_rfl))
                clear hh
                go_simp
                exact ⟨Bl.refl _, rfl⟩
              case r17h17 =>
                intro aa ww hb hh
                have x0 : aa.tmps[119]?.getD undef = .pointer (some ⟨w3.heap.size, 5, none⟩) := ev_of ((hh 119 (by decide)).at (j := 16) (by kernel_rfl))
                have y0 := hb.cell D5.out
                clear hh
                go_simp
                exact ⟨Bl.refl _, rfl⟩
              case r17h18 =>
                intro aa ww hb hh
                have x0 : aa.tmps[120]?.getD undef = .slice Q (nth in0 (nth me0 f.methods k).code m).args.length qc := ev_of ((hh 120 (by decide)).at (j := 17) (by kernel_rfl))
                clear hh
                go_simp
                exact ⟨Bl.refl _, rfl⟩
              case r17h19 =>
                intro aa ww hb hh
                have x0 : aa.tmps[121]?.getD undef = .int .i64 ((nth in0 (nth me0 f.methods k).code m).args.length : Int) := ev_of ((hh 121 (by decide)).at (j := 18) (by kernel_rfl))
                clear hh
                go_simp
                exact ⟨(Bl.refl _).alloc _, _, rfl, ints_new ww [((nth in0 (nth me0 f.methods k).code m).args.length : Int)] _ rfl (by simp) (by simp; unfold I64; omega)⟩
              case r17h20 =>
                intro aa ww hb hh
                obtain ⟨g, x0, x1⟩ : Er [((nth in0 (nth me0 f.methods k).code m).args.length : Int)] (aa.eval (.tmp 122)) ww := (hh 122 (by decide)).at (j := 19) (by kernel_rfl)
                have x0 := ev_of x0
                clear hh
                go_simp
                exact ⟨Bl.refl _, (rnumbers_any [((nth in0 (nth me0 f.methods k).code m).args.length : Int)] _ _ _ x1 (enc_le_row _ (by simp))).mono fun e w2 ⟨he, g2⟩ => ⟨_, he, g2, by show _ = _; simp [encTy]⟩⟩
              case r17h21 =>
                intro aa ww hb hh
                have x0 : aa.tmps[118]?.getD undef = .string (bS (ca (ca (ca (ca (ca (ca (ca [N] (encL encCl f.classes)) (fh encMe f.methods k)) (encL encTy (nth me0 f.methods k).params)) (fw [(nth me0 f.methods k).ret.kind, (nth me0 f.methods k).ret.cls, (nth me0 f.methods k).stack, (nth me0 f.methods k).locs, (nth me0 f.methods k).regs, ((nth me0 f.methods k).code.length : Int)])) (fl encIn (nth me0 f.methods k).code m)) (fw [(nth in0 (nth me0 f.methods k).code m).op, (nth in0 (nth me0 f.methods k).code m).a, (nth in0 (nth me0 f.methods k).code m).b, (nth in0 (nth me0 f.methods k).code m).c])) (wideL (nth in0 (nth me0 f.methods k).code m).n))) := ev_of ((hh 118 (by decide)).at (j := 15) (by kernel_rfl))
                have x1 : aa.tmps[123]?.getD undef = .string (bS (wideL (nth in0 (nth me0 f.methods k).code m).args.length)) := ev_of ((hh 123 (by decide)).at (j := 20) (by kernel_rfl))
                have hno := add_no (ca (ca (ca (ca (ca (ca (ca [N] (encL encCl f.classes)) (fh encMe f.methods k)) (encL encTy (nth me0 f.methods k).params)) (fw [(nth me0 f.methods k).ret.kind, (nth me0 f.methods k).ret.cls, (nth me0 f.methods k).stack, (nth me0 f.methods k).locs, (nth me0 f.methods k).regs, ((nth me0 f.methods k).code.length : Int)])) (fl encIn (nth me0 f.methods k).code m)) (fw [(nth in0 (nth me0 f.methods k).code m).op, (nth in0 (nth me0 f.methods k).code m).a, (nth in0 (nth me0 f.methods k).code m).b, (nth in0 (nth me0 f.methods k).code m).c])) (wideL (nth in0 (nth me0 f.methods k).code m).n)) (wideL (nth in0 (nth me0 f.methods k).code m).args.length) (by have := HL2.out; simp only [ca, encL, List.length_append, List.length_cons, List.length_nil, wide_len] at this ⊢; omega)
                have hadd := bS_ca (ca (ca (ca (ca (ca (ca (ca [N] (encL encCl f.classes)) (fh encMe f.methods k)) (encL encTy (nth me0 f.methods k).params)) (fw [(nth me0 f.methods k).ret.kind, (nth me0 f.methods k).ret.cls, (nth me0 f.methods k).stack, (nth me0 f.methods k).locs, (nth me0 f.methods k).regs, ((nth me0 f.methods k).code.length : Int)])) (fl encIn (nth me0 f.methods k).code m)) (fw [(nth in0 (nth me0 f.methods k).code m).op, (nth in0 (nth me0 f.methods k).code m).a, (nth in0 (nth me0 f.methods k).code m).b, (nth in0 (nth me0 f.methods k).code m).c])) (wideL (nth in0 (nth me0 f.methods k).code m).n)) (wideL (nth in0 (nth me0 f.methods k).code m).args.length)
                clear hh
                go_simp
                exact ⟨Bl.refl _, rfl⟩
              case r17h22 =>
                intro aa ww hb hh
                have x0 : aa.tmps[9]?.getD undef = .pointer (some ⟨w3.heap.size, 0, none⟩) := ev_of ((hh 9 (by decide)).old (by kernel_rfl))
                clear hh
                go_simp
                exact ⟨Bl.refl _, rfl⟩
              case r17h23 =>
                intro aa ww hb hh
                have x0 : aa.tmps[125]?.getD undef = .pointer (some ⟨w3.heap.size, 5, none⟩) := ev_of ((hh 125 (by decide)).at (j := 22) (by kernel_rfl))
                have y0 := hb.cell D5.out
                clear hh
                go_simp
                exact ⟨Bl.refl _, rfl⟩
              case r17h24 =>
                intro aa ww hb hh
                have x0 : aa.tmps[126]?.getD undef = .slice Q (nth in0 (nth me0 f.methods k).code m).args.length qc := ev_of ((hh 126 (by decide)).at (j := 23) (by kernel_rfl))
                clear hh
                go_simp
                exact ⟨Bl.refl _, (rnumbers_any (nth in0 (nth me0 f.methods k).code m).args _ _ _ ((X6.out.bl W3.out).bl hb) (show (fw (nth in0 (nth me0 f.methods k).code m).args).length ≤ 100000000 from by have := HL2.out; simp only [ca, encL, List.length_append, List.length_cons, List.length_nil, wide_len] at this ⊢; omega)).mono fun e w2 ⟨he, g2⟩ => ⟨_, he, g2, rfl⟩⟩
              case r17h25 =>
                intro aa ww hb hh
                have x0 : aa.tmps[124]?.getD undef = .string (bS (ca (ca (ca (ca (ca (ca (ca (ca [N] (encL encCl f.classes)) (fh encMe f.methods k)) (encL encTy (nth me0 f.methods k).params)) (fw [(nth me0 f.methods k).ret.kind, (nth me0 f.methods k).ret.cls, (nth me0 f.methods k).stack, (nth me0 f.methods k).locs, (nth me0 f.methods k).regs, ((nth me0 f.methods k).code.length : Int)])) (fl encIn (nth me0 f.methods k).code m)) (fw [(nth in0 (nth me0 f.methods k).code m).op, (nth in0 (nth me0 f.methods k).code m).a, (nth in0 (nth me0 f.methods k).code m).b, (nth in0 (nth me0 f.methods k).code m).c])) (wideL (nth in0 (nth me0 f.methods k).code m).n)) (wideL (nth in0 (nth me0 f.methods k).code m).args.length))) := ev_of ((hh 124 (by decide)).at (j := 21) (by kernel_rfl))
                have x1 : aa.tmps[127]?.getD undef = .string (bS (fw (nth in0 (nth me0 f.methods k).code m).args)) := ev_of ((hh 127 (by decide)).at (j := 24) (by kernel_rfl))
                have hno := add_no (ca (ca (ca (ca (ca (ca (ca (ca [N] (encL encCl f.classes)) (fh encMe f.methods k)) (encL encTy (nth me0 f.methods k).params)) (fw [(nth me0 f.methods k).ret.kind, (nth me0 f.methods k).ret.cls, (nth me0 f.methods k).stack, (nth me0 f.methods k).locs, (nth me0 f.methods k).regs, ((nth me0 f.methods k).code.length : Int)])) (fl encIn (nth me0 f.methods k).code m)) (fw [(nth in0 (nth me0 f.methods k).code m).op, (nth in0 (nth me0 f.methods k).code m).a, (nth in0 (nth me0 f.methods k).code m).b, (nth in0 (nth me0 f.methods k).code m).c])) (wideL (nth in0 (nth me0 f.methods k).code m).n)) (wideL (nth in0 (nth me0 f.methods k).code m).args.length)) (fw (nth in0 (nth me0 f.methods k).code m).args) (by have := HL2.out; simp only [ca, encL, List.length_append, List.length_cons, List.length_nil, wide_len] at this ⊢; omega)
                have hadd := bS_ca (ca (ca (ca (ca (ca (ca (ca (ca [N] (encL encCl f.classes)) (fh encMe f.methods k)) (encL encTy (nth me0 f.methods k).params)) (fw [(nth me0 f.methods k).ret.kind, (nth me0 f.methods k).ret.cls, (nth me0 f.methods k).stack, (nth me0 f.methods k).locs, (nth me0 f.methods k).regs, ((nth me0 f.methods k).code.length : Int)])) (fl encIn (nth me0 f.methods k).code m)) (fw [(nth in0 (nth me0 f.methods k).code m).op, (nth in0 (nth me0 f.methods k).code m).a, (nth in0 (nth me0 f.methods k).code m).b, (nth in0 (nth me0 f.methods k).code m).c])) (wideL (nth in0 (nth me0 f.methods k).code m).n)) (wideL (nth in0 (nth me0 f.methods k).code m).args.length)) (fw (nth in0 (nth me0 f.methods k).code m).args)
                clear hh
                go_simp
                exact ⟨Bl.refl _, rfl⟩
              case r17h26 =>
                intro aa ww hb hh
                have x0 : aa.tmps[128]?.getD undef = .string (bS (ca (ca (ca (ca (ca (ca (ca (ca (ca [N] (encL encCl f.classes)) (fh encMe f.methods k)) (encL encTy (nth me0 f.methods k).params)) (fw [(nth me0 f.methods k).ret.kind, (nth me0 f.methods k).ret.cls, (nth me0 f.methods k).stack, (nth me0 f.methods k).locs, (nth me0 f.methods k).regs, ((nth me0 f.methods k).code.length : Int)])) (fl encIn (nth me0 f.methods k).code m)) (fw [(nth in0 (nth me0 f.methods k).code m).op, (nth in0 (nth me0 f.methods k).code m).a, (nth in0 (nth me0 f.methods k).code m).b, (nth in0 (nth me0 f.methods k).code m).c])) (wideL (nth in0 (nth me0 f.methods k).code m).n)) (wideL (nth in0 (nth me0 f.methods k).code m).args.length)) (fw (nth in0 (nth me0 f.methods k).code m).args))) := ev_of ((hh 128 (by decide)).at (j := 25) (by kernel_rfl))
                clear hh
                go_simp
                exact ⟨Bl.refl _, rfl⟩
              intro vs ww hb hh
              have y : vs 26 = .string (bS (ca (ca (ca (ca (ca (ca (ca (ca (ca [N] (encL encCl f.classes)) (fh encMe f.methods k)) (encL encTy (nth me0 f.methods k).params)) (fw [(nth me0 f.methods k).ret.kind, (nth me0 f.methods k).ret.cls, (nth me0 f.methods k).stack, (nth me0 f.methods k).locs, (nth me0 f.methods k).regs, ((nth me0 f.methods k).code.length : Int)])) (fl encIn (nth me0 f.methods k).code m)) (fw [(nth in0 (nth me0 f.methods k).code m).op, (nth in0 (nth me0 f.methods k).code m).a, (nth in0 (nth me0 f.methods k).code m).b, (nth in0 (nth me0 f.methods k).code m).c])) (wideL (nth in0 (nth me0 f.methods k).code m).n)) (wideL (nth in0 (nth me0 f.methods k).code m).args.length)) (fw (nth in0 (nth me0 f.methods k).code m).args))) := hh 26 (by decide)
              clear hh
              simp only [fillA, if_true, aZ]
              rw [y]
              have HB_ := hidW hb
              clear y hb
              go_wp2
              go_roundw
              case rel => exact ⟨m + 1, by omega, by go_num, by rw [HE2.out], (H3.out.trans W3.out).trans HB_.out⟩
              case measure => simp [intOf]; omega
            · obtain rfl : m = (nth me0 f.methods k).code.length := by omega
              have e7 := H3.out.cell (HB4.out.cell E7.out)
              have HX := hidW (fun (W W' : World) (hb : Bl (W.alloc (.cells #[.int .i64 ((nth me0 f.methods k).hands.length : Int)] 3)) W') => rnums_new [((nth me0 f.methods k).hands.length : Int)] W W' (by simp) (by simp; unfold I64; omega) hb 1 rfl)
              have HC := hidW (show ca (ca (ca (ca (ca (ca [N] (encL encCl f.classes)) (fh encMe f.methods k)) (encL encTy (nth me0 f.methods k).params)) (fw [(nth me0 f.methods k).ret.kind, (nth me0 f.methods k).ret.cls, (nth me0 f.methods k).stack, (nth me0 f.methods k).locs, (nth me0 f.methods k).regs, ((nth me0 f.methods k).code.length : Int)])) (fl encIn (nth me0 f.methods k).code (nth me0 f.methods k).code.length)) (wideL (nth me0 f.methods k).hands.length) = ca (ca (ca (ca (ca (ca [N] (encL encCl f.classes)) (fh encMe f.methods k)) (encL encTy (nth me0 f.methods k).params)) (fw [(nth me0 f.methods k).ret.kind, (nth me0 f.methods k).ret.cls, (nth me0 f.methods k).stack, (nth me0 f.methods k).locs, (nth me0 f.methods k).regs, ((nth me0 f.methods k).code.length : Int)])) (fl encIn (nth me0 f.methods k).code (nth me0 f.methods k).code.length)) (fh encHd (nth me0 f.methods k).hands 0) by rw [fh_0])
              have hno := add_no (ca (ca (ca (ca (ca [N] (encL encCl f.classes)) (fh encMe f.methods k)) (encL encTy (nth me0 f.methods k).params)) (fw [(nth me0 f.methods k).ret.kind, (nth me0 f.methods k).ret.cls, (nth me0 f.methods k).stack, (nth me0 f.methods k).locs, (nth me0 f.methods k).regs, ((nth me0 f.methods k).code.length : Int)])) (fl encIn (nth me0 f.methods k).code (nth me0 f.methods k).code.length)) (wideL (nth me0 f.methods k).hands.length) (by have t1 := HLA.out; simp only [ca, encL, List.length_append, wide_len] at t1 ⊢; omega)
              have hadd := bS_ca (ca (ca (ca (ca (ca [N] (encL encCl f.classes)) (fh encMe f.methods k)) (encL encTy (nth me0 f.methods k).params)) (fw [(nth me0 f.methods k).ret.kind, (nth me0 f.methods k).ret.cls, (nth me0 f.methods k).stack, (nth me0 f.methods k).locs, (nth me0 f.methods k).regs, ((nth me0 f.methods k).code.length : Int)])) (fl encIn (nth me0 f.methods k).code (nth me0 f.methods k).code.length)) (wideL (nth me0 f.methods k).hands.length)
              rw [HC.out] at hadd
              go_wp2_with (go_at_call 17; refine (HX.out w3 _ (Bl.refl _)).mono ?_; rintro e w6 ⟨he, g6⟩; rw [show ([((nth me0 f.methods k).hands.length : Int)].map wideL).flatten = wideL (nth me0 f.methods k).hands.length by simp] at he; subst he; have G6 := hidW (((Bl.refl w3).alloc _).trans g6); clear g6)
              have E7B := hidW (G6.out.cell e7)
              clear hadd hno e6 e7 HX
              go_loopw [4, 10] (fun s i wr => ∃ m : Nat, m ≤ (nth me0 f.methods k).hands.length ∧ i = .int .i64 (m : Int) ∧ s = .string (bS (ca (ca (ca (ca (ca (ca [N] (encL encCl f.classes)) (fh encMe f.methods k)) (encL encTy (nth me0 f.methods k).params)) (fw [(nth me0 f.methods k).ret.kind, (nth me0 f.methods k).ret.cls, (nth me0 f.methods k).stack, (nth me0 f.methods k).locs, (nth me0 f.methods k).regs, ((nth me0 f.methods k).code.length : Int)])) (fl encIn (nth me0 f.methods k).code (nth me0 f.methods k).code.length)) (fh encHd (nth me0 f.methods k).hands m))) ∧ Bl w6 wr) (fun _ i _ => (nth me0 f.methods k).hands.length - (intOf i).toNat)
              case atStart => exact ⟨0, by omega, rfl, rfl, Bl.refl _⟩
              case round =>
                obtain ⟨m, hmk, rfl, rfl, h7⟩ := hrel
                have H7 := hidW h7
                clear h7
                have e7 := H7.out.cell E7B.out
                by_cases hlt2 : m < (nth me0 f.methods k).hands.length
                · rcases I8.out.2.2.1.2 with h0 | ⟨cb, co, rfl, hi⟩
                  · omega
                  have GI := hidW ((GH.out.trans G6.out).trans H7.out)
                  obtain ⟨i0, i1, i2, i3, i4⟩ := hi m hlt2
                  have c0 := GI.out.cell i0
                  have c1 := GI.out.cell i1
                  have c2 := GI.out.cell i2
                  have c3 := GI.out.cell i3
                  have X5 := hidW i4
                  clear hi i0 i1 i2 i3 i4
                  have HE3 := hidW (show ([(nth hd0 (nth me0 f.methods k).hands m).fr, (nth hd0 (nth me0 f.methods k).hands m).til, (nth hd0 (nth me0 f.methods k).hands m).pc, (nth hd0 (nth me0 f.methods k).hands m).cls].map wideL).flatten = encHd (nth hd0 (nth me0 f.methods k).hands m) by simp [encHd])
                  have HX := hidW (show ∀ (p : Nat), p = wr.heap.size + 1 → Calls Try.prog 17 #[.slice (some ⟨p, 0, none⟩) 4 4] ((wr.alloc (.cells #[.int .i64 (nth hd0 (nth me0 f.methods k).hands m).fr, .int .i64 (nth hd0 (nth me0 f.methods k).hands m).til, .int .i64 (nth hd0 (nth me0 f.methods k).hands m).pc, .int .i64 (nth hd0 (nth me0 f.methods k).hands m).cls] 56)).alloc (.cells #[.int .i64 (nth hd0 (nth me0 f.methods k).hands m).fr, .int .i64 (nth hd0 (nth me0 f.methods k).hands m).til, .int .i64 (nth hd0 (nth me0 f.methods k).hands m).pc, .int .i64 (nth hd0 (nth me0 f.methods k).hands m).cls] 3)) (fun e w2 => e = .returned (.string (bS (encHd (nth hd0 (nth me0 f.methods k).hands m)))) ∧ Bl ((wr.alloc (.cells #[.int .i64 (nth hd0 (nth me0 f.methods k).hands m).fr, .int .i64 (nth hd0 (nth me0 f.methods k).hands m).til, .int .i64 (nth hd0 (nth me0 f.methods k).hands m).pc, .int .i64 (nth hd0 (nth me0 f.methods k).hands m).cls] 56)).alloc (.cells #[.int .i64 (nth hd0 (nth me0 f.methods k).hands m).fr, .int .i64 (nth hd0 (nth me0 f.methods k).hands m).til, .int .i64 (nth hd0 (nth me0 f.methods k).hands m).pc, .int .i64 (nth hd0 (nth me0 f.methods k).hands m).cls] 3)) w2) from fun p hp => by
                    have hq : p = (wr.alloc (.cells #[.int .i64 (nth hd0 (nth me0 f.methods k).hands m).fr, .int .i64 (nth hd0 (nth me0 f.methods k).hands m).til, .int .i64 (nth hd0 (nth me0 f.methods k).hands m).pc, .int .i64 (nth hd0 (nth me0 f.methods k).hands m).cls] 56)).heap.size := by rw [hp, World.size_alloc]
                    subst hq
                    rw [← HE3.out]
                    exact rnums_new [(nth hd0 (nth me0 f.methods k).hands m).fr, (nth hd0 (nth me0 f.methods k).hands m).til, (nth hd0 (nth me0 f.methods k).hands m).pc, (nth hd0 (nth me0 f.methods k).hands m).cls] _ _ (by simp) (by simp; exact X5.out) (Bl.refl _) 4 rfl)
                  have hno := add_no (ca (ca (ca (ca (ca (ca [N] (encL encCl f.classes)) (fh encMe f.methods k)) (encL encTy (nth me0 f.methods k).params)) (fw [(nth me0 f.methods k).ret.kind, (nth me0 f.methods k).ret.cls, (nth me0 f.methods k).stack, (nth me0 f.methods k).locs, (nth me0 f.methods k).regs, ((nth me0 f.methods k).code.length : Int)])) (fl encIn (nth me0 f.methods k).code (nth me0 f.methods k).code.length)) (fh encHd (nth me0 f.methods k).hands m)) (encHd (nth hd0 (nth me0 f.methods k).hands m)) (by
                    have t1 := HLA.out
                    have t2 := fh_item hd0 encHd (nth me0 f.methods k).hands m hlt2
                    simp only [ca, List.length_append] at t1 t2 ⊢
                    omega)
                  have hadd := bS_ca (ca (ca (ca (ca (ca (ca [N] (encL encCl f.classes)) (fh encMe f.methods k)) (encL encTy (nth me0 f.methods k).params)) (fw [(nth me0 f.methods k).ret.kind, (nth me0 f.methods k).ret.cls, (nth me0 f.methods k).stack, (nth me0 f.methods k).locs, (nth me0 f.methods k).regs, ((nth me0 f.methods k).code.length : Int)])) (fl encIn (nth me0 f.methods k).code (nth me0 f.methods k).code.length)) (fh encHd (nth me0 f.methods k).hands m)) (encHd (nth hd0 (nth me0 f.methods k).hands m))
                  have HE4 := hidW (show ca (ca (ca (ca (ca (ca (ca [N] (encL encCl f.classes)) (fh encMe f.methods k)) (encL encTy (nth me0 f.methods k).params)) (fw [(nth me0 f.methods k).ret.kind, (nth me0 f.methods k).ret.cls, (nth me0 f.methods k).stack, (nth me0 f.methods k).locs, (nth me0 f.methods k).regs, ((nth me0 f.methods k).code.length : Int)])) (fl encIn (nth me0 f.methods k).code (nth me0 f.methods k).code.length)) (fh encHd (nth me0 f.methods k).hands m)) (encHd (nth hd0 (nth me0 f.methods k).hands m)) = ca (ca (ca (ca (ca (ca [N] (encL encCl f.classes)) (fh encMe f.methods k)) (encL encTy (nth me0 f.methods k).params)) (fw [(nth me0 f.methods k).ret.kind, (nth me0 f.methods k).ret.cls, (nth me0 f.methods k).stack, (nth me0 f.methods k).locs, (nth me0 f.methods k).regs, ((nth me0 f.methods k).code.length : Int)])) (fl encIn (nth me0 f.methods k).code (nth me0 f.methods k).code.length)) (fh encHd (nth me0 f.methods k).hands (m + 1)) by
                    rw [← fh_succ hd0 encHd (nth me0 f.methods k).hands m hlt2]; simp only [ca, List.append_assoc])
                  rw [HE4.out] at hadd
                  go_wp2_with (go_at_call 17; refine (HX.out _ rfl).mono ?_; rintro e w8 ⟨rfl, g8⟩)
                  go_roundw
                  case rel => exact ⟨m + 1, by omega, by go_num, rfl, ((H7.out.alloc _).alloc _).trans g8⟩
                  case measure => simp [intOf]; omega
                · obtain rfl : m = (nth me0 f.methods k).hands.length := by omega
                  go_wp2
                  go_roundw
                  case rel => exact ⟨k + 1, by omega, by go_num, by rw [fh_all, HE.out], ((((H1.out.trans W2.out).trans HB4.out).trans H3.out).trans G6.out).trans H7.out⟩
                  case measure => simp [intOf]; omega
        · obtain rfl : k = f.methods.length := by omega
          go_wp2
          go_ret
          exact ⟨by rw [fh_all]; rfl, (HW.out.trans G1.out).trans H1.out⟩

end Go.Proofs.Ytgiiapenmjollab
