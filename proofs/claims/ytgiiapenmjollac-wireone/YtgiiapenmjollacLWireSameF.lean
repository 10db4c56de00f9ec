/-
  crosswalkref12.Same of one file that lies twice: true (the whole file).
-/
import Derived.Test.YtgiiapenmjollacLWireSame
import Derived.Test.YtgiiapenmjollacLSformForm
namespace Go.Proofs.Ytgiiapenmjollac
open Go.RowKit
set_option maxRecDepth 100000
set_option linter.unusedVariables false
set_option linter.unusedSimpArgs false

set_option maxHeartbeats 40000000 in
theorem same_any (f : Fi) (A B A' B' : Option Addr) (a b a' b' : Nat) (w : World) (hA : ClsAt w A f.classes) (hB : MesAt w B f.methods) (hA' : ClsAt w A' f.classes) (hB' : MesAt w B' f.methods) :
    Calls Try.prog 5 #[fiV f.classes.length f.methods.length A B a b, fiV f.classes.length f.methods.length A' B' a' b'] w fun e w' => e = .returned (.bool true) ∧ Bl w w' := by
  have hm := hB.1
  unfold maxLen at hm
  have HB0 := hidW ((FiBox.new w f.classes.length f.methods.length A B a b).bl ((Bl.refl _).alloc (fiO f.classes.length f.methods.length A' B' a' b')))
  have HB1 := hidW (FiBox.new (w.alloc (fiO f.classes.length f.methods.length A B a b)) f.classes.length f.methods.length A' B' a' b')
  have HW := hidW (((Bl.refl w).alloc (fiO f.classes.length f.methods.length A B a b)).alloc (fiO f.classes.length f.methods.length A' B' a' b'))
  have HA := hidW (hA.bl HW.out)
  have HA' := hidW (hA'.bl HW.out)
  have HM := hidW (hB.bl HW.out)
  have HM' := hidW (hB'.bl HW.out)
  clear hA hB hA' hB'
  go_enter Try.func5, Try.ntmps5
  go_wp2_with (go_at_call 9; refine (classes_same _ _ _ _ _ _ HA.out HA'.out).mono ?_; rintro e w1 ⟨rfl, g1⟩; obtain ⟨v0, v1⟩ := HB0.out.bl g1; obtain ⟨v2, v3⟩ := HB1.out.bl g1; simp only [Nat.zero_add, World.size_alloc] at v1 v2 v3; have G1 := hidW g1; clear g1)
  have V1 := hidW v1
  have V3 := hidW v3
  clear v0 v1 v2 v3
  go_loopw [5] (fun i wr => ∃ k : Nat, k ≤ f.methods.length ∧ i = .int .i64 (k : Int) ∧ Bl w1 wr) (fun i _ => f.methods.length - (intOf i).toNat)
  case atStart => exact ⟨0, by omega, rfl, Bl.refl _⟩
  case round =>
    obtain ⟨k, hk, rfl, h1⟩ := hrel
    obtain ⟨w0, hw0⟩ : ∃ w0, w0 = wr := ⟨wr, rfl⟩
    subst hw0
    have H1 := hidW h1
    clear h1
    have x1 := H1.out.cell V1.out
    have x3 := H1.out.cell V3.out
    by_cases hlt : k < f.methods.length
    · rcases HM.out.2 with h0 | ⟨p, q, rfl, hi⟩
      · omega
      rcases HM'.out.2 with h0 | ⟨p', q', rfl, hj⟩
      · omega
      obtain ⟨P, C, K, pp, pc, pk, i0, i1, i2, i3, i4, i5, i6, i7, i8⟩ := hi k hlt
      obtain ⟨P', C', K', pp', pc', pk', j0, j1, j2, j3, j4, j5, j6, j7, j8⟩ := hj k hlt
      have GG := hidW (G1.out.trans H1.out)
      have c0 := GG.out.cell i0
      have d0 := ((Bl.refl w0).alloc (.cells #[.slice P (nth me0 f.methods k).params.length pp, .int .i64 (nth me0 f.methods k).ret.kind, .int .i64 (nth me0 f.methods k).ret.cls, .int .i64 (nth me0 f.methods k).stack, .int .i64 (nth me0 f.methods k).locs, .int .i64 (nth me0 f.methods k).regs, .slice C (nth me0 f.methods k).code.length pc, .slice K (nth me0 f.methods k).hands.length pk] 40)).cell (GG.out.cell j0)
      have c1 := GG.out.cell i1
      have d1 := ((Bl.refl w0).alloc (.cells #[.slice P (nth me0 f.methods k).params.length pp, .int .i64 (nth me0 f.methods k).ret.kind, .int .i64 (nth me0 f.methods k).ret.cls, .int .i64 (nth me0 f.methods k).stack, .int .i64 (nth me0 f.methods k).locs, .int .i64 (nth me0 f.methods k).regs, .slice C (nth me0 f.methods k).code.length pc, .slice K (nth me0 f.methods k).hands.length pk] 40)).cell (GG.out.cell j1)
      have c2 := GG.out.cell i2
      have d2 := ((Bl.refl w0).alloc (.cells #[.slice P (nth me0 f.methods k).params.length pp, .int .i64 (nth me0 f.methods k).ret.kind, .int .i64 (nth me0 f.methods k).ret.cls, .int .i64 (nth me0 f.methods k).stack, .int .i64 (nth me0 f.methods k).locs, .int .i64 (nth me0 f.methods k).regs, .slice C (nth me0 f.methods k).code.length pc, .slice K (nth me0 f.methods k).hands.length pk] 40)).cell (GG.out.cell j2)
      have c3 := GG.out.cell i3
      have d3 := ((Bl.refl w0).alloc (.cells #[.slice P (nth me0 f.methods k).params.length pp, .int .i64 (nth me0 f.methods k).ret.kind, .int .i64 (nth me0 f.methods k).ret.cls, .int .i64 (nth me0 f.methods k).stack, .int .i64 (nth me0 f.methods k).locs, .int .i64 (nth me0 f.methods k).regs, .slice C (nth me0 f.methods k).code.length pc, .slice K (nth me0 f.methods k).hands.length pk] 40)).cell (GG.out.cell j3)
      have c4 := GG.out.cell i4
      have d4 := ((Bl.refl w0).alloc (.cells #[.slice P (nth me0 f.methods k).params.length pp, .int .i64 (nth me0 f.methods k).ret.kind, .int .i64 (nth me0 f.methods k).ret.cls, .int .i64 (nth me0 f.methods k).stack, .int .i64 (nth me0 f.methods k).locs, .int .i64 (nth me0 f.methods k).regs, .slice C (nth me0 f.methods k).code.length pc, .slice K (nth me0 f.methods k).hands.length pk] 40)).cell (GG.out.cell j4)
      have c5 := GG.out.cell i5
      have d5 := ((Bl.refl w0).alloc (.cells #[.slice P (nth me0 f.methods k).params.length pp, .int .i64 (nth me0 f.methods k).ret.kind, .int .i64 (nth me0 f.methods k).ret.cls, .int .i64 (nth me0 f.methods k).stack, .int .i64 (nth me0 f.methods k).locs, .int .i64 (nth me0 f.methods k).regs, .slice C (nth me0 f.methods k).code.length pc, .slice K (nth me0 f.methods k).hands.length pk] 40)).cell (GG.out.cell j5)
      have c6 := GG.out.cell i6
      have d6 := ((Bl.refl w0).alloc (.cells #[.slice P (nth me0 f.methods k).params.length pp, .int .i64 (nth me0 f.methods k).ret.kind, .int .i64 (nth me0 f.methods k).ret.cls, .int .i64 (nth me0 f.methods k).stack, .int .i64 (nth me0 f.methods k).locs, .int .i64 (nth me0 f.methods k).regs, .slice C (nth me0 f.methods k).code.length pc, .slice K (nth me0 f.methods k).hands.length pk] 40)).cell (GG.out.cell j6)
      have c7 := GG.out.cell i7
      have d7 := ((Bl.refl w0).alloc (.cells #[.slice P (nth me0 f.methods k).params.length pp, .int .i64 (nth me0 f.methods k).ret.kind, .int .i64 (nth me0 f.methods k).ret.cls, .int .i64 (nth me0 f.methods k).stack, .int .i64 (nth me0 f.methods k).locs, .int .i64 (nth me0 f.methods k).regs, .slice C (nth me0 f.methods k).code.length pc, .slice K (nth me0 f.methods k).hands.length pk] 40)).cell (GG.out.cell j7)
      have I8 := hidW (i8.bl GG.out)
      have J8 := hidW (j8.bl GG.out)
      have X1 := hidW x1
      have X3 := hidW x3
      clear hi hj i0 i1 i2 i3 i4 i5 i6 i7 i8 j0 j1 j2 j3 j4 j5 j6 j7 j8
      have hcm := I8.out.2.1.1
      have hhm := I8.out.2.2.1.1
      unfold maxLen at hcm hhm
      have E0 := hidW (((Bl.refl (w0.alloc (.cells #[.slice P (nth me0 f.methods k).params.length pp, .int .i64 (nth me0 f.methods k).ret.kind, .int .i64 (nth me0 f.methods k).ret.cls, .int .i64 (nth me0 f.methods k).stack, .int .i64 (nth me0 f.methods k).locs, .int .i64 (nth me0 f.methods k).regs, .slice C (nth me0 f.methods k).code.length pc, .slice K (nth me0 f.methods k).hands.length pk] 40))).alloc (.cells #[.slice P' (nth me0 f.methods k).params.length pp', .int .i64 (nth me0 f.methods k).ret.kind, .int .i64 (nth me0 f.methods k).ret.cls, .int .i64 (nth me0 f.methods k).stack, .int .i64 (nth me0 f.methods k).locs, .int .i64 (nth me0 f.methods k).regs, .slice C' (nth me0 f.methods k).code.length pc', .slice K' (nth me0 f.methods k).hands.length pk'] 40)).cell (cell_of_new (w := w0) (cs := #[.slice P (nth me0 f.methods k).params.length pp, .int .i64 (nth me0 f.methods k).ret.kind, .int .i64 (nth me0 f.methods k).ret.cls, .int .i64 (nth me0 f.methods k).stack, .int .i64 (nth me0 f.methods k).locs, .int .i64 (nth me0 f.methods k).regs, .slice C (nth me0 f.methods k).code.length pc, .slice K (nth me0 f.methods k).hands.length pk]) (t := 40) (o := 0) rfl))
      have D0 := hidW (cell_of_new (w := w0.alloc (.cells #[.slice P (nth me0 f.methods k).params.length pp, .int .i64 (nth me0 f.methods k).ret.kind, .int .i64 (nth me0 f.methods k).ret.cls, .int .i64 (nth me0 f.methods k).stack, .int .i64 (nth me0 f.methods k).locs, .int .i64 (nth me0 f.methods k).regs, .slice C (nth me0 f.methods k).code.length pc, .slice K (nth me0 f.methods k).hands.length pk] 40)) (cs := #[.slice P' (nth me0 f.methods k).params.length pp', .int .i64 (nth me0 f.methods k).ret.kind, .int .i64 (nth me0 f.methods k).ret.cls, .int .i64 (nth me0 f.methods k).stack, .int .i64 (nth me0 f.methods k).locs, .int .i64 (nth me0 f.methods k).regs, .slice C' (nth me0 f.methods k).code.length pc', .slice K' (nth me0 f.methods k).hands.length pk']) (t := 40) (o := 0) rfl)
      simp only [World.size_alloc] at D0
      have E1 := hidW (((Bl.refl (w0.alloc (.cells #[.slice P (nth me0 f.methods k).params.length pp, .int .i64 (nth me0 f.methods k).ret.kind, .int .i64 (nth me0 f.methods k).ret.cls, .int .i64 (nth me0 f.methods k).stack, .int .i64 (nth me0 f.methods k).locs, .int .i64 (nth me0 f.methods k).regs, .slice C (nth me0 f.methods k).code.length pc, .slice K (nth me0 f.methods k).hands.length pk] 40))).alloc (.cells #[.slice P' (nth me0 f.methods k).params.length pp', .int .i64 (nth me0 f.methods k).ret.kind, .int .i64 (nth me0 f.methods k).ret.cls, .int .i64 (nth me0 f.methods k).stack, .int .i64 (nth me0 f.methods k).locs, .int .i64 (nth me0 f.methods k).regs, .slice C' (nth me0 f.methods k).code.length pc', .slice K' (nth me0 f.methods k).hands.length pk'] 40)).cell (cell_of_new (w := w0) (cs := #[.slice P (nth me0 f.methods k).params.length pp, .int .i64 (nth me0 f.methods k).ret.kind, .int .i64 (nth me0 f.methods k).ret.cls, .int .i64 (nth me0 f.methods k).stack, .int .i64 (nth me0 f.methods k).locs, .int .i64 (nth me0 f.methods k).regs, .slice C (nth me0 f.methods k).code.length pc, .slice K (nth me0 f.methods k).hands.length pk]) (t := 40) (o := 1) rfl))
      have D1 := hidW (cell_of_new (w := w0.alloc (.cells #[.slice P (nth me0 f.methods k).params.length pp, .int .i64 (nth me0 f.methods k).ret.kind, .int .i64 (nth me0 f.methods k).ret.cls, .int .i64 (nth me0 f.methods k).stack, .int .i64 (nth me0 f.methods k).locs, .int .i64 (nth me0 f.methods k).regs, .slice C (nth me0 f.methods k).code.length pc, .slice K (nth me0 f.methods k).hands.length pk] 40)) (cs := #[.slice P' (nth me0 f.methods k).params.length pp', .int .i64 (nth me0 f.methods k).ret.kind, .int .i64 (nth me0 f.methods k).ret.cls, .int .i64 (nth me0 f.methods k).stack, .int .i64 (nth me0 f.methods k).locs, .int .i64 (nth me0 f.methods k).regs, .slice C' (nth me0 f.methods k).code.length pc', .slice K' (nth me0 f.methods k).hands.length pk']) (t := 40) (o := 1) rfl)
      simp only [World.size_alloc] at D1
      have E2 := hidW (((Bl.refl (w0.alloc (.cells #[.slice P (nth me0 f.methods k).params.length pp, .int .i64 (nth me0 f.methods k).ret.kind, .int .i64 (nth me0 f.methods k).ret.cls, .int .i64 (nth me0 f.methods k).stack, .int .i64 (nth me0 f.methods k).locs, .int .i64 (nth me0 f.methods k).regs, .slice C (nth me0 f.methods k).code.length pc, .slice K (nth me0 f.methods k).hands.length pk] 40))).alloc (.cells #[.slice P' (nth me0 f.methods k).params.length pp', .int .i64 (nth me0 f.methods k).ret.kind, .int .i64 (nth me0 f.methods k).ret.cls, .int .i64 (nth me0 f.methods k).stack, .int .i64 (nth me0 f.methods k).locs, .int .i64 (nth me0 f.methods k).regs, .slice C' (nth me0 f.methods k).code.length pc', .slice K' (nth me0 f.methods k).hands.length pk'] 40)).cell (cell_of_new (w := w0) (cs := #[.slice P (nth me0 f.methods k).params.length pp, .int .i64 (nth me0 f.methods k).ret.kind, .int .i64 (nth me0 f.methods k).ret.cls, .int .i64 (nth me0 f.methods k).stack, .int .i64 (nth me0 f.methods k).locs, .int .i64 (nth me0 f.methods k).regs, .slice C (nth me0 f.methods k).code.length pc, .slice K (nth me0 f.methods k).hands.length pk]) (t := 40) (o := 2) rfl))
      have D2 := hidW (cell_of_new (w := w0.alloc (.cells #[.slice P (nth me0 f.methods k).params.length pp, .int .i64 (nth me0 f.methods k).ret.kind, .int .i64 (nth me0 f.methods k).ret.cls, .int .i64 (nth me0 f.methods k).stack, .int .i64 (nth me0 f.methods k).locs, .int .i64 (nth me0 f.methods k).regs, .slice C (nth me0 f.methods k).code.length pc, .slice K (nth me0 f.methods k).hands.length pk] 40)) (cs := #[.slice P' (nth me0 f.methods k).params.length pp', .int .i64 (nth me0 f.methods k).ret.kind, .int .i64 (nth me0 f.methods k).ret.cls, .int .i64 (nth me0 f.methods k).stack, .int .i64 (nth me0 f.methods k).locs, .int .i64 (nth me0 f.methods k).regs, .slice C' (nth me0 f.methods k).code.length pc', .slice K' (nth me0 f.methods k).hands.length pk']) (t := 40) (o := 2) rfl)
      simp only [World.size_alloc] at D2
      have E3 := hidW (((Bl.refl (w0.alloc (.cells #[.slice P (nth me0 f.methods k).params.length pp, .int .i64 (nth me0 f.methods k).ret.kind, .int .i64 (nth me0 f.methods k).ret.cls, .int .i64 (nth me0 f.methods k).stack, .int .i64 (nth me0 f.methods k).locs, .int .i64 (nth me0 f.methods k).regs, .slice C (nth me0 f.methods k).code.length pc, .slice K (nth me0 f.methods k).hands.length pk] 40))).alloc (.cells #[.slice P' (nth me0 f.methods k).params.length pp', .int .i64 (nth me0 f.methods k).ret.kind, .int .i64 (nth me0 f.methods k).ret.cls, .int .i64 (nth me0 f.methods k).stack, .int .i64 (nth me0 f.methods k).locs, .int .i64 (nth me0 f.methods k).regs, .slice C' (nth me0 f.methods k).code.length pc', .slice K' (nth me0 f.methods k).hands.length pk'] 40)).cell (cell_of_new (w := w0) (cs := #[.slice P (nth me0 f.methods k).params.length pp, .int .i64 (nth me0 f.methods k).ret.kind, .int .i64 (nth me0 f.methods k).ret.cls, .int .i64 (nth me0 f.methods k).stack, .int .i64 (nth me0 f.methods k).locs, .int .i64 (nth me0 f.methods k).regs, .slice C (nth me0 f.methods k).code.length pc, .slice K (nth me0 f.methods k).hands.length pk]) (t := 40) (o := 3) rfl))
      have D3 := hidW (cell_of_new (w := w0.alloc (.cells #[.slice P (nth me0 f.methods k).params.length pp, .int .i64 (nth me0 f.methods k).ret.kind, .int .i64 (nth me0 f.methods k).ret.cls, .int .i64 (nth me0 f.methods k).stack, .int .i64 (nth me0 f.methods k).locs, .int .i64 (nth me0 f.methods k).regs, .slice C (nth me0 f.methods k).code.length pc, .slice K (nth me0 f.methods k).hands.length pk] 40)) (cs := #[.slice P' (nth me0 f.methods k).params.length pp', .int .i64 (nth me0 f.methods k).ret.kind, .int .i64 (nth me0 f.methods k).ret.cls, .int .i64 (nth me0 f.methods k).stack, .int .i64 (nth me0 f.methods k).locs, .int .i64 (nth me0 f.methods k).regs, .slice C' (nth me0 f.methods k).code.length pc', .slice K' (nth me0 f.methods k).hands.length pk']) (t := 40) (o := 3) rfl)
      simp only [World.size_alloc] at D3
      have E4 := hidW (((Bl.refl (w0.alloc (.cells #[.slice P (nth me0 f.methods k).params.length pp, .int .i64 (nth me0 f.methods k).ret.kind, .int .i64 (nth me0 f.methods k).ret.cls, .int .i64 (nth me0 f.methods k).stack, .int .i64 (nth me0 f.methods k).locs, .int .i64 (nth me0 f.methods k).regs, .slice C (nth me0 f.methods k).code.length pc, .slice K (nth me0 f.methods k).hands.length pk] 40))).alloc (.cells #[.slice P' (nth me0 f.methods k).params.length pp', .int .i64 (nth me0 f.methods k).ret.kind, .int .i64 (nth me0 f.methods k).ret.cls, .int .i64 (nth me0 f.methods k).stack, .int .i64 (nth me0 f.methods k).locs, .int .i64 (nth me0 f.methods k).regs, .slice C' (nth me0 f.methods k).code.length pc', .slice K' (nth me0 f.methods k).hands.length pk'] 40)).cell (cell_of_new (w := w0) (cs := #[.slice P (nth me0 f.methods k).params.length pp, .int .i64 (nth me0 f.methods k).ret.kind, .int .i64 (nth me0 f.methods k).ret.cls, .int .i64 (nth me0 f.methods k).stack, .int .i64 (nth me0 f.methods k).locs, .int .i64 (nth me0 f.methods k).regs, .slice C (nth me0 f.methods k).code.length pc, .slice K (nth me0 f.methods k).hands.length pk]) (t := 40) (o := 4) rfl))
      have D4 := hidW (cell_of_new (w := w0.alloc (.cells #[.slice P (nth me0 f.methods k).params.length pp, .int .i64 (nth me0 f.methods k).ret.kind, .int .i64 (nth me0 f.methods k).ret.cls, .int .i64 (nth me0 f.methods k).stack, .int .i64 (nth me0 f.methods k).locs, .int .i64 (nth me0 f.methods k).regs, .slice C (nth me0 f.methods k).code.length pc, .slice K (nth me0 f.methods k).hands.length pk] 40)) (cs := #[.slice P' (nth me0 f.methods k).params.length pp', .int .i64 (nth me0 f.methods k).ret.kind, .int .i64 (nth me0 f.methods k).ret.cls, .int .i64 (nth me0 f.methods k).stack, .int .i64 (nth me0 f.methods k).locs, .int .i64 (nth me0 f.methods k).regs, .slice C' (nth me0 f.methods k).code.length pc', .slice K' (nth me0 f.methods k).hands.length pk']) (t := 40) (o := 4) rfl)
      simp only [World.size_alloc] at D4
      have E5 := hidW (((Bl.refl (w0.alloc (.cells #[.slice P (nth me0 f.methods k).params.length pp, .int .i64 (nth me0 f.methods k).ret.kind, .int .i64 (nth me0 f.methods k).ret.cls, .int .i64 (nth me0 f.methods k).stack, .int .i64 (nth me0 f.methods k).locs, .int .i64 (nth me0 f.methods k).regs, .slice C (nth me0 f.methods k).code.length pc, .slice K (nth me0 f.methods k).hands.length pk] 40))).alloc (.cells #[.slice P' (nth me0 f.methods k).params.length pp', .int .i64 (nth me0 f.methods k).ret.kind, .int .i64 (nth me0 f.methods k).ret.cls, .int .i64 (nth me0 f.methods k).stack, .int .i64 (nth me0 f.methods k).locs, .int .i64 (nth me0 f.methods k).regs, .slice C' (nth me0 f.methods k).code.length pc', .slice K' (nth me0 f.methods k).hands.length pk'] 40)).cell (cell_of_new (w := w0) (cs := #[.slice P (nth me0 f.methods k).params.length pp, .int .i64 (nth me0 f.methods k).ret.kind, .int .i64 (nth me0 f.methods k).ret.cls, .int .i64 (nth me0 f.methods k).stack, .int .i64 (nth me0 f.methods k).locs, .int .i64 (nth me0 f.methods k).regs, .slice C (nth me0 f.methods k).code.length pc, .slice K (nth me0 f.methods k).hands.length pk]) (t := 40) (o := 5) rfl))
      have D5 := hidW (cell_of_new (w := w0.alloc (.cells #[.slice P (nth me0 f.methods k).params.length pp, .int .i64 (nth me0 f.methods k).ret.kind, .int .i64 (nth me0 f.methods k).ret.cls, .int .i64 (nth me0 f.methods k).stack, .int .i64 (nth me0 f.methods k).locs, .int .i64 (nth me0 f.methods k).regs, .slice C (nth me0 f.methods k).code.length pc, .slice K (nth me0 f.methods k).hands.length pk] 40)) (cs := #[.slice P' (nth me0 f.methods k).params.length pp', .int .i64 (nth me0 f.methods k).ret.kind, .int .i64 (nth me0 f.methods k).ret.cls, .int .i64 (nth me0 f.methods k).stack, .int .i64 (nth me0 f.methods k).locs, .int .i64 (nth me0 f.methods k).regs, .slice C' (nth me0 f.methods k).code.length pc', .slice K' (nth me0 f.methods k).hands.length pk']) (t := 40) (o := 5) rfl)
      simp only [World.size_alloc] at D5
      have E6 := hidW (((Bl.refl (w0.alloc (.cells #[.slice P (nth me0 f.methods k).params.length pp, .int .i64 (nth me0 f.methods k).ret.kind, .int .i64 (nth me0 f.methods k).ret.cls, .int .i64 (nth me0 f.methods k).stack, .int .i64 (nth me0 f.methods k).locs, .int .i64 (nth me0 f.methods k).regs, .slice C (nth me0 f.methods k).code.length pc, .slice K (nth me0 f.methods k).hands.length pk] 40))).alloc (.cells #[.slice P' (nth me0 f.methods k).params.length pp', .int .i64 (nth me0 f.methods k).ret.kind, .int .i64 (nth me0 f.methods k).ret.cls, .int .i64 (nth me0 f.methods k).stack, .int .i64 (nth me0 f.methods k).locs, .int .i64 (nth me0 f.methods k).regs, .slice C' (nth me0 f.methods k).code.length pc', .slice K' (nth me0 f.methods k).hands.length pk'] 40)).cell (cell_of_new (w := w0) (cs := #[.slice P (nth me0 f.methods k).params.length pp, .int .i64 (nth me0 f.methods k).ret.kind, .int .i64 (nth me0 f.methods k).ret.cls, .int .i64 (nth me0 f.methods k).stack, .int .i64 (nth me0 f.methods k).locs, .int .i64 (nth me0 f.methods k).regs, .slice C (nth me0 f.methods k).code.length pc, .slice K (nth me0 f.methods k).hands.length pk]) (t := 40) (o := 6) rfl))
      have D6 := hidW (cell_of_new (w := w0.alloc (.cells #[.slice P (nth me0 f.methods k).params.length pp, .int .i64 (nth me0 f.methods k).ret.kind, .int .i64 (nth me0 f.methods k).ret.cls, .int .i64 (nth me0 f.methods k).stack, .int .i64 (nth me0 f.methods k).locs, .int .i64 (nth me0 f.methods k).regs, .slice C (nth me0 f.methods k).code.length pc, .slice K (nth me0 f.methods k).hands.length pk] 40)) (cs := #[.slice P' (nth me0 f.methods k).params.length pp', .int .i64 (nth me0 f.methods k).ret.kind, .int .i64 (nth me0 f.methods k).ret.cls, .int .i64 (nth me0 f.methods k).stack, .int .i64 (nth me0 f.methods k).locs, .int .i64 (nth me0 f.methods k).regs, .slice C' (nth me0 f.methods k).code.length pc', .slice K' (nth me0 f.methods k).hands.length pk']) (t := 40) (o := 6) rfl)
      simp only [World.size_alloc] at D6
      have E7 := hidW (((Bl.refl (w0.alloc (.cells #[.slice P (nth me0 f.methods k).params.length pp, .int .i64 (nth me0 f.methods k).ret.kind, .int .i64 (nth me0 f.methods k).ret.cls, .int .i64 (nth me0 f.methods k).stack, .int .i64 (nth me0 f.methods k).locs, .int .i64 (nth me0 f.methods k).regs, .slice C (nth me0 f.methods k).code.length pc, .slice K (nth me0 f.methods k).hands.length pk] 40))).alloc (.cells #[.slice P' (nth me0 f.methods k).params.length pp', .int .i64 (nth me0 f.methods k).ret.kind, .int .i64 (nth me0 f.methods k).ret.cls, .int .i64 (nth me0 f.methods k).stack, .int .i64 (nth me0 f.methods k).locs, .int .i64 (nth me0 f.methods k).regs, .slice C' (nth me0 f.methods k).code.length pc', .slice K' (nth me0 f.methods k).hands.length pk'] 40)).cell (cell_of_new (w := w0) (cs := #[.slice P (nth me0 f.methods k).params.length pp, .int .i64 (nth me0 f.methods k).ret.kind, .int .i64 (nth me0 f.methods k).ret.cls, .int .i64 (nth me0 f.methods k).stack, .int .i64 (nth me0 f.methods k).locs, .int .i64 (nth me0 f.methods k).regs, .slice C (nth me0 f.methods k).code.length pc, .slice K (nth me0 f.methods k).hands.length pk]) (t := 40) (o := 7) rfl))
      have D7 := hidW (cell_of_new (w := w0.alloc (.cells #[.slice P (nth me0 f.methods k).params.length pp, .int .i64 (nth me0 f.methods k).ret.kind, .int .i64 (nth me0 f.methods k).ret.cls, .int .i64 (nth me0 f.methods k).stack, .int .i64 (nth me0 f.methods k).locs, .int .i64 (nth me0 f.methods k).regs, .slice C (nth me0 f.methods k).code.length pc, .slice K (nth me0 f.methods k).hands.length pk] 40)) (cs := #[.slice P' (nth me0 f.methods k).params.length pp', .int .i64 (nth me0 f.methods k).ret.kind, .int .i64 (nth me0 f.methods k).ret.cls, .int .i64 (nth me0 f.methods k).stack, .int .i64 (nth me0 f.methods k).locs, .int .i64 (nth me0 f.methods k).regs, .slice C' (nth me0 f.methods k).code.length pc', .slice K' (nth me0 f.methods k).hands.length pk']) (t := 40) (o := 7) rfl)
      simp only [World.size_alloc] at D7
      have y1 := ((((Bl.refl w0).alloc (.cells #[.slice P (nth me0 f.methods k).params.length pp, .int .i64 (nth me0 f.methods k).ret.kind, .int .i64 (nth me0 f.methods k).ret.cls, .int .i64 (nth me0 f.methods k).stack, .int .i64 (nth me0 f.methods k).locs, .int .i64 (nth me0 f.methods k).regs, .slice C (nth me0 f.methods k).code.length pc, .slice K (nth me0 f.methods k).hands.length pk] 40)).alloc (.cells #[.slice P' (nth me0 f.methods k).params.length pp', .int .i64 (nth me0 f.methods k).ret.kind, .int .i64 (nth me0 f.methods k).ret.cls, .int .i64 (nth me0 f.methods k).stack, .int .i64 (nth me0 f.methods k).locs, .int .i64 (nth me0 f.methods k).regs, .slice C' (nth me0 f.methods k).code.length pc', .slice K' (nth me0 f.methods k).hands.length pk'] 40)).cell X1.out)
      have y3 := ((((Bl.refl w0).alloc (.cells #[.slice P (nth me0 f.methods k).params.length pp, .int .i64 (nth me0 f.methods k).ret.kind, .int .i64 (nth me0 f.methods k).ret.cls, .int .i64 (nth me0 f.methods k).stack, .int .i64 (nth me0 f.methods k).locs, .int .i64 (nth me0 f.methods k).regs, .slice C (nth me0 f.methods k).code.length pc, .slice K (nth me0 f.methods k).hands.length pk] 40))).cell X3.out)
      have W2 := hidW (((Bl.refl w0).alloc (.cells #[.slice P (nth me0 f.methods k).params.length pp, .int .i64 (nth me0 f.methods k).ret.kind, .int .i64 (nth me0 f.methods k).ret.cls, .int .i64 (nth me0 f.methods k).stack, .int .i64 (nth me0 f.methods k).locs, .int .i64 (nth me0 f.methods k).regs, .slice C (nth me0 f.methods k).code.length pc, .slice K (nth me0 f.methods k).hands.length pk] 40)).alloc (.cells #[.slice P' (nth me0 f.methods k).params.length pp', .int .i64 (nth me0 f.methods k).ret.kind, .int .i64 (nth me0 f.methods k).ret.cls, .int .i64 (nth me0 f.methods k).stack, .int .i64 (nth me0 f.methods k).locs, .int .i64 (nth me0 f.methods k).regs, .slice C' (nth me0 f.methods k).code.length pc', .slice K' (nth me0 f.methods k).hands.length pk'] 40))
      have heq := eq_ty (nth me0 f.methods k).ret.kind (nth me0 f.methods k).ret.cls
      go_wp2_with (go_at_call 10; refine (types_same _ _ _ _ _ _ (I8.out.1.bl W2.out) (J8.out.1.bl W2.out)).mono ?_; rintro e w2 ⟨rfl, g2⟩; have G2 := hidW g2; clear g2; have e0 := G2.out.cell E0.out; have f0 := G2.out.cell D0.out; have e1 := G2.out.cell E1.out; have f1 := G2.out.cell D1.out; have e2 := G2.out.cell E2.out; have f2 := G2.out.cell D2.out; have e3 := G2.out.cell E3.out; have f3 := G2.out.cell D3.out; have e4 := G2.out.cell E4.out; have f4 := G2.out.cell D4.out; have e5 := G2.out.cell E5.out; have f5 := G2.out.cell D5.out; have e6 := G2.out.cell E6.out; have f6 := G2.out.cell D6.out; have e7 := G2.out.cell E7.out; have f7 := G2.out.cell D7.out; clear heq)
      clear c0 c1 c2 c3 c4 c5 c6 c7 d0 d1 d2 d3 d4 d5 d6 d7 e0 e1 e2 e3 e4 e5 e7 f0 f1 f2 f3 f4 f5 f7 x1 x3 y1 y3
      have E6 := hidW e6
      have F6 := hidW f6
      clear e6 f6
      go_loopw [8] (fun i wr => ∃ m : Nat, m ≤ (nth me0 f.methods k).code.length ∧ i = .int .i64 (m : Int) ∧ Bl w2 wr) (fun i _ => (nth me0 f.methods k).code.length - (intOf i).toNat)
      case atStart => exact ⟨0, by omega, rfl, Bl.refl _⟩
      case round =>
        obtain ⟨m, hmk, rfl, h2⟩ := hrel
        have H2 := hidW h2
        clear h2
        have e6 := H2.out.cell E6.out
        have f6 := H2.out.cell F6.out
        by_cases hlt2 : m < (nth me0 f.methods k).code.length
        · rcases I8.out.2.1.2 with h0 | ⟨cb, co, rfl, hi⟩
          · omega
          rcases J8.out.2.1.2 with h0 | ⟨cb', co', rfl, hj⟩
          · omega
          have GH := hidW (W2.out.trans (G2.out.trans H2.out))
          obtain ⟨i0, i1, i2, i3, i4, -, Q, qc, i5, i6⟩ := hi m hlt2
          obtain ⟨j0, j1, j2, j3, j4, -, Q', qc', j5, j6⟩ := hj m hlt2
          have c0 := GH.out.cell i0
          have d0 := ((Bl.refl wr).alloc (.cells #[.int .i64 (nth in0 (nth me0 f.methods k).code m).op, .int .i64 (nth in0 (nth me0 f.methods k).code m).a, .int .i64 (nth in0 (nth me0 f.methods k).code m).b, .int .i64 (nth in0 (nth me0 f.methods k).code m).c, .int .i64 (nth in0 (nth me0 f.methods k).code m).n, .slice Q (nth in0 (nth me0 f.methods k).code m).args.length qc] 44)).cell (GH.out.cell j0)
          have c1 := GH.out.cell i1
          have d1 := ((Bl.refl wr).alloc (.cells #[.int .i64 (nth in0 (nth me0 f.methods k).code m).op, .int .i64 (nth in0 (nth me0 f.methods k).code m).a, .int .i64 (nth in0 (nth me0 f.methods k).code m).b, .int .i64 (nth in0 (nth me0 f.methods k).code m).c, .int .i64 (nth in0 (nth me0 f.methods k).code m).n, .slice Q (nth in0 (nth me0 f.methods k).code m).args.length qc] 44)).cell (GH.out.cell j1)
          have c2 := GH.out.cell i2
          have d2 := ((Bl.refl wr).alloc (.cells #[.int .i64 (nth in0 (nth me0 f.methods k).code m).op, .int .i64 (nth in0 (nth me0 f.methods k).code m).a, .int .i64 (nth in0 (nth me0 f.methods k).code m).b, .int .i64 (nth in0 (nth me0 f.methods k).code m).c, .int .i64 (nth in0 (nth me0 f.methods k).code m).n, .slice Q (nth in0 (nth me0 f.methods k).code m).args.length qc] 44)).cell (GH.out.cell j2)
          have c3 := GH.out.cell i3
          have d3 := ((Bl.refl wr).alloc (.cells #[.int .i64 (nth in0 (nth me0 f.methods k).code m).op, .int .i64 (nth in0 (nth me0 f.methods k).code m).a, .int .i64 (nth in0 (nth me0 f.methods k).code m).b, .int .i64 (nth in0 (nth me0 f.methods k).code m).c, .int .i64 (nth in0 (nth me0 f.methods k).code m).n, .slice Q (nth in0 (nth me0 f.methods k).code m).args.length qc] 44)).cell (GH.out.cell j3)
          have c4 := GH.out.cell i4
          have d4 := ((Bl.refl wr).alloc (.cells #[.int .i64 (nth in0 (nth me0 f.methods k).code m).op, .int .i64 (nth in0 (nth me0 f.methods k).code m).a, .int .i64 (nth in0 (nth me0 f.methods k).code m).b, .int .i64 (nth in0 (nth me0 f.methods k).code m).c, .int .i64 (nth in0 (nth me0 f.methods k).code m).n, .slice Q (nth in0 (nth me0 f.methods k).code m).args.length qc] 44)).cell (GH.out.cell j4)
          have c5 := GH.out.cell i5
          have d5 := ((Bl.refl wr).alloc (.cells #[.int .i64 (nth in0 (nth me0 f.methods k).code m).op, .int .i64 (nth in0 (nth me0 f.methods k).code m).a, .int .i64 (nth in0 (nth me0 f.methods k).code m).b, .int .i64 (nth in0 (nth me0 f.methods k).code m).c, .int .i64 (nth in0 (nth me0 f.methods k).code m).n, .slice Q (nth in0 (nth me0 f.methods k).code m).args.length qc] 44)).cell (GH.out.cell j5)
          have I6 := hidW (i6.bl GH.out)
          have J6 := hidW (j6.bl GH.out)
          clear hi hj i0 i1 i2 i3 i4 i5 i6 j0 j1 j2 j3 j4 j5 j6
          have z6 := (((Bl.refl wr).alloc (.cells #[.int .i64 (nth in0 (nth me0 f.methods k).code m).op, .int .i64 (nth in0 (nth me0 f.methods k).code m).a, .int .i64 (nth in0 (nth me0 f.methods k).code m).b, .int .i64 (nth in0 (nth me0 f.methods k).code m).c, .int .i64 (nth in0 (nth me0 f.methods k).code m).n, .slice Q (nth in0 (nth me0 f.methods k).code m).args.length qc] 44)).cell f6)
          have W3 := hidW (((Bl.refl wr).alloc (.cells #[.int .i64 (nth in0 (nth me0 f.methods k).code m).op, .int .i64 (nth in0 (nth me0 f.methods k).code m).a, .int .i64 (nth in0 (nth me0 f.methods k).code m).b, .int .i64 (nth in0 (nth me0 f.methods k).code m).c, .int .i64 (nth in0 (nth me0 f.methods k).code m).n, .slice Q (nth in0 (nth me0 f.methods k).code m).args.length qc] 44)).alloc (.cells #[.int .i64 (nth in0 (nth me0 f.methods k).code m).op, .int .i64 (nth in0 (nth me0 f.methods k).code m).a, .int .i64 (nth in0 (nth me0 f.methods k).code m).b, .int .i64 (nth in0 (nth me0 f.methods k).code m).c, .int .i64 (nth in0 (nth me0 f.methods k).code m).n, .slice Q' (nth in0 (nth me0 f.methods k).code m).args.length qc'] 44))
          go_wp2_with (go_at_call 11; refine (ints_same _ _ _ _ _ _ (I6.out.bl W3.out) (J6.out.bl W3.out)).mono ?_; rintro e w3 ⟨rfl, g3⟩)
          go_roundw
          case rel => exact ⟨m + 1, by omega, by go_num, (H2.out.trans W3.out).trans g3⟩
          case measure => simp [intOf]; omega
        · obtain rfl : m = (nth me0 f.methods k).code.length := by omega
          have E7 := hidW (H2.out.cell (G2.out.cell E7.out))
          have F7 := hidW (H2.out.cell (G2.out.cell D7.out))
          obtain ⟨w3, hw3⟩ : ∃ w3, w3 = wr := ⟨wr, rfl⟩
          subst hw3
          go_wp2
          go_loopw [11] (fun i wr => ∃ m : Nat, m ≤ (nth me0 f.methods k).hands.length ∧ i = .int .i64 (m : Int) ∧ Bl w3 wr) (fun i _ => (nth me0 f.methods k).hands.length - (intOf i).toNat)
          case atStart => exact ⟨0, by omega, rfl, Bl.refl _⟩
          case round =>
            obtain ⟨m, hmk, rfl, h3⟩ := hrel
            have H3 := hidW h3
            clear h3
            have e7 := H3.out.cell E7.out
            by_cases hlt2 : m < (nth me0 f.methods k).hands.length
            · rcases I8.out.2.2.1.2 with h0 | ⟨cb, co, rfl, hi⟩
              · omega
              rcases J8.out.2.2.1.2 with h0 | ⟨cb', co', rfl, hj⟩
              · omega
              have GH := hidW ((W2.out.trans (G2.out.trans H2.out)).trans H3.out)
              obtain ⟨i0, i1, i2, i3, -⟩ := hi m hlt2
              obtain ⟨j0, j1, j2, j3, -⟩ := hj m hlt2
              have c0 := fut_cell (GH.out.cell i0)
              have d0 := fut_cell (GH.out.cell j0)
              have c1 := fut_cell (GH.out.cell i1)
              have d1 := fut_cell (GH.out.cell j1)
              have c2 := fut_cell (GH.out.cell i2)
              have d2 := fut_cell (GH.out.cell j2)
              have c3 := fut_cell (GH.out.cell i3)
              have d3 := fut_cell (GH.out.cell j3)
              clear hi hj i0 i1 i2 i3 j0 j1 j2 j3
              have z7 := fut_cell e7
              have y7 := fut_cell (H3.out.cell F7.out)
              have heq := eq_hd (nth hd0 (nth me0 f.methods k).hands m).fr (nth hd0 (nth me0 f.methods k).hands m).til (nth hd0 (nth me0 f.methods k).hands m).pc (nth hd0 (nth me0 f.methods k).hands m).cls
              have hk0 : (0 : Int) ≤ (m : Int) := by omega
              have hk1 : (m : Int) < ((nth me0 f.methods k).hands.length : Int) := by omega
              go_wp2
              refine wp_region_fut (by kernel_rfl) (by kernel_rfl) fun hne => ?_
              repeat (go_big_quiet_step (fail))
              refine wpQuiet_nil ?_
              rintro _ ⟨⟨w4, hw4⟩, rfl⟩
              go_wp2
              go_roundw
              case rel => exact ⟨m + 1, by omega, by go_num, H3.out.trans hw4⟩
              case measure => simp [intOf]; omega
            · obtain rfl : m = (nth me0 f.methods k).hands.length := by omega
              go_wp2
              go_roundw
              case rel => exact ⟨k + 1, by omega, by go_num, (((H1.out.trans W2.out).trans G2.out).trans H2.out).trans H3.out⟩
              case measure => simp [intOf]; omega
    · obtain rfl : k = f.methods.length := by omega
      go_wp2
      go_ret
      exact ⟨rfl, (HW.out.trans G1.out).trans H1.out⟩

end Go.Proofs.Ytgiiapenmjollac
