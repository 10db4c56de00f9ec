/-
  The document's reader: a method.
-/
import Derived.Test.YtgiiapenmjollabMLWireGuB
import Derived.Deep.CutBlock
namespace Go.Proofs.Ytgiiapenmjollab
open Go.RowKit
set_option maxRecDepth 100000
set_option linter.unusedVariables false
set_option linter.unusedSimpArgs false

/-- A method is read, or the reader has failed. -/
def DMQ (W0 w : World) (p : Nat) (D : Option Addr) (c : Nat) (l : List Int) (i : Nat) (bad : Bool) (e : Ending) (w' : World) : Prop :=
  ∃ x P C K pp pc pk j bd, e = .returned (.agg #[.slice P x.params.length pp, .int .i64 x.ret.kind, .int .i64 x.ret.cls, .int .i64 x.stack, .int .i64 x.locs, .int .i64 x.regs, .slice C x.code.length pc, .slice K x.hands.length pk]) ∧ Kp (OneB p) w w' ∧ MeAt (er (oldB w.heap.size) w') x P C K ∧ RdD W0 w' p D c l j bd ∧ St (pMe bdD) l i bad x j bd
section
variable {W0 w : World} {p : Nat} {D : Option Addr} {c : Nat} {l : List Int} {i : Nat} {bad : Bool}
set_option maxHeartbeats 40000000 in
theorem dmethod_any (h : RdD W0 w p D c l i bad) (hB : l.length ≤ 1048576) :
    Calls Try.prog 26 #[.pointer (some ⟨p, 0, none⟩)] w (DMQ W0 w p D c l i bad) := by
  have hpl := h.lt
  have hW0 := h.bl.size
  have X0 := hidW (show Dx W0 (w.alloc meZ) ((w.alloc meZ).alloc meZ) p (w.heap.size + 1) D c l i bad (w.heap.size + 1) #[.slice none 0 0, .int .i64 0, .int .i64 0, .int .i64 0, .int .i64 0, .int .i64 0, .slice none 0 0, .slice none 0 0] 50 by
    have := Dx.new (h.alloc meZ) (Kp.refl (Sq3 p (w.alloc meZ).heap.size (w.heap.size + 1)) (w.alloc meZ)) #[.slice none 0 0, .int .i64 0, .int .i64 0, .int .i64 0, .int .i64 0, .int .i64 0, .slice none 0 0, .slice none 0 0] 50
    rw [World.size_alloc] at this
    exact this)
  clear h
  obtain ⟨j0, hi0, hz0, hz1, hz2⟩ := info_takeCode
  obtain ⟨g0, gi0, gz0, gz1, gz2⟩ := info_takeInts
  obtain ⟨f0, fi0, fz0, fz1, fz2⟩ := info_takeHandlers
  go_enter Try.func26, Try.ntmps26
  go_upto_block 0 with (first
    | (have := X6; go_at_call 23; refine (dmany_any X6.out.rd).mono ?_; rintro e w7 ⟨x7, i7, b7, rfl, n7, k7, r7, s7⟩; have y7 := X6.out.call (by omega) k7 r7; have N7 := hidW n7; have S7 := hidW s7; have X7 := hidW y7; have hw7 := k7.size; clear n7 k7 r7 s7 y7)
    | (have := X5; go_at_call 24; refine (dnum_any X5.out.rd).mono ?_; rintro e w6 ⟨x6, i6, b6, rfl, n6, k6, r6, s6⟩; have y6 := X5.out.call (by omega) k6 r6; have N6 := hidW n6; have S6 := hidW s6; have q6 := blk_cell y6.blk 5 rfl; have z6 := blk_free y6.blk 5; have X6 := hidW (y6.set (by omega) (by omega) 5 (.int .i64 x6)); clear n6 k6 r6 s6 y6)
    | (have := X4; go_at_call 24; refine (dnum_any X4.out.rd).mono ?_; rintro e w5 ⟨x5, i5, b5, rfl, n5, k5, r5, s5⟩; have y5 := X4.out.call (by omega) k5 r5; have N5 := hidW n5; have S5 := hidW s5; have q5 := blk_cell y5.blk 4 rfl; have z5 := blk_free y5.blk 4; have X5 := hidW (y5.set (by omega) (by omega) 4 (.int .i64 x5)); clear n5 k5 r5 s5 y5)
    | (have := X3; go_at_call 24; refine (dnum_any X3.out.rd).mono ?_; rintro e w4 ⟨x4, i4, b4, rfl, n4, k4, r4, s4⟩; have y4 := X3.out.call (by omega) k4 r4; have N4 := hidW n4; have S4 := hidW s4; have q4 := blk_cell y4.blk 3 rfl; have z4 := blk_free y4.blk 3; have X4 := hidW (y4.set (by omega) (by omega) 3 (.int .i64 x4)); clear n4 k4 r4 s4 y4)
    | (have := X2; go_at_call 24; refine (dnum_any X2.out.rd).mono ?_; rintro e w3 ⟨x3, i3, b3, rfl, n3, k3, r3, s3⟩; have y3 := X2.out.call (by omega) k3 r3; have N3 := hidW n3; have S3 := hidW s3; have q3 := blk_cell y3.blk 2 rfl; have z3 := blk_free y3.blk 2; have X3 := hidW (y3.set (by omega) (by omega) 2 (.int .i64 x3)); clear n3 k3 r3 s3 y3)
    | (have := X1; go_at_call 24; refine (dnum_any X1.out.rd).mono ?_; rintro e w2 ⟨x2, i2, b2, rfl, n2, k2, r2, s2⟩; have y2 := X1.out.call (by omega) k2 r2; have N2 := hidW n2; have S2 := hidW s2; have q2 := blk_cell y2.blk 1 rfl; have z2 := blk_free y2.blk 1; have X2 := hidW (y2.set (by omega) (by omega) 1 (.int .i64 x2)); clear n2 k2 r2 s2 y2)
    | (go_at_call 25; refine (dtypes_any X0.out.rd hB).mono ?_; rintro e w1 ⟨ps, P, pp, i1, b1, rfl, k1, t1, r1, s1⟩; have y1 := X0.out.call (by omega) k1 r1; have q1 := blk_cell y1.blk 0 rfl; have z1 := blk_free y1.blk 0; have T1 := hidW ((show TysAt (er (oldB (w.heap.size + 2)) w1) P ps by simpa using t1).sub (er_set (k := w.heap.size + 1) (o := 0) (v := .slice P ps.length pp) (by omega) (Nat.le_refl _))); have S1 := hidW s1; have y2 := y1.set (by omega) (by omega) 0 (.slice P ps.length pp); have KA := hidW y2.kp; have X1 := hidW y2.base; have hs1 := lt_of_blkW y2.blk; have hp1 := y2.rd.lt; clear k1 t1 r1 s1 y1 y2))
  have T7 := hidW (T1.out.sub (er_keepQ (N := w.heap.size + 2) X7.out.kp (fun j hj => by rcases hj with e | e | e <;> omega)))
  have hs7 := X7.out.kp.size
  have hp7 := X7.out.rd.lt
  have K7 := hidW (KA.out.trans (X7.out.kp.less fun j _ hj => by rcases hj with e | e | e <;> first | exact Or.inl e | exact Or.inr (Or.inl e) | exact Or.inr (Or.inr (by omega))))
  rw [World.size_setCell] at hs1 hs7 hp1
  have h67 := N7.out
  unfold I64 at h67
  have hqm : w.heap.size + 1 ≠ p := by omega
  go_cut [] (fun wx => ∃ cs C pc j bd, Dx W0 w7 wx p w7.heap.size D c l j bd (w.heap.size + 1) #[.slice P ps.length pp, .int .i64 x2, .int .i64 x3, .int .i64 x4, .int .i64 x5, .int .i64 x6, .slice C cs.length pc, .slice none 0 0] 50 ∧ InsAt (er (oldB w7.heap.size) wx) C cs ∧ cs.length ≤ 131073 ∧ St (pL mxI (pIn bdD)) l i6 b6 cs j bd)
  case first =>
    go_wp2_with fail
    go_loopg [5] x7.toNat (fun g s5 wr => ∃ (m : Nat) (xs : List In) (j : Nat) (bd : Bool) (v : Value), g = x7.toNat - m ∧ s5 = .int .i64 (m : Int) ∧ Lst (pIn bdD) x7.toNat l i7 b7 m xs j bd ∧ Dx W0 w7 wr p w7.heap.size D c l j bd (w.heap.size + 1) #[.slice P ps.length pp, .int .i64 x2, .int .i64 x3, .int .i64 x4, .int .i64 x5, .int .i64 x6, v, .slice none 0 0] 50 ∧ LW in0 ItIn 6 53 w7.heap.size wr v xs)
    case atStart => exact ⟨0, [], i7, b7, _, by omega, rfl, Lst.begin _ _ _ _ _, X7.out.base, LW.nil _ _ _ _ _ _⟩
    case round =>
      obtain ⟨m, xs, j, bd, v, hg, rfl, hl, hx, h3⟩ := hrel
      have HG := hidW hg
      have HL := hidW hl
      have HX := hidW hx
      have H3 := hidW h3
      have bb2 := blk_cell hx.rd.blk 2 rfl
      have hws := hx.kp.size
      have hpr := hx.rd.lt
      have hfew := hl.few
      have HXL := hidW hl.len
      obtain ⟨wo, hwo⟩ : ∃ wo, wo = wr := ⟨wr, rfl⟩
      subst hwo
      clear hg hl hx h3
      by_cases hlt : (m : Int) < x7
      · cases bd with
        | true =>
          obtain ⟨A, k, hv, hat⟩ := H3.out.ins (by rw [HXL.out]; unfold maxLen; omega)
          have HAT := hidW hat
          have HV := hidW hv
          clear hat hv
          go_wp2
          go_meet
          case rel => exact ⟨xs, A, k, j, true, by rw [← HV.out]; exact HX.out, HAT.out, by rw [HXL.out]; exact hfew, Lst.ends S7.out HL.out (Or.inl rfl)⟩
        | false =>
          have hsm := HL.out.small (pIn_eats bdD) hB
          have Z10 := hidW (Dx.new HX.out.rd (Kp.refl (Sq3 p wo.heap.size wo.heap.size) wo) #[.int .i64 0, .int .i64 0, .int .i64 0, .int .i64 0, .int .i64 0, .slice none 0 0] 53)
          go_upto_block 2 with (first
            | (have := Z15; go_at_call 23; refine (dmany_any Z15.out.rd).mono ?_; rintro e w16 ⟨x16, i16, b16, rfl, n16, k16, r16, s16⟩; have y16 := Z15.out.call (by omega) k16 r16; have N16 := hidW n16; have S16 := hidW s16; have Z16 := hidW y16; clear n16 k16 r16 s16 y16)
            | (have := Z14; go_at_call 53; refine (dwide_any Z14.out.rd).mono ?_; rintro e w15 ⟨x15, i15, b15, rfl, n15, k15, r15, s15⟩; have y15 := Z14.out.call (by omega) k15 r15; have N15 := hidW n15; have S15 := hidW s15; have q15 := blk_cell y15.blk 4 rfl; have z15 := blk_free y15.blk 4; have Z15 := hidW (y15.set (by omega) (by omega) 4 (.int .i64 x15)); clear n15 k15 r15 s15 y15)
            | (have := Z13; go_at_call 24; refine (dnum_any Z13.out.rd).mono ?_; rintro e w14 ⟨x14, i14, b14, rfl, n14, k14, r14, s14⟩; have y14 := Z13.out.call (by omega) k14 r14; have N14 := hidW n14; have S14 := hidW s14; have q14 := blk_cell y14.blk 3 rfl; have z14 := blk_free y14.blk 3; have Z14 := hidW (y14.set (by omega) (by omega) 3 (.int .i64 x14)); clear n14 k14 r14 s14 y14)
            | (have := Z12; go_at_call 24; refine (dnum_any Z12.out.rd).mono ?_; rintro e w13 ⟨x13, i13, b13, rfl, n13, k13, r13, s13⟩; have y13 := Z12.out.call (by omega) k13 r13; have N13 := hidW n13; have S13 := hidW s13; have q13 := blk_cell y13.blk 2 rfl; have z13 := blk_free y13.blk 2; have Z13 := hidW (y13.set (by omega) (by omega) 2 (.int .i64 x13)); clear n13 k13 r13 s13 y13)
            | (have := Z11; go_at_call 24; refine (dnum_any Z11.out.rd).mono ?_; rintro e w12 ⟨x12, i12, b12, rfl, n12, k12, r12, s12⟩; have y12 := Z11.out.call (by omega) k12 r12; have N12 := hidW n12; have S12 := hidW s12; have q12 := blk_cell y12.blk 1 rfl; have z12 := blk_free y12.blk 1; have Z12 := hidW (y12.set (by omega) (by omega) 1 (.int .i64 x12)); clear n12 k12 r12 s12 y12)
            | (have := Z10; go_at_call 24; refine (dnum_any Z10.out.rd).mono ?_; rintro e w11 ⟨x11, i11, b11, rfl, n11, k11, r11, s11⟩; have y11 := Z10.out.call (by omega) k11 r11; have N11 := hidW n11; have S11 := hidW s11; have q11 := blk_cell y11.blk 0 rfl; have z11 := blk_free y11.blk 0; have Z11 := hidW (y11.set (by omega) (by omega) 0 (.int .i64 x11)); clear n11 k11 r11 s11 y11))
          have h616 := N16.out
          unfold I64 at h616
          have hs16 := Z16.out.kp.size
          go_cut [] (fun wx => ∃ gs A k j bd, Dx W0 wo wx p wo.heap.size D c l j bd wo.heap.size #[.int .i64 x11, .int .i64 x12, .int .i64 x13, .int .i64 x14, .int .i64 x15, .slice A gs.length k] 53 ∧ IntsAt (er (oldB (wo.heap.size + 1)) wx) A gs ∧ St (pL mxI pN) l i15 b15 gs j bd)
          case first =>
            go_wp2_with fail
            go_loopg [8] x16.toNat (fun g s8 wr => ∃ (m : Nat) (gs : List Int) (j : Nat) (bd : Bool) (v : Value), g = x16.toNat - m ∧ s8 = .int .i64 (m : Int) ∧ Lst pN x16.toNat l i16 b16 m gs j bd ∧ Dx W0 wo wr p wo.heap.size D c l j bd wo.heap.size #[.int .i64 x11, .int .i64 x12, .int .i64 x13, .int .i64 x14, .int .i64 x15, v] 53 ∧ LW (0 : Int) ItN 1 3 (wo.heap.size + 1) wr v gs)
            case atStart => exact ⟨0, [], i16, b16, _, by omega, rfl, Lst.begin _ _ _ _ _, Z16.out, LW.nil _ _ _ _ _ _⟩
            case round =>
              obtain ⟨m2, gs, j2, bd2, v2, hg2, rfl, hl2, hx2, h32⟩ := hrel
              have HG2 := hidW hg2
              have HL2 := hidW hl2
              have HX2 := hidW hx2
              have H32 := hidW h32
              have bb22 := blk_cell hx2.rd.blk 2 rfl
              have bb25 := blk_cell hx2.blk 5 rfl
              have hws2 := hx2.kp.size
              have hpr2 := hx2.rd.lt
              have hqr2 := lt_of_blkW hx2.blk
              have hfew2 := hl2.few
              have HXL2 := hidW hl2.len
              clear hg2 hl2 hx2 h32
              by_cases hlt2 : (m2 : Int) < x16
              · cases bd2 with
                | true =>
                  obtain ⟨A, k, hv, hat⟩ := H32.out.ints (by rw [HXL2.out]; unfold maxLen; omega)
                  have HAT := hidW hat
                  have HV := hidW hv
                  clear hat hv
                  go_wp2
                  go_meet
                  case rel => exact ⟨gs, A, k, j2, true, by rw [← HV.out]; exact HX2.out, HAT.out, Lst.ends S16.out HL2.out (Or.inl rfl)⟩
                | false =>
                  have hsm2 := HL2.out.small pN_eats hB
                  go_wp2_with (first
                    | (go_at_call 24; refine (dnum_any HX2.out.rd).mono ?_; rintro e w20 ⟨x20, i20, b20, rfl, n20, k20, r20, s20⟩; have y20 := HX2.out.call (by omega) k20 r20; have c5 := blk_cell y20.blk 5 rfl; have N20 := hidW n20; have S20 := hidW s20; have hk20 := k20.size; have LA := hidW ((H32.out.keepQ ItN.st (S := OneB p) (k20.alloc (.cells #[.int .i64 x20] 3)) (fun j hj => Or.inl (by rw [hj]; omega)))); have Z20 := hidW (y20.alloc (.cells #[.int .i64 x20] 3)); obtain ⟨cs, la1, la2⟩ := LA.out.ex; have LA1 := hidW la1; have LA2 := hidW la2; clear n20 k20 r20 s20 y20 la1 la2)
                    | (at_builtin; refine wpList_append_lies _ rfl (.tmp 81) (.tmp 83) 51 rfl (wo.heap.size + 1) 3 g0 _ 1 8 Try.underlying51 gi0 gz0 gz1 gz2 rfl (by omega) v2 gs.length cs (by rfl) (by exact LA1.out) ⟨w20.heap.size, 0, none⟩ 1 1 [.int .i64 x20] (by rfl) (by rfl) (World.news_of_block (cs := #[.int .i64 x20]) (t := 3) (fr := (0, 0)) (heap_alloc_new w20 _)) (by simp [Value.oneCell']) (by omega) (by rw [HXL2.out]; unfold maxLen; omega) (by rw [HXL2.out]; omega) (by simp; omega) (w20.heap.size + 1) (by simp) ?_; intro gg cap w21 hown1 hgrow hat hlt3; have GB := hidW (LA1.out.lt); have GR := hidW (grown_kp hgrow); have G21 := hidW (LW.app (x := x20) ItN.st rfl rfl LA1.out LA2.out ⟨rfl, N20.out⟩ hown1 hgrow (by simpa using hat)); have y21 := Z20.out.kept GR.out (fun e2 => by have := (GB.out p e2).1; omega) (fun e2 => by have := (GB.out _ e2).1; omega) (fun j hj => by have := (GB.out j hj).1; omega) (by omega); have c21 := blk_cell y21.blk 5 rfl; have z21 := blk_free y21.blk 5; have Z21 := hidW y21; clear hown1 hgrow hat hlt3 y21))
                  go_roundg (x16.toNat - (m2 + 1))
                  case measure => rw [HG2.out]; omega
                  case rel => exact ⟨m2 + 1, gs ++ [x20], i20, b20, _, rfl, by go_num, HL2.out.next (by omega) pN_eats hB S20.out, Z21.out.set (by omega) (by omega) 5 _, G21.out.keepQ ItN.st ((Kp.refl (OneB wo.heap.size) _).set (p := ⟨wo.heap.size, 5, none⟩) rfl _) (fun j hj => Or.inl (by rw [hj]; omega))⟩
              · obtain ⟨A, k, hv, hat⟩ := H32.out.ints (by rw [HXL2.out]; unfold maxLen; omega)
                have HAT := hidW hat
                have HV := hidW hv
                clear hat hv
                go_wp2
                go_meet
                case rel => exact ⟨gs, A, k, j2, bd2, by rw [← HV.out]; exact HX2.out, HAT.out, Lst.ends S16.out HL2.out (Or.inr (by omega))⟩
          case rest =>
            obtain ⟨gs, A, k, j3, bd3, hz, hat, hst⟩ := hcut
            have HZ := hidW hz
            have HST := hidW hst
            have hszc := hz.kp.size
            have yo := HX.out.over hz (Nat.le_refl _) hws (by omega) hqm
            have d0 := blk_cell hz.blk 0 rfl
            have d1 := blk_cell hz.blk 1 rfl
            have d2 := blk_cell hz.blk 2 rfl
            have d3 := blk_cell hz.blk 3 rfl
            have d4 := blk_cell hz.blk 4 rfl
            have d5 := blk_cell hz.blk 5 rfl
            have d6 := blk_cell yo.blk 6 rfl
            have ZO := hidW (yo.alloc (.cells #[.int .i64 x11, .int .i64 x12, .int .i64 x13, .int .i64 x14, .int .i64 x15, .slice A gs.length k] 53))
            have IT := hidW (item_far (x := (⟨x11, x12, x13, x14, x15, gs⟩ : In)) ItIn.st H3.out hws (.cells #[.int .i64 x11, .int .i64 x12, .int .i64 x13, .int .i64 x14, .int .i64 x15, .slice A gs.length k] 53) (ci := [.int .i64 x11, .int .i64 x12, .int .i64 x13, .int .i64 x14, .int .i64 x15, .slice A gs.length k]) ⟨A, k, rfl, ⟨N11.out, N12.out, N13.out, N14.out, N15.out⟩, hat.sub (er_less (by omega))⟩)
            have LA := hidW (H3.out.keepQ ItIn.st (hz.alloc (.cells #[.int .i64 x11, .int .i64 x12, .int .i64 x13, .int .i64 x14, .int .i64 x15, .slice A gs.length k] 53)).kp (fun j hj => by rcases hj with e | e | e <;> omega))
            obtain ⟨cs, la1, la2⟩ := LA.out.ex
            have LA1 := hidW la1
            have LA2 := hidW la2
            clear hz hat hst yo la1 la2
            go_wp2_with (at_builtin; refine wpList_append_lies _ rfl (.tmp 87) (.tmp 89) 47 rfl w7.heap.size 53 j0 _ 6 64 Try.underlying47 hi0 hz0 hz1 hz2 rfl (by omega) v xs.length cs (by rfl) (by exact LA1.out) ⟨wc.heap.size, 0, none⟩ 1 1 [.int .i64 x11, .int .i64 x12, .int .i64 x13, .int .i64 x14, .int .i64 x15, .slice A gs.length k] (by rfl) (by rfl) (World.news_of_block (cs := #[.int .i64 x11, .int .i64 x12, .int .i64 x13, .int .i64 x14, .int .i64 x15, .slice A gs.length k]) (t := 53) (fr := (0, 0)) (heap_alloc_new wc _)) (by simp [Value.oneCell']) (by omega) (by rw [HXL.out]; unfold maxLen; omega) (by rw [HXL.out]; omega) (by simp; omega) (wc.heap.size + 1) (by simp) ?_; intro gg cap w25 hown1 hgrow hat hlt3; have GB := hidW (LA1.out.lt); have GR := hidW (grown_kp hgrow); have G25 := hidW (LW.app (x := (⟨x11, x12, x13, x14, x15, gs⟩ : In)) ItIn.st rfl rfl LA1.out LA2.out IT.out hown1 hgrow (by simpa using hat)); have y25 := ZO.out.kept GR.out (fun e2 => by have := (GB.out p e2).1; omega) (fun e2 => by have := (GB.out _ e2).1; omega) (fun j hj => by have := (GB.out j hj).1; omega) (by omega); have c25 := blk_cell y25.blk 6 rfl; have z25 := blk_free y25.blk 6; have Z25 := hidW y25; clear hown1 hgrow hat hlt3 y25)
            go_roundg (x7.toNat - (m + 1))
            case measure => rw [HG.out]; omega
            case rel => exact ⟨m + 1, xs ++ [⟨x11, x12, x13, x14, x15, gs⟩], j3, bd3, _, rfl, by go_num, HL.out.next (by omega) (pIn_eats bdD) hB (St.ins S11.out S12.out S13.out S14.out S15.out HST.out), Z25.out.set (by omega) (by omega) 6 _, G25.out.keepQ ItIn.st ((Kp.refl (OneB (w.heap.size + 1)) _).set (p := ⟨w.heap.size + 1, 6, none⟩) rfl _) (fun j hj => Or.inl (by rw [hj]; omega))⟩
      · obtain ⟨A, k, hv, hat⟩ := H3.out.ins (by rw [HXL.out]; unfold maxLen; omega)
        have HAT := hidW hat
        have HV := hidW hv
        clear hat hv
        go_wp2
        go_meet
        case rel => exact ⟨xs, A, k, j, bd, by rw [← HV.out]; exact HX.out, HAT.out, by rw [HXL.out]; exact hfew, Lst.ends S7.out HL.out (Or.inr (by omega))⟩
  case rest =>
    obtain ⟨cs, C, pc, j, bd, hx1, hx2, hx3, hx4⟩ := hcut
    have W1 := hidW hx1
    have C1 := hidW hx2
    have hcl := hx3
    have SC := hidW hx4
    have hsw := hx1.kp.size
    have hpw := hx1.rd.lt
    clear hx1 hx2 hx3 hx4
    go_upto_block 4 with (go_at_call 23; refine (dmany_any W1.out.rd).mono ?_; rintro e w31 ⟨x31, i31, b31, rfl, n31, k31, r31, s31⟩; have N31 := hidW n31; have K31 := hidW k31; have R31 := hidW r31; have S31 := hidW s31; clear n31 k31 r31 s31)
    have h31 := N31.out
    unfold I64 at h31
    have W2 := hidW (W1.out.call hqm K31.out R31.out)
    have hs31 := K31.out.size
    have C2 := hidW (C1.out.sub (er_keepQ (N := w7.heap.size) K31.out (fun j hj => by unfold OneB at hj; omega)))
    go_cut [] (fun wx => ∃ hs K pk j4 bd4, Dx W0 w31 wx p w31.heap.size D c l j4 bd4 (w.heap.size + 1) #[.slice P ps.length pp, .int .i64 x2, .int .i64 x3, .int .i64 x4, .int .i64 x5, .int .i64 x6, .slice C cs.length pc, .slice K hs.length pk] 50 ∧ HdsAt (er (oldB w31.heap.size) wx) K hs ∧ hs.length ≤ 131073 ∧ St (pL mxI pHd) l j bd hs j4 bd4)
    case first =>
      go_wp2_with fail
      go_loopg [11] x31.toNat (fun g s11 wr => ∃ (m : Nat) (xs : List Hd) (j4 : Nat) (bd4 : Bool) (v : Value), g = x31.toNat - m ∧ s11 = .int .i64 (m : Int) ∧ Lst pHd x31.toNat l i31 b31 m xs j4 bd4 ∧ Dx W0 w31 wr p w31.heap.size D c l j4 bd4 (w.heap.size + 1) #[.slice P ps.length pp, .int .i64 x2, .int .i64 x3, .int .i64 x4, .int .i64 x5, .int .i64 x6, .slice C cs.length pc, v] 50 ∧ LW hd0 ItHd 4 56 w31.heap.size wr v xs)
      case atStart => exact ⟨0, [], i31, b31, _, by omega, rfl, Lst.begin _ _ _ _ _, W2.out.base, LW.nil _ _ _ _ _ _⟩
      case round =>
        obtain ⟨m, xs, j4, bd4, v, hg, rfl, hl, hx, h3⟩ := hrel
        have HG := hidW hg
        have HL := hidW hl
        have HX := hidW hx
        have H3 := hidW h3
        have bb2 := blk_cell hx.rd.blk 2 rfl
        have hws := hx.kp.size
        have hpr := hx.rd.lt
        have hfew := hl.few
        have HXL := hidW hl.len
        clear hg hl hx h3
        by_cases hlt : (m : Int) < x31
        · cases bd4 with
          | true =>
            obtain ⟨A, k, hv, hat⟩ := H3.out.hds (by rw [HXL.out]; unfold maxLen; omega)
            have HAT := hidW hat
            have HV := hidW hv
            clear hat hv
            go_wp2
            go_meet
            case rel => exact ⟨xs, A, k, j4, true, by rw [← HV.out]; exact HX.out, HAT.out, by rw [HXL.out]; exact hfew, Lst.ends S31.out HL.out (Or.inl rfl)⟩
          | false =>
            have hsm := HL.out.small pHd_eats hB
            have Z40 := hidW (Dx.new HX.out.rd (Kp.refl (Sq3 p wr.heap.size wr.heap.size) wr) #[.int .i64 0, .int .i64 0, .int .i64 0, .int .i64 0] 56)
            go_wp2_with (first
              | (have := Z43; go_at_call 24; refine (dnum_any Z43.out.rd).mono ?_; rintro e w44 ⟨x44, i44, b44, rfl, n44, k44, r44, s44⟩; have y44 := Z43.out.call (by omega) k44 r44; have N44 := hidW n44; have S44 := hidW s44; have q44 := blk_cell y44.blk 3 rfl; have z44 := blk_free y44.blk 3; have Z44 := hidW (y44.set (by omega) (by omega) 3 (.int .i64 x44)); have d0 := blk_cell y44.blk 0 rfl; have d1 := blk_cell y44.blk 1 rfl; have d2 := blk_cell y44.blk 2 rfl; have hs44 := lt_of_blkW y44.blk; have LA := hidW (H3.out.keepQ ItHd.st (Z44.out.alloc (.cells #[.int .i64 x41, .int .i64 x42, .int .i64 x43, .int .i64 x44] 56)).kp (fun j hj => by rcases hj with e | e | e <;> omega)); have yo := HX.out.over Z44.out (Nat.le_refl _) hws (by omega) hqm; have d7 := blk_cell yo.blk 7 rfl; have ZO := hidW (yo.alloc (.cells #[.int .i64 x41, .int .i64 x42, .int .i64 x43, .int .i64 x44] 56)); obtain ⟨ds, la1, la2⟩ := LA.out.ex; have LA1 := hidW la1; have LA2 := hidW la2; clear n44 k44 r44 s44 y44 la1 la2 yo)
              | (have := Z42; go_at_call 24; refine (dnum_any Z42.out.rd).mono ?_; rintro e w43 ⟨x43, i43, b43, rfl, n43, k43, r43, s43⟩; have y43 := Z42.out.call (by omega) k43 r43; have N43 := hidW n43; have S43 := hidW s43; have q43 := blk_cell y43.blk 2 rfl; have z43 := blk_free y43.blk 2; have Z43 := hidW (y43.set (by omega) (by omega) 2 (.int .i64 x43)); clear n43 k43 r43 s43 y43)
              | (have := Z41; go_at_call 24; refine (dnum_any Z41.out.rd).mono ?_; rintro e w42 ⟨x42, i42, b42, rfl, n42, k42, r42, s42⟩; have y42 := Z41.out.call (by omega) k42 r42; have N42 := hidW n42; have S42 := hidW s42; have q42 := blk_cell y42.blk 1 rfl; have z42 := blk_free y42.blk 1; have Z42 := hidW (y42.set (by omega) (by omega) 1 (.int .i64 x42)); clear n42 k42 r42 s42 y42)
              | (have := Z40; go_at_call 24; refine (dnum_any Z40.out.rd).mono ?_; rintro e w41 ⟨x41, i41, b41, rfl, n41, k41, r41, s41⟩; have y41 := Z40.out.call (by omega) k41 r41; have N41 := hidW n41; have S41 := hidW s41; have q41 := blk_cell y41.blk 0 rfl; have z41 := blk_free y41.blk 0; have Z41 := hidW (y41.set (by omega) (by omega) 0 (.int .i64 x41)); clear n41 k41 r41 s41 y41)
              | (at_builtin; refine wpList_append_lies _ rfl (.tmp 120) (.tmp 122) 48 rfl w31.heap.size 56 f0 _ 4 32 Try.underlying48 fi0 fz0 fz1 fz2 rfl (by omega) v xs.length ds (by rfl) (by exact LA1.out) ⟨w44.heap.size, 0, none⟩ 1 1 [.int .i64 x41, .int .i64 x42, .int .i64 x43, .int .i64 x44] (by rfl) (by rfl) (World.news_of_block (cs := #[.int .i64 x41, .int .i64 x42, .int .i64 x43, .int .i64 x44]) (t := 56) (fr := (0, 0)) (by have := heap_alloc_new (w44.setCell ⟨wr.heap.size, 3, none⟩ (.int .i64 x44)) (.cells #[.int .i64 x41, .int .i64 x42, .int .i64 x43, .int .i64 x44] 56); rw [World.size_setCell] at this; exact this)) (by simp [Value.oneCell']) (by omega) (by rw [HXL.out]; unfold maxLen; omega) (by rw [HXL.out]; omega) (by simp; omega) (w44.heap.size + 1) (by simp) ?_; intro gg cap w45 hown1 hgrow hat hlt3; have GB := hidW (LA1.out.lt); have GR := hidW (grown_kp hgrow); have G45 := hidW (LW.app (x := (⟨x41, x42, x43, x44⟩ : Hd)) ItHd.st rfl rfl LA1.out LA2.out ⟨rfl, N41.out, N42.out, N43.out, N44.out⟩ hown1 hgrow (by simpa using hat)); have y45 := ZO.out.kept GR.out (fun e2 => by have := (GB.out p e2).1; omega) (fun e2 => by have := (GB.out _ e2).1; omega) (fun j hj => by have := (GB.out j hj).1; omega) (by omega); have c45 := blk_cell y45.blk 7 rfl; have z45 := blk_free y45.blk 7; have Z45 := hidW y45; clear hown1 hgrow hat hlt3 y45))
            go_roundg (x31.toNat - (m + 1))
            case measure => rw [HG.out]; omega
            case rel => exact ⟨m + 1, xs ++ [⟨x41, x42, x43, x44⟩], i44, b44, _, rfl, by go_num, HL.out.next (by omega) pHd_eats hB (St.hd S41.out S42.out S43.out S44.out), Z45.out.set (by omega) (by omega) 7 _, G45.out.keepQ ItHd.st ((Kp.refl (OneB (w.heap.size + 1)) _).set (p := ⟨w.heap.size + 1, 7, none⟩) rfl _) (fun j hj => Or.inl (by rw [hj]; omega))⟩
        · obtain ⟨A, k, hv, hat⟩ := H3.out.hds (by rw [HXL.out]; unfold maxLen; omega)
          have HAT := hidW hat
          have HV := hidW hv
          clear hat hv
          go_wp2
          go_meet
          case rel => exact ⟨xs, A, k, j4, bd4, by rw [← HV.out]; exact HX.out, HAT.out, by rw [HXL.out]; exact hfew, Lst.ends S31.out HL.out (Or.inr (by omega))⟩
    case rest =>
      obtain ⟨hs, K, pk, j4, bd4, hx1, hx2, hx3, hx4⟩ := hcut
      have V5 := hx1.blk
      have k5 : Kp (Sq3 p (w.heap.size + 1) (w.heap.size + 1)) (w.alloc meZ) wc := ((K7.out.trans (W1.out.kp.less fun j _ hj => by rcases hj with e | e | e <;> first | exact Or.inl e | exact Or.inr (Or.inl e) | exact Or.inr (Or.inr (by omega)))).trans (K31.out.less fun j _ hj => Or.inl hj)).trans (hx1.kp.less fun j _ hj => by rcases hj with e | e | e <;> first | exact Or.inl e | exact Or.inr (Or.inl e) | exact Or.inr (Or.inr (by omega)))
      have B5 := hidW ((k5.block w.heap.size (by simp) (fun hj => by rcases hj with e | e | e <;> omega)).trans (heap_alloc_new w meZ))
      have K6 := hidW (((Kp.refl (NB p w.heap.size) w).alloc meZ).trans (k5.less fun j _ hj => by rcases hj with e | e | e <;> first | exact Or.inl e | exact Or.inr (by omega)))
      have T5 := hidW (((T7.out.sub (er_keepQ (N := w.heap.size + 2) W1.out.kp (fun j hj => by rcases hj with e | e | e <;> omega))).sub (er_keepQ (N := w.heap.size + 2) K31.out (fun j hj => by unfold OneB at hj; omega))).sub (er_keepQ (N := w.heap.size + 2) hx1.kp (fun j hj => by rcases hj with e | e | e <;> omega)))
      have C5 := hidW ((C2.out.sub (er_keepQ (N := w7.heap.size) hx1.kp (fun j hj => by rcases hj with e | e | e <;> omega))).sub (er_less (N := w.heap.size + 2) (by omega)))
      have H5 := hidW (hx2.sub (er_less (N := w.heap.size + 2) (by omega)))
      have R5 := hidW hx1.rd
      have SH := hidW hx4
      have g0' := blk_cell V5 0 rfl; have g1 := blk_cell V5 1 rfl; have g2 := blk_cell V5 2 rfl; have g3 := blk_cell V5 3 rfl; have g4 := blk_cell V5 4 rfl; have g5 := blk_cell V5 5 rfl; have g6 := blk_cell V5 6 rfl; have g7 := blk_cell V5 7 rfl
      have e0 := blk_cell B5.out 0 rfl; have e1 := blk_cell B5.out 1 rfl; have e2 := blk_cell B5.out 2 rfl; have e3 := blk_cell B5.out 3 rfl; have e4 := blk_cell B5.out 4 rfl; have e5 := blk_cell B5.out 5 rfl; have e6 := blk_cell B5.out 6 rfl; have e7 := blk_cell B5.out 7 rfl
      have u0 := blk_free B5.out 0; have u1 := blk_free B5.out 1; have u2 := blk_free B5.out 2; have u3 := blk_free B5.out 3; have u4 := blk_free B5.out 4; have u5 := blk_free B5.out 5; have u6 := blk_free B5.out 6; have u7 := blk_free B5.out 7
      have hsz5 := lt_of_blkW V5
      clear hx1 hx2 hx3 hx4 V5 k5
      go_wp2
      refine bodyPost_ret (results_cell_row rfl _ _ w.heap.size _ _ _ _ rfl (set_block (set_block (set_block (set_block (set_block (set_block (set_block (set_block B5.out 0 (.slice P ps.length pp)) 1 (.int .i64 x2)) 2 (.int .i64 x3)) 3 (.int .i64 x4)) 4 (.int .i64 x5)) 5 (.int .i64 x6)) 6 (.slice C cs.length pc)) 7 (.slice K hs.length pk)) Try.underlying50 rfl info_me) rfl ?_
      refine ⟨⟨ps, ⟨x2, x3⟩, x4, x5, x6, cs, hs⟩, P, C, K, pp, pc, pk, j4, bd4, rfl, ((((((((K6.out.set (p := ⟨w.heap.size, 0, none⟩) (Or.inr (by simp)) _).set (p := ⟨w.heap.size, 1, none⟩) (Or.inr (by simp)) _).set (p := ⟨w.heap.size, 2, none⟩) (Or.inr (by simp)) _).set (p := ⟨w.heap.size, 3, none⟩) (Or.inr (by simp)) _).set (p := ⟨w.heap.size, 4, none⟩) (Or.inr (by simp)) _).set (p := ⟨w.heap.size, 5, none⟩) (Or.inr (by simp)) _).set (p := ⟨w.heap.size, 6, none⟩) (Or.inr (by simp)) _).set (p := ⟨w.heap.size, 7, none⟩) (Or.inr (by simp)) _).nb, ?_, ((((((((R5.out.set (k := w.heap.size) (o := 0) (by omega) (by omega) _).set (k := w.heap.size) (o := 1) (by omega) (by omega) _).set (k := w.heap.size) (o := 2) (by omega) (by omega) _).set (k := w.heap.size) (o := 3) (by omega) (by omega) _).set (k := w.heap.size) (o := 4) (by omega) (by omega) _).set (k := w.heap.size) (o := 5) (by omega) (by omega) _).set (k := w.heap.size) (o := 6) (by omega) (by omega) _).set (k := w.heap.size) (o := 7) (by omega) (by omega) _), St.me S1.out S2.out S3.out S4.out S5.out S6.out SC.out SH.out⟩
      exact MeAt.sub (W := er (oldB (w.heap.size + 2)) wc) ((((((((er_set (k := w.heap.size) (o := 0) (by omega) (Nat.le_refl _)).trans (er_set (k := w.heap.size) (o := 1) (by omega) (Nat.le_refl _))).trans (er_set (k := w.heap.size) (o := 2) (by omega) (Nat.le_refl _))).trans (er_set (k := w.heap.size) (o := 3) (by omega) (Nat.le_refl _))).trans (er_set (k := w.heap.size) (o := 4) (by omega) (Nat.le_refl _))).trans (er_set (k := w.heap.size) (o := 5) (by omega) (Nat.le_refl _))).trans (er_set (k := w.heap.size) (o := 6) (by omega) (Nat.le_refl _))).trans (er_set (k := w.heap.size) (o := 7) (by omega) (by omega))) ⟨T5.out, C5.out, H5.out, N2.out, N3.out, N4.out, N5.out, N6.out⟩
end

end Go.Proofs.Ytgiiapenmjollab
