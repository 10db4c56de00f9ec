/-
  The document's Get: the file that has the bytes, or that none has.
-/
import Derived.Test.YtgiiapenmjollabMLWireGuC
import Derived.Test.YtgiiapenmjollabMLWireGet
import Derived.Test.YtgiiapenmjollabMLWireDocB
namespace Go.Proofs.Ytgiiapenmjollab
open Go.RowKit
set_option maxRecDepth 100000
set_option linter.unusedVariables false
set_option linter.unusedSimpArgs false

theorem putP_head {g : Fi} {l : List Int} (h : putP g = some l) (hn : g.nums) : l = formN g :: encFi g ∧ formN g ≠ 0 ∧ pFi bdD (l.drop 1) = some (g, []) := by
  obtain ⟨h1, h2⟩ := putP_some h
  have hu := pFi_und bdD g (good_D h1 hn) []
  rw [List.append_nil] at hu
  unfold formN
  rcases h2 with ⟨h3, rfl⟩ | ⟨h3, h4, rfl⟩
  · rw [if_pos h3]; exact ⟨rfl, by decide, hu⟩
  · rw [if_neg (by rw [h3]; decide), if_pos h4]; exact ⟨rfl, by decide, hu⟩
theorem putP_made {f : Fi} {l : List Int} (hy : Bys l) (hl : 0 < l.length) (h : pFi bdD (l.drop 1) = some (f, [])) (h0 : nth (0 : Int) l 0 ≠ 0) (hf : formN f = nth (0 : Int) l 0) : putP f = some l := by
  have hs := pFi_snd bdD _ _ _ (fun x hx => hy x (List.mem_of_mem_drop hx)) h
  rw [List.append_nil] at hs
  match l, hl with
  | b :: r, _ =>
    have hs' : r = encFi f := hs
    have hb : nth (0 : Int) (b :: r) 0 = b := rfl
    rw [hb] at h0 hf
    unfold formN at hf
    unfold putP
    split at hf
    · rename_i h3; rw [if_pos h3, hs', ← hf]
    · rename_i h3
      rw [if_neg h3]
      split at hf
      · rename_i h4; rw [if_pos h4, hs', ← hf]
      · exact (h0 hf.symm).elim
theorem putP_not {l : List Int} {f : Fi} {j : Nat} {bd : Bool} (hj : j ≤ l.length) (hs : St (pFi bdD) l 1 false f j bd) (h : bd = true ∨ j ≠ l.length ∨ nth (0 : Int) l 0 = 0 ∨ formN f ≠ nth (0 : Int) l 0) : ∀ g : Fi, g.nums → putP g ≠ some l := by
  intro g hn hp
  obtain ⟨h1, h2, h3⟩ := putP_head hp hn
  have hb : nth (0 : Int) l 0 = formN g := by rw [h1]; rfl
  cases bd with
  | true => rcases hs.2 rfl with h4 | h4
            · cases h4
            · rw [h3] at h4; cases h4
  | false =>
    have h4 := (hs.1 rfl).2
    rw [h3] at h4
    simp only [Option.some.injEq, Prod.mk.injEq] at h4
    obtain ⟨rfl, h5⟩ := h4
    have h6 := congrArg List.length h5
    rw [List.length_drop] at h6
    simp at h6
    rcases h with h | h | h | h
    · cases h
    · omega
    · exact h2 (by rw [← hb]; exact h)
    · exact h hb.symm
theorem results_cell_tmpW {P : Program} {fn : Func} {p q : Tmp} {ty : TypeId} (h : fn.results = #[.cell p ty, .tmp q]) (tmps : Array Value) (w : World) (b : Nat) (t : TypeId) (cs : Array Value) (v : Value) (fr : Nat × Nat) (d : TypeDesc)
    (hp : tmps.getD p undef = .pointer (some ⟨b, 0, none⟩)) (hq : tmps.getD q undef = v) (hb : w.heap[b]? = some (.cells cs t fr))
    (hu : P.underlying ty = some d) (hd : (match d with | .struct _ | .array _ _ => true | _ => false) = true) (hi : (P.info? ty).map (·.size) = some cs.size) :
    (results fn tmps).run P w = .ok (.tuple #[.agg cs, v]) w := by
  have hp' : tmps[p]?.getD undef = .pointer (some ⟨b, 0, none⟩) := by simpa using hp
  have hq' : tmps[q]?.getD undef = v := by simpa using hq
  simp [results, h, hp', hq', asAddr, run_loadVar_row w b t ty cs fr d hb hu hd hi]
abbrev rdDO (D : Option Addr) (n c : Nat) : Obj := .cells #[.slice D n c, .int .i64 1, .bool false] 66
set_option maxHeartbeats 4000000 in
theorem dget_none (D : Option Addr) (c : Nat) (w : World) : Calls Try.prog 10 #[.slice D 0 c] w (GetQ w []) := by
  have HN := hidW (show ∀ g : Fi, g.nums → putP g ≠ some [] from fun g hn hp => by have := (putP_head hp hn).1; cases this)
  go_enter Try.func10, Try.ntmps10
  go_wp2
  refine bodyPost_ret (results_cell_tmpW rfl _ _ w.heap.size _ _ (.int .i64 2) _ _ rfl rfl ((Below.heap_alloc _ _ _ (by simp)).trans (heap_alloc_new w fiZ)) Try.underlying25 rfl info_fi) rfl ?_
  exact ⟨((Bl.refl w).alloc _).alloc _, Or.inr ⟨HN.out, rfl⟩⟩
set_option maxHeartbeats 40000000 in
theorem dget_some (D : Option Addr) (c : Nat) (l : List Int) (w : World) (hD : BysAt w D l) (hy : Bys l) (hB : l.length ≤ 1048576) (hl : 0 < l.length) :
    Calls Try.prog 10 #[.slice D l.length c] w (GetQ w l) := by
  have hl0 : ¬ l.length = 0 := by omega
  have HY := hidW hy
  have X0 := hidW (show Dx w (((w.alloc fiZ).alloc fiZ).alloc (rdDO D l.length c)) (((w.alloc fiZ).alloc fiZ).alloc (rdDO D l.length c)) (w.heap.size + 2) (w.heap.size + 3) D c l 1 false (w.heap.size + 1) #[.slice none 0 0, .slice none 0 0] 25 from ⟨⟨(((Bl.refl w).alloc _).alloc _).alloc _, by omega, by
    have := heap_alloc_new ((w.alloc fiZ).alloc fiZ) (rdDO D l.length c)
    rw [World.size_alloc, World.size_alloc] at this
    exact this, hD, by omega, by unfold maxLen; omega⟩, Kp.refl _ _, (Below.heap_alloc _ _ _ (by simp)).trans (by
    have := heap_alloc_new (w.alloc fiZ) fiZ
    rw [World.size_alloc] at this
    exact this)⟩)
  have E0 := hidW (show (((w.alloc fiZ).alloc fiZ).alloc (rdDO D l.length c)).heap[w.heap.size]? = some (.cells #[.slice none 0 0, .slice none 0 0] 25 (0, 0)) from (Below.heap_alloc _ _ _ (by simp; omega)).trans ((Below.heap_alloc _ _ _ (by simp)).trans (heap_alloc_new w fiZ)))
  have HD := hidW hD
  clear hD hy
  obtain ⟨j0, hi0, hz0, hz1, hz2⟩ := info_takeClasses
  obtain ⟨g0, gi0, gz0, gz1, gz2⟩ := info_takeMethods
  go_enter Try.func10, Try.ntmps10
  go_upto_block 0 with (go_at_call 23; refine (dmany_any X0.out.rd).mono ?_; rintro e w1 ⟨x1, i1, b1, rfl, n1, k1, r1, s1⟩; have N1 := hidW n1; have S1 := hidW s1; have X1 := hidW (X0.out.call (by omega) k1 r1); have hs1 := k1.size; have E1 := hidW ((k1.block w.heap.size (by simp; omega) (fun e => by unfold OneB at e; omega)).trans E0.out); clear n1 k1 r1 s1)
  have h61 := N1.out
  unfold I64 at h61
  simp only [World.size_alloc] at hs1
  go_cut [] (fun wx => ∃ cs C pc j bd, Dx w w1 wx (w.heap.size + 2) w1.heap.size D c l j bd (w.heap.size + 1) #[.slice C cs.length pc, .slice none 0 0] 25 ∧ ClsAt (er (oldB w1.heap.size) wx) C cs ∧ cs.length ≤ 131073 ∧ St (pL mxI (pCl bdD)) l 1 false cs j bd)
  case first =>
    go_wp2_with fail
    go_loopg [7] x1.toNat (fun g s7 wr => ∃ (m : Nat) (xs : List Cl) (j : Nat) (bd : Bool) (v : Value), g = x1.toNat - m ∧ s7 = .int .i64 (m : Int) ∧ Lst (pCl bdD) x1.toNat l i1 b1 m xs j bd ∧ Dx w w1 wr (w.heap.size + 2) w1.heap.size D c l j bd (w.heap.size + 1) #[v, .slice none 0 0] 25 ∧ LW cl0 ItCl 2 43 w1.heap.size wr v xs)
    case atStart => exact ⟨0, [], i1, b1, _, by omega, rfl, Lst.begin _ _ _ _ _, X1.out.base, LW.nil _ _ _ _ _ _⟩
    case round =>
      obtain ⟨m, xs, j, bd, v, hg, rfl, hl, hx, h3⟩ := hrel
      have HG := hidW hg
      have HL := hidW hl
      have HX := hidW hx
      have H3 := hidW h3
      have bb2 := blk_cell hx.rd.blk 2 rfl
      have hws := hx.kp.size
      have hfew := hl.few
      have HXL := hidW hl.len
      clear hg hl hx h3
      by_cases hlt : (m : Int) < x1
      · cases bd with
        | true =>
          obtain ⟨A, k, hv, hat⟩ := H3.out.cls (by rw [HXL.out]; unfold maxLen; omega)
          have HAT := hidW hat
          have HV := hidW hv
          clear hat hv
          go_wp2
          go_meet
          case rel => exact ⟨xs, A, k, j, true, by rw [← HV.out]; exact HX.out, HAT.out, by rw [HXL.out]; exact hfew, Lst.ends S1.out HL.out (Or.inl rfl)⟩
        | false =>
          have hsm := HL.out.small (pCl_eats bdD) hB
          have Z10 := hidW (Dx.new HX.out.rd (Kp.refl (Sq3 (w.heap.size + 2) wr.heap.size wr.heap.size) wr) #[.int .i64 0, .slice none 0 0] 43)
          go_wp2_with (first
            | (have := Z11; go_at_call 25; refine (dtypes_any Z11.out.rd hB).mono ?_; rintro e w12 ⟨ts, A, k, i12, b12, rfl, k12, t12, r12, s12⟩; have y12 := Z11.out.call (by omega) k12 r12; have d0 := blk_cell y12.blk 0 rfl; have d1 := blk_cell y12.blk 1 rfl; have z12 := blk_free y12.blk 1; have S12 := hidW s12; have Z12 := hidW (y12.set (by omega) (by omega) 1 (.slice A ts.length k)); have hs12 := lt_of_blkW y12.blk; have hb11 := lt_of_blkW Z11.out.blk; have T12 := hidW (t12.sub ((er_less (N := wr.heap.size + 1) (by omega)).trans (er_set (k := wr.heap.size) (o := 1) (v := .slice A ts.length k) (N := wr.heap.size) (by omega) (by omega)))); have LA := hidW (H3.out.keepQ ItCl.st (Z12.out.alloc (.cells #[.int .i64 x11, .slice A ts.length k] 43)).kp (fun j hj => by rcases hj with e | e | e <;> omega)); have yo := HX.out.over Z12.out (Nat.le_refl _) hws (by omega) (by omega); have d6 := blk_cell yo.blk 0 rfl; have ZO := hidW (yo.alloc (.cells #[.int .i64 x11, .slice A ts.length k] 43)); have IT := hidW (item_far (x := (⟨x11, ts⟩ : Cl)) ItCl.st H3.out hws (.cells #[.int .i64 x11, .slice A ts.length k] 43) (ci := [.int .i64 x11, .slice A ts.length k]) ⟨A, k, rfl, N11.out, T12.out⟩); obtain ⟨ds, la1, la2⟩ := LA.out.ex; have LA1 := hidW la1; have LA2 := hidW la2; clear k12 t12 r12 s12 y12 yo la1 la2)
            | (have := Z10; go_at_call 24; refine (dnum_any Z10.out.rd).mono ?_; rintro e w11 ⟨x11, i11, b11, rfl, n11, k11, r11, s11⟩; have y11 := Z10.out.call (by omega) k11 r11; have N11 := hidW n11; have S11 := hidW s11; have q11 := blk_cell y11.blk 0 rfl; have z11 := blk_free y11.blk 0; have Z11 := hidW (y11.set (by omega) (by omega) 0 (.int .i64 x11)); clear n11 k11 r11 s11 y11)
            | (at_builtin; refine wpList_append_lies _ rfl (.tmp 42) (.tmp 44) 22 rfl w1.heap.size 43 j0 _ 2 32 Try.underlying22 hi0 hz0 hz1 hz2 rfl (by omega) v xs.length ds (by rfl) (by exact LA1.out) ⟨w12.heap.size, 0, none⟩ 1 1 [.int .i64 x11, .slice A ts.length k] (by rfl) (by rfl) (World.news_of_block (cs := #[.int .i64 x11, .slice A ts.length k]) (t := 43) (fr := (0, 0)) (by have := heap_alloc_new (w12.setCell ⟨wr.heap.size, 1, none⟩ (.slice A ts.length k)) (.cells #[.int .i64 x11, .slice A ts.length k] 43); rw [World.size_setCell] at this; exact this)) (by simp [Value.oneCell']) (by omega) (by rw [HXL.out]; unfold maxLen; omega) (by rw [HXL.out]; omega) (by simp; omega) (w12.heap.size + 1) (by simp) ?_; intro gg cap w13 hown1 hgrow hat hlt3; have GB := hidW (LA1.out.lt); have GR := hidW (grown_kp hgrow); have G13 := hidW (LW.app (x := (⟨x11, ts⟩ : Cl)) ItCl.st rfl rfl LA1.out LA2.out IT.out hown1 hgrow (by simpa using hat)); have y13 := ZO.out.kept GR.out (fun e2 => by have := (GB.out _ e2).1; omega) (fun e2 => by have := (GB.out _ e2).1; omega) (fun j hj => by have := (GB.out j hj).1; omega) (by omega); have c13 := blk_cell y13.blk 0 rfl; have z13 := blk_free y13.blk 0; have Z13 := hidW y13; clear hown1 hgrow hat hlt3 y13))
          go_roundg (x1.toNat - (m + 1))
          case measure => rw [HG.out]; omega
          case rel => exact ⟨m + 1, xs ++ [⟨x11, ts⟩], i12, b12, _, rfl, by go_num, HL.out.next (by omega) (pCl_eats bdD) hB (St.cl S11.out S12.out), Z13.out.set (by omega) (by omega) 0 _, G13.out.keepQ ItCl.st ((Kp.refl (OneB (w.heap.size + 1)) _).set (p := ⟨w.heap.size + 1, 0, none⟩) rfl _) (fun j hj => Or.inl (by rw [hj]; omega))⟩
      · obtain ⟨A, k, hv, hat⟩ := H3.out.cls (by rw [HXL.out]; unfold maxLen; omega)
        have HAT := hidW hat
        have HV := hidW hv
        clear hat hv
        go_wp2
        go_meet
        case rel => exact ⟨xs, A, k, j, bd, by rw [← HV.out]; exact HX.out, HAT.out, by rw [HXL.out]; exact hfew, Lst.ends S1.out HL.out (Or.inr (by omega))⟩
  case rest =>
    obtain ⟨cs, C, pc, j, bd, hx1, hx2, hx3, hx4⟩ := hcut
    have W1 := hidW hx1
    have C1 := hidW hx2
    have hcl := hx3
    have SC := hidW hx4
    have hsw := hx1.kp.size
    clear hx1 hx2 hx3 hx4
    go_upto_block 2 with (go_at_call 23; refine (dmany_any W1.out.rd).mono ?_; rintro e w31 ⟨x31, i31, b31, rfl, n31, k31, r31, s31⟩; have N31 := hidW n31; have K31 := hidW k31; have R31 := hidW r31; have S31 := hidW s31; clear n31 k31 r31 s31)
    have h31 := N31.out
    unfold I64 at h31
    have W2 := hidW (W1.out.call (by omega) K31.out R31.out)
    have hs31 := K31.out.size
    have C2 := hidW (C1.out.sub (er_keepQ (N := w1.heap.size) K31.out (fun j hj => by unfold OneB at hj; omega)))
    go_cut [] (fun wx => ∃ ms K pk j4 bd4, Dx w w31 wx (w.heap.size + 2) w31.heap.size D c l j4 bd4 (w.heap.size + 1) #[.slice C cs.length pc, .slice K ms.length pk] 25 ∧ MesAt (er (oldB w31.heap.size) wx) K ms ∧ ms.length ≤ 131073 ∧ St (pL mxI (pMe bdD)) l j bd ms j4 bd4)
    case first =>
      go_wp2_with fail
      go_loopg [10] x31.toNat (fun g s10 wr => ∃ (m : Nat) (xs : List Me) (j4 : Nat) (bd4 : Bool) (v : Value), g = x31.toNat - m ∧ s10 = .int .i64 (m : Int) ∧ Lst (pMe bdD) x31.toNat l i31 b31 m xs j4 bd4 ∧ Dx w w31 wr (w.heap.size + 2) w31.heap.size D c l j4 bd4 (w.heap.size + 1) #[.slice C cs.length pc, v] 25 ∧ LW me0 ItMe 8 50 w31.heap.size wr v xs)
      case atStart => exact ⟨0, [], i31, b31, _, by omega, rfl, Lst.begin _ _ _ _ _, W2.out.base, LW.nil _ _ _ _ _ _⟩
      case round =>
        obtain ⟨m, xs, j4, bd4, v, hg, rfl, hl, hx, h3⟩ := hrel
        have HG := hidW hg
        have HL := hidW hl
        have HX := hidW hx
        have H3 := hidW h3
        have bb2 := blk_cell hx.rd.blk 2 rfl
        have hws := hx.kp.size
        have hfew := hl.few
        have HXL := hidW hl.len
        clear hg hl hx h3
        by_cases hlt : (m : Int) < x31
        · cases bd4 with
          | true =>
            obtain ⟨A, k, hv, hat⟩ := H3.out.mes (by rw [HXL.out]; unfold maxLen; omega)
            have HAT := hidW hat
            have HV := hidW hv
            clear hat hv
            go_wp2
            go_meet
            case rel => exact ⟨xs, A, k, j4, true, by rw [← HV.out]; exact HX.out, HAT.out, by rw [HXL.out]; exact hfew, Lst.ends S31.out HL.out (Or.inl rfl)⟩
          | false =>
            have hsm := HL.out.small (pMe_eats bdD) hB
            go_wp2_with (first
              | (go_at_call 26; refine (dmethod_any HX.out.rd hB).mono ?_; rintro e w41 ⟨x, P, C', K, pp, pc', pk, i41, b41, rfl, k41, t41, r41, s41⟩; have y41 := HX.out.call (by omega) k41 r41; have d1 := blk_cell (y41.alloc (.cells #[.slice P x.params.length pp, .int .i64 x.ret.kind, .int .i64 x.ret.cls, .int .i64 x.stack, .int .i64 x.locs, .int .i64 x.regs, .slice C' x.code.length pc', .slice K x.hands.length pk] 50)).blk 1 rfl; have S41 := hidW s41; have hs41 := k41.size; have LA := hidW (H3.out.keepQ ItMe.st (S := OneB (w.heap.size + 2)) ((k41.alloc (.cells #[.slice P x.params.length pp, .int .i64 x.ret.kind, .int .i64 x.ret.cls, .int .i64 x.stack, .int .i64 x.locs, .int .i64 x.regs, .slice C' x.code.length pc', .slice K x.hands.length pk] 50)).alloc (.cells #[.slice P x.params.length pp, .int .i64 x.ret.kind, .int .i64 x.ret.cls, .int .i64 x.stack, .int .i64 x.locs, .int .i64 x.regs, .slice C' x.code.length pc', .slice K x.hands.length pk] 50)) (fun j hj => Or.inl (by rw [hj]; omega))); have ZO := hidW ((y41.alloc (.cells #[.slice P x.params.length pp, .int .i64 x.ret.kind, .int .i64 x.ret.cls, .int .i64 x.stack, .int .i64 x.locs, .int .i64 x.regs, .slice C' x.code.length pc', .slice K x.hands.length pk] 50)).alloc (.cells #[.slice P x.params.length pp, .int .i64 x.ret.kind, .int .i64 x.ret.cls, .int .i64 x.stack, .int .i64 x.locs, .int .i64 x.regs, .slice C' x.code.length pc', .slice K x.hands.length pk] 50)); have IT := hidW (item_far (x := x) ItMe.st H3.out hws (.cells #[.slice P x.params.length pp, .int .i64 x.ret.kind, .int .i64 x.ret.cls, .int .i64 x.stack, .int .i64 x.locs, .int .i64 x.regs, .slice C' x.code.length pc', .slice K x.hands.length pk] 50) (w2 := w41.alloc (.cells #[.slice P x.params.length pp, .int .i64 x.ret.kind, .int .i64 x.ret.cls, .int .i64 x.stack, .int .i64 x.locs, .int .i64 x.regs, .slice C' x.code.length pc', .slice K x.hands.length pk] 50)) (ci := [.slice P x.params.length pp, .int .i64 x.ret.kind, .int .i64 x.ret.cls, .int .i64 x.stack, .int .i64 x.locs, .int .i64 x.regs, .slice C' x.code.length pc', .slice K x.hands.length pk]) ⟨P, C', K, pp, pc', pk, rfl, t41.sub (er_to fun b hb hlt => ⟨hb, Below.heap_alloc _ _ _ hlt⟩)⟩); obtain ⟨ds, la1, la2⟩ := LA.out.ex; have LA1 := hidW la1; have LA2 := hidW la2; clear k41 t41 r41 s41 y41 la1 la2)
              | (at_builtin; refine wpList_append_lies _ rfl (.tmp 64) (.tmp 66) 23 rfl w31.heap.size 50 g0 _ 8 112 Try.underlying23 gi0 gz0 gz1 gz2 rfl (by omega) v xs.length ds (by rfl) (by exact LA1.out) ⟨w41.heap.size + 1, 0, none⟩ 1 1 [.slice P x.params.length pp, .int .i64 x.ret.kind, .int .i64 x.ret.cls, .int .i64 x.stack, .int .i64 x.locs, .int .i64 x.regs, .slice C' x.code.length pc', .slice K x.hands.length pk] (by rfl) (by rfl) (World.news_of_block (cs := #[.slice P x.params.length pp, .int .i64 x.ret.kind, .int .i64 x.ret.cls, .int .i64 x.stack, .int .i64 x.locs, .int .i64 x.regs, .slice C' x.code.length pc', .slice K x.hands.length pk]) (t := 50) (fr := (0, 0)) (by have := heap_alloc_new (w41.alloc (.cells #[.slice P x.params.length pp, .int .i64 x.ret.kind, .int .i64 x.ret.cls, .int .i64 x.stack, .int .i64 x.locs, .int .i64 x.regs, .slice C' x.code.length pc', .slice K x.hands.length pk] 50)) (.cells #[.slice P x.params.length pp, .int .i64 x.ret.kind, .int .i64 x.ret.cls, .int .i64 x.stack, .int .i64 x.locs, .int .i64 x.regs, .slice C' x.code.length pc', .slice K x.hands.length pk] 50); rw [World.size_alloc] at this; exact this)) (by simp [Value.oneCell']) (by omega) (by rw [HXL.out]; unfold maxLen; omega) (by rw [HXL.out]; omega) (by simp; omega) (w41.heap.size + 2) (by simp) ?_; intro gg cap w45 hown1 hgrow hat hlt3; have GB := hidW (LA1.out.lt); have GR := hidW (grown_kp hgrow); have G45 := hidW (LW.app (x := x) ItMe.st rfl rfl LA1.out LA2.out IT.out hown1 hgrow (by simpa using hat)); have y45 := ZO.out.kept GR.out (fun e2 => by have := (GB.out _ e2).1; omega) (fun e2 => by have := (GB.out _ e2).1; omega) (fun j hj => by have := (GB.out j hj).1; omega) (by omega); have c45 := blk_cell y45.blk 1 rfl; have z45 := blk_free y45.blk 1; have Z45 := hidW y45; clear hown1 hgrow hat hlt3 y45))
            go_roundg (x31.toNat - (m + 1))
            case measure => rw [HG.out]; omega
            case rel => exact ⟨m + 1, xs ++ [x], i41, b41, _, rfl, by go_num, HL.out.next (by omega) (pMe_eats bdD) hB S41.out, Z45.out.set (by omega) (by omega) 1 _, G45.out.keepQ ItMe.st ((Kp.refl (OneB (w.heap.size + 1)) _).set (p := ⟨w.heap.size + 1, 1, none⟩) rfl _) (fun j hj => Or.inl (by rw [hj]; omega))⟩
        · obtain ⟨A, k, hv, hat⟩ := H3.out.mes (by rw [HXL.out]; unfold maxLen; omega)
          have HAT := hidW hat
          have HV := hidW hv
          clear hat hv
          go_wp2
          go_meet
          case rel => exact ⟨xs, A, k, j4, bd4, by rw [← HV.out]; exact HX.out, HAT.out, by rw [HXL.out]; exact hfew, Lst.ends S31.out HL.out (Or.inr (by omega))⟩
    case rest =>
      obtain ⟨ms, K, pk, j4, bd4, hx1, hx2, hx3, hx4⟩ := hcut
      have V5 := hidW hx1.blk
      have B5 := hidW ((hx1.kp.block w.heap.size (lt_of_blkW ((K31.out.block w.heap.size (lt_of_blkW ((W1.out.kp.block w.heap.size (lt_of_blkW E1.out) (fun hj => by rcases hj with e | e | e <;> omega)).trans E1.out)) (fun e => by unfold OneB at e; omega)).trans ((W1.out.kp.block w.heap.size (lt_of_blkW E1.out) (fun hj => by rcases hj with e | e | e <;> omega)).trans E1.out))) (fun hj => by rcases hj with e | e | e <;> omega)).trans ((K31.out.block w.heap.size (lt_of_blkW ((W1.out.kp.block w.heap.size (lt_of_blkW E1.out) (fun hj => by rcases hj with e | e | e <;> omega)).trans E1.out)) (fun e => by unfold OneB at e; omega)).trans ((W1.out.kp.block w.heap.size (lt_of_blkW E1.out) (fun hj => by rcases hj with e | e | e <;> omega)).trans E1.out)))
      have BW := hidW hx1.rd.bl
      have LE := hidW hx1.rd.le
      have SF := hidW (St.fi SC.out hx4)
      have HCE := hidW (C2.out.sub (er_keepQ (N := w1.heap.size) hx1.kp (fun j hj => by rcases hj with e | e | e <;> omega)))
      have HME := hidW hx2
      have HC := hidW ((C2.out.sub (er_keepQ (N := w1.heap.size) hx1.kp (fun j hj => by rcases hj with e | e | e <;> omega))).sub (er_sub _ _))
      have HM := hidW (hx2.sub (er_sub _ _))
      have r1 := fut_cell (blk_cell hx1.rd.blk 1 rfl)
      have r2 := fut_cell (blk_cell hx1.rd.blk 2 rfl)
      have t0 := fut_cell (blk_cell hx1.blk 0 rfl)
      have t1 := fut_cell (blk_cell hx1.blk 1 rfl)
      have hle := hx1.rd.le
      have hby := HY.out _ (nth_mem (d := (0 : Int)) (l := l) (i := 0) hl)
      unfold BY at hby
      obtain ⟨b, off, rfl, hb0⟩ : ∃ b off, D = some ⟨b, off, none⟩ ∧ w.cell? ⟨b, off, none⟩ = some (.int .u8 (nth (0 : Int) l 0)) := by
        rcases HD.out with h0 | ⟨b, off, h1, h2⟩
        · omega
        · exact ⟨b, off, h1, by have := h2 0 hl; rw [Nat.add_zero] at this; exact this⟩
      have hbc := fut_cell (hx1.rd.bl.cell hb0)
      obtain ⟨B0, hB0⟩ : ∃ B0, B0 = nth (0 : Int) l 0 := ⟨_, rfl⟩
      rw [← hB0] at hbc hby
      have HB0 := hidW hB0
      have hl1 : (0 : Int) < (l.length : Int) := by omega
      clear hx1 hx2 hx3 hx4 hb0 hB0
      cases bd4 with
      | true =>
        (go_wp2; refine wp_region_fut (by kernel_rfl) (by kernel_rfl) fun hne => ?_)
        repeat (go_big_quiet_step (fail))
        refine wpQuiet_nil ?_
        rintro w2 ⟨⟨wq, hw2⟩, he⟩
        change w2 = wq at he
        subst he
        have H2 := hidW hw2
        have y0 := (hw2.block w.heap.size (lt_of_blkW B5.out)).trans B5.out
        have V2 := hidW ((hw2.block (w.heap.size + 1) (lt_of_blkW V5.out)).trans V5.out)
        have Y0 := hidW y0
        have e0 := blk_cell y0 0 rfl
        have e1 := blk_cell y0 1 rfl
        have u0 := blk_free y0 0
        have u1 := blk_free y0 1
        clear hw2 y0
        go_wp2
        refine bodyPost_ret (results_cell_tmpW rfl _ _ w.heap.size _ _ (.int .i64 2) _ _ rfl rfl (set_block (set_block Y0.out 0 (.slice none 0 0)) 1 (.slice none 0 0)) Try.underlying25 rfl info_fi) rfl ?_
        exact ⟨(((BW.out.trans H2.out).setCell (p := ⟨w.heap.size, 0, none⟩) (Nat.le_refl _) _).setCell (p := ⟨w.heap.size, 1, none⟩) (Nat.le_refl _) _), Or.inr ⟨putP_not LE.out SF.out (Or.inl rfl), rfl⟩⟩
      | false =>
        by_cases hj : j4 = l.length
        · have hjn : ((j4 : Int) != (l.length : Int)) = false := by rw [hj]; simp
          by_cases hb : B0 = 0
          · have hbz : (B0 == 0) = true := by rw [hb]; rfl
            (go_wp2; refine wp_region_fut (by kernel_rfl) (by kernel_rfl) fun hne => ?_)
            repeat (go_big_quiet_step (fail))
            refine wpQuiet_nil ?_
            rintro w2 ⟨⟨wq, hw2⟩, he⟩
            change w2 = wq at he
            subst he
            have H2 := hidW hw2
            have y0 := (hw2.block w.heap.size (lt_of_blkW B5.out)).trans B5.out
            have V2 := hidW ((hw2.block (w.heap.size + 1) (lt_of_blkW V5.out)).trans V5.out)
            have Y0 := hidW y0
            have e0 := blk_cell y0 0 rfl
            have e1 := blk_cell y0 1 rfl
            have u0 := blk_free y0 0
            have u1 := blk_free y0 1
            clear hw2 y0
            go_wp2
            refine bodyPost_ret (results_cell_tmpW rfl _ _ w.heap.size _ _ (.int .i64 2) _ _ rfl rfl (set_block (set_block Y0.out 0 (.slice none 0 0)) 1 (.slice none 0 0)) Try.underlying25 rfl info_fi) rfl ?_
            exact ⟨(((BW.out.trans H2.out).setCell (p := ⟨w.heap.size, 0, none⟩) (Nat.le_refl _) _).setCell (p := ⟨w.heap.size, 1, none⟩) (Nat.le_refl _) _), Or.inr ⟨putP_not LE.out SF.out (Or.inr (Or.inr (Or.inl (by rw [← HB0.out]; exact hb)))), rfl⟩⟩
          · have hbz : (B0 == 0) = false := by simpa using hb
            (go_wp2; refine wp_region_fut (by kernel_rfl) (by kernel_rfl) fun hne => ?_)
            repeat (go_big_quiet_step ((go_at_call 7; exact Calls.fut_eq _ (rform_any ⟨cs, ms⟩ _ _ _ _ _ (HC.out.bl (Fut.is _)) (HM.out.bl (Fut.is _))) rfl)))
            refine wpQuiet_nil ?_
            rintro w2 ⟨⟨wq, hw2⟩, he⟩
            change w2 = wq at he
            subst he
            have H2 := hidW hw2
            have y0 := (hw2.block w.heap.size (lt_of_blkW B5.out)).trans B5.out
            have V2 := hidW ((hw2.block (w.heap.size + 1) (lt_of_blkW V5.out)).trans V5.out)
            have Y0 := hidW y0
            have e0 := blk_cell y0 0 rfl
            have e1 := blk_cell y0 1 rfl
            have u0 := blk_free y0 0
            have u1 := blk_free y0 1
            clear hw2 y0
            by_cases hf : formN ⟨cs, ms⟩ = B0
            · have hfn : (formN ⟨cs, ms⟩ != B0) = false := by rw [hf]; simp
              have v0 := blk_cell V2.out 0 rfl
              have v1 := blk_cell V2.out 1 rfl
              have HF := hidW hf
              clear hf
              go_wp2
              refine bodyPost_ret (results_cell_tmpW rfl _ _ w.heap.size _ _ (.int .i64 0) _ _ rfl rfl (set_block (set_block Y0.out 0 (.slice C cs.length pc)) 1 (.slice K ms.length pk)) Try.underlying25 rfl info_fi) rfl ?_
              have hjl := hj
              have h4 := (SF.out.1 rfl).2
              rw [hjl, List.drop_length] at h4
              have hsub : Sub (er (oldB (w.heap.size + 1)) w2) ((w2.setCell ⟨w.heap.size, 0, none⟩ (.slice C cs.length pc)).setCell ⟨w.heap.size, 1, none⟩ (.slice K ms.length pk)) := ((er_set (k := w.heap.size) (o := 0) (by omega) (Nat.le_refl _)).trans (er_set (k := w.heap.size) (o := 1) (by omega) (Nat.le_refl _))).trans (er_sub _ _)
              have hup : ∀ N, w.heap.size + 1 ≤ N → Sub (er (oldB N) wc) (er (oldB (w.heap.size + 1)) w2) := fun N hN => (er_to (T := oldB N) fun b hb hlt => ⟨hb, H2.out.block b hlt⟩).trans (er_less hN)
              refine ⟨(((BW.out.trans H2.out).setCell (p := ⟨w.heap.size, 0, none⟩) (Nat.le_refl _) _).setCell (p := ⟨w.heap.size, 1, none⟩) (Nat.le_refl _) _), Or.inl ⟨⟨cs, ms⟩, C, K, pc, pk, putP_made HY.out hl h4 (by rw [← HB0.out]; exact hb) (by rw [← HB0.out]; exact HF.out), nums_of (f := ⟨cs, ms⟩) HC.out HM.out, rfl, HCE.out.sub ((hup w1.heap.size (by omega)).trans hsub), HME.out.sub ((hup w31.heap.size (by omega)).trans hsub)⟩⟩
            · have hfn : (formN ⟨cs, ms⟩ != B0) = true := by simpa using hf
              go_wp2
              refine bodyPost_ret (results_cell_tmpW rfl _ _ w.heap.size _ _ (.int .i64 2) _ _ rfl rfl (set_block (set_block Y0.out 0 (.slice none 0 0)) 1 (.slice none 0 0)) Try.underlying25 rfl info_fi) rfl ?_
              exact ⟨(((BW.out.trans H2.out).setCell (p := ⟨w.heap.size, 0, none⟩) (Nat.le_refl _) _).setCell (p := ⟨w.heap.size, 1, none⟩) (Nat.le_refl _) _), Or.inr ⟨putP_not LE.out SF.out (Or.inr (Or.inr (Or.inr (by rw [← HB0.out]; exact hf)))), rfl⟩⟩
        · have hjn : ((j4 : Int) != (l.length : Int)) = true := by simp; omega
          (go_wp2; refine wp_region_fut (by kernel_rfl) (by kernel_rfl) fun hne => ?_)
          repeat (go_big_quiet_step (fail))
          refine wpQuiet_nil ?_
          rintro w2 ⟨⟨wq, hw2⟩, he⟩
          change w2 = wq at he
          subst he
          have H2 := hidW hw2
          have y0 := (hw2.block w.heap.size (lt_of_blkW B5.out)).trans B5.out
          have V2 := hidW ((hw2.block (w.heap.size + 1) (lt_of_blkW V5.out)).trans V5.out)
          have Y0 := hidW y0
          have e0 := blk_cell y0 0 rfl
          have e1 := blk_cell y0 1 rfl
          have u0 := blk_free y0 0
          have u1 := blk_free y0 1
          clear hw2 y0
          go_wp2
          refine bodyPost_ret (results_cell_tmpW rfl _ _ w.heap.size _ _ (.int .i64 2) _ _ rfl rfl (set_block (set_block Y0.out 0 (.slice none 0 0)) 1 (.slice none 0 0)) Try.underlying25 rfl info_fi) rfl ?_
          exact ⟨(((BW.out.trans H2.out).setCell (p := ⟨w.heap.size, 0, none⟩) (Nat.le_refl _) _).setCell (p := ⟨w.heap.size, 1, none⟩) (Nat.le_refl _) _), Or.inr ⟨putP_not LE.out SF.out (Or.inr (Or.inl hj)), rfl⟩⟩
theorem dget_any (D : Option Addr) (c : Nat) (l : List Int) (w : World) (hD : BysAt w D l) (hy : Bys l) (hB : l.length ≤ 1048576) :
    Calls Try.prog 10 #[.slice D l.length c] w (GetQ w l) := by
  by_cases hl : 0 < l.length
  · exact dget_some D c l w hD hy hB hl
  · obtain rfl : l = [] := List.eq_nil_of_length_eq_zero (by omega)
    exact dget_none D c w

end Go.Proofs.Ytgiiapenmjollab
