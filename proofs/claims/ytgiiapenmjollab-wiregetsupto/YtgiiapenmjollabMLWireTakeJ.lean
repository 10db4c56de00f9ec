/-
  Methods are taken.
-/
import Derived.Test.YtgiiapenmjollabMLWireTakeH
import Derived.Test.YtgiiapenmjollabMLWireTakeG
import Derived.Test.YtgiiapenmjollabMLWireUse
import Derived.Laws.IdiomStrings
namespace Go.Proofs.Ytgiiapenmjollab
open Go.RowKit
set_option maxRecDepth 100000
set_option linter.unusedVariables false
set_option linter.unusedSimpArgs false

theorem takeMethod_no {W0 w : World} {p : Nat} {l : List Int} (h : RdW W0 w p l) (hy : Bys l) (hn : pMe bdP l = none) : Calls Try.prog 50 #[.pointer (some ⟨p, 0, none⟩)] w fun e w' => e = noE ∧ Kp (OneB p) w w' :=
  (takeMethod_any W0 w p l h hy).mono fun e w' ⟨k, q⟩ => by
    rcases q with ⟨_, h1⟩ | ⟨t, r, _, _, _, _, _, _, h1, _⟩
    · exact ⟨h1, k⟩
    · rw [hn] at h1; cases h1
theorem takeMethod_yes {W0 w : World} {p : Nat} {l : List Int} (h : RdW W0 w p l) (hy : Bys l) {x : Me} {r : List Int} (hn : pMe bdP l = some (x, r)) : Calls Try.prog 50 #[.pointer (some ⟨p, 0, none⟩)] w fun e w' => ∃ P C K pp pc pk, e = .returned (.agg #[.slice P x.params.length pp, .int .i64 x.ret.kind, .int .i64 x.ret.cls, .int .i64 x.stack, .int .i64 x.locs, .int .i64 x.regs, .slice C x.code.length pc, .slice K x.hands.length pk]) ∧ MeAt (er (oldB w.heap.size) w') x P C K ∧ RdW W0 w' p r ∧ Kp (OneB p) w w' :=
  (takeMethod_any W0 w p l h hy).mono fun e w' ⟨k, q⟩ => by
    rcases q with ⟨h1, _⟩ | ⟨t, r', P, C, K, pp, pc, pk, h1, h2, h3, h4⟩
    · rw [hn] at h1; cases h1
    · rw [hn] at h1
      simp only [Option.some.injEq, Prod.mk.injEq] at h1
      obtain ⟨rfl, rfl⟩ := h1
      exact ⟨P, C, K, pp, pc, pk, h2, h3, h4, k⟩
def ItMe (w : World) (t : Me) (cs : List Value) : Prop := ∃ P C K pp pc pk, cs = [.slice P t.params.length pp, .int .i64 t.ret.kind, .int .i64 t.ret.cls, .int .i64 t.stack, .int .i64 t.locs, .int .i64 t.regs, .slice C t.code.length pc, .slice K t.hands.length pk] ∧ MeAt w t P C K
theorem ItMe.st : ∀ w w' x cs, Sub w w' → ItMe w x cs → ItMe w' x cs := fun _ _ _ _ hs ⟨P, C, K, pp, pc, pk, h1, h2⟩ => ⟨P, C, K, pp, pc, pk, h1, h2.sub hs⟩
theorem LW.mes {e : TypeId} {N : Nat} {w : World} {v : Value} {xs : List Me} (h : LW me0 ItMe 8 e N w v xs) (hl : xs.length ≤ maxLen) : ∃ A c, v = .slice A xs.length c ∧ MesAt (er (oldB N) w) A xs := by
  obtain ⟨A, c, hv, h1⟩ := h.lies ItMe.st
  refine ⟨A, c, hv, hl, ?_⟩
  rcases h1 with h0 | ⟨g, hA, hi⟩
  · exact Or.inl h0
  refine Or.inr ⟨g, 0, hA, fun i hi' => ?_⟩
  obtain ⟨ci, ⟨P, C, K, pp, pc, pk, rfl, i1⟩, hc⟩ := hi i hi'
  exact ⟨P, C, K, pp, pc, pk, hc 0 _ (by omega) rfl, hc 1 _ (by omega) rfl, hc 2 _ (by omega) rfl, hc 3 _ (by omega) rfl, hc 4 _ (by omega) rfl, hc 5 _ (by omega) rfl, hc 6 _ (by omega) rfl, hc 7 _ (by omega) rfl, i1⟩

theorem info_takeMethods : ∃ i, Try.prog.info? 50 = some i ∧ i.zero = some (.agg #[.slice none 0 0, .int .i64 0, .int .i64 0, .int .i64 0, .int .i64 0, .int .i64 0, .slice none 0 0, .slice none 0 0]) ∧ i.size = 8 ∧ i.bytes = 112 := info_partsW (by kernel_rfl)
def takeMethodsQ (M : Int) (W0 w : World) (p : Nat) (l : List Int) (e : Ending) (w' : World) : Prop :=
  Kp (OneB p) w w' ∧ ((pL M (pMe bdP) l = none ∧ e = noE) ∨ ∃ xs r A c, pL M (pMe bdP) l = some (xs, r) ∧ e = .returned (.slice A xs.length c) ∧ MesAt (er (oldB w.heap.size) w') A xs ∧ RdW W0 w' p r)
set_option maxHeartbeats 8000000 in
theorem takeMethods_any (M : Int) (hM : M ≤ 2400) (W0 w : World) (p : Nat) (l : List Int) (h : RdW W0 w p l) (hy : Bys l) :
    Calls Try.prog 49 #[.pointer (some ⟨p, 0, none⟩), .int .i64 M, .func (.func 50) #[] #[]] w (takeMethodsQ M W0 w p l) := by
  have hpl := h.lt
  have HR := hidW h
  have HY := hidW hy
  clear h hy
  obtain ⟨j0, hi0, hz0, hz1, hz2⟩ := info_takeMethods
  cases hp : pN l with
  | none =>
    have HP := hidW hp
    have HL := hidW (show pL M (pMe bdP) l = none by unfold pL; rw [hp]; rfl)
    clear hp
    go_enter Try.func49, Try.ntmps49
    go_wp2_with (go_at_call 74; refine (takeNum64_no HR.out HY.out HP.out).mono ?_; rintro e w1 ⟨rfl, k1⟩)
    exact ⟨rfl, k1, Or.inl ⟨HL.out, rfl⟩⟩
  | some y =>
    obtain ⟨n, l1⟩ := y
    have HP := hidW hp
    have hn64 := pN_i64 hp
    unfold I64 at hn64
    have HB1 := hidW (pN_snd.keeps l n l1 HY.out hp)
    by_cases hb : 0 ≤ n ∧ n ≤ M
    · have HL := hidW (show pL M (pMe bdP) l = pMany (pMe bdP) n.toNat l1 by unfold pL; rw [hp, Option.bind_some]; simp only; rw [if_pos hb])
      clear hp
      obtain ⟨m, rfl⟩ : ∃ m : Nat, n = (m : Int) := ⟨n.toNat, by omega⟩
      have hm : m ≤ 2400 := by omega
      rw [show ((m : Int)).toNat = m by omega] at HL
      have hbd : decide ((0 : Int) ≤ (m : Int) ∧ (m : Int) ≤ M) = true := decide_eq_true (by omega)
      clear hb hn64
      go_enter Try.func49, Try.ntmps49
      go_wp2_with (first
        | (go_at_call 74; refine (takeNum64_yes HR.out HY.out HP.out).mono ?_; rintro e w1 ⟨rfl, r1, k1⟩; have R1 := hidW r1; have K1 := hidW k1; clear r1 k1)
        | (go_at_call 75; refine (span64_any _ _ _ _).mono ?_; rintro e w2 ⟨he, hw⟩; rw [hbd] at he; subst he; rw [hw]; clear hw w2))
      clear hbd
      go_loopw [8, 17] (fun v i wr => ∃ (k : Nat) (xs : List Me) (r : List Int), k ≤ m ∧ i = .int .i64 (k : Int) ∧ pMany (pMe bdP) k l1 = some (xs, r) ∧ RdW W0 wr p r ∧ LW me0 ItMe 8 50 w.heap.size wr v xs ∧ Kp (NB p w.heap.size) w wr) (fun _ i _ => m - (intOf i).toNat)
      case atStart => exact ⟨0, [], l1, by omega, rfl, rfl, R1.out, LW.nil _ _ _ _ _ _, K1.out.one⟩
      case round =>
        obtain ⟨k, xs, r, hk, rfl, h1, h2, h3, h4⟩ := hrel
        have H1 := hidW h1
        have H2 := hidW h2
        have H3 := hidW h3
        have H4 := hidW h4
        have hxl := many_len _ _ _ _ h1
        have hws := h4.size
        clear h1 h2 h3 h4
        have HB := hidW (many_keeps ((pMe_snd bdP).keeps) k l1 xs r HB1.out H1.out)
        by_cases hlt : k < m
        · cases hp : (pMe bdP) r with
          | none =>
            have HPX := hidW hp
            clear hp
            go_wp2_with (go_at_call 50; refine (takeMethod_no H2.out HB.out HPX.out).mono ?_; rintro e w2 ⟨rfl, k2⟩)
            exact ⟨rfl, (H4.out.trans k2.one).nb, Or.inl ⟨by rw [HL.out]; exact many_stop H1.out hlt HPX.out, rfl⟩⟩
          | some y =>
            obtain ⟨x, r'⟩ := y
            have HPX := hidW hp
            clear hp
            obtain ⟨v, hv⟩ : ∃ v, v = u8 := ⟨u8, rfl⟩
            have HX := hidW hxl
            clear hxl
            subst hv
            go_wp2_with (first
              | (go_at_call 50; refine (takeMethod_yes H2.out HB.out HPX.out).mono ?_; rintro e w2 ⟨P2, C2, K2, pp2, pc2, pk2, rfl, t2, r2, k2⟩; have it2 : ItMe (er (oldB wr.heap.size) w2) x [.slice P2 x.params.length pp2, .int .i64 x.ret.kind, .int .i64 x.ret.cls, .int .i64 x.stack, .int .i64 x.locs, .int .i64 x.regs, .slice C2 x.code.length pc2, .slice K2 x.hands.length pk2] := ⟨P2, C2, K2, pp2, pc2, pk2, rfl, t2⟩; clear t2; have R2 := hidW r2; have KK2 := hidW k2; have IT := hidW (item_far ItMe.st H3.out hws (.cells #[.slice P2 x.params.length pp2, .int .i64 x.ret.kind, .int .i64 x.ret.cls, .int .i64 x.stack, .int .i64 x.locs, .int .i64 x.regs, .slice C2 x.code.length pc2, .slice K2 x.hands.length pk2] 50) it2); have LA := hidW ((H3.out.keep ItMe.st k2 (fun j hj => by rw [hj]; exact hpl)).keep ItMe.st ((Kp.refl (fun _ => False) w2).alloc (.cells #[.slice P2 x.params.length pp2, .int .i64 x.ret.kind, .int .i64 x.ret.cls, .int .i64 x.stack, .int .i64 x.locs, .int .i64 x.regs, .slice C2 x.code.length pc2, .slice K2 x.hands.length pk2] 50)) (fun _ hf => hf.elim)); clear r2 k2 it2; obtain ⟨cs, la1, la2⟩ := LA.out.ex; have LA1 := hidW la1; have LA2 := hidW la2; clear la1 la2)
              | (at_builtin; refine wpList_append_lies _ rfl (.tmp 19) (.tmp 23) 23 rfl w.heap.size 50 j0 _ 8 112 Try.underlying23 hi0 hz0 hz1 hz2 rfl (by omega) v xs.length cs (by rfl) (by exact LA1.out) ⟨w2.heap.size, 0, none⟩ 1 1 [.slice P2 x.params.length pp2, .int .i64 x.ret.kind, .int .i64 x.ret.cls, .int .i64 x.stack, .int .i64 x.locs, .int .i64 x.regs, .slice C2 x.code.length pc2, .slice K2 x.hands.length pk2] (by rfl) (by rfl) (World.news_of_block (cs := #[.slice P2 x.params.length pp2, .int .i64 x.ret.kind, .int .i64 x.ret.cls, .int .i64 x.stack, .int .i64 x.locs, .int .i64 x.regs, .slice C2 x.code.length pc2, .slice K2 x.hands.length pk2]) (t := 50) (fr := (0, 0)) (heap_alloc_new w2 _)) (by simp [Value.oneCell']) (by omega) (by rw [HX.out]; unfold maxLen; omega) (by rw [HX.out]; omega) (by have := KK2.out.size; simp; omega) (w2.heap.size + 1) (by simp) ?_; intro gg cap w3 hown1 hgrow hat hlt2; have G3 := hidW (LW.app ItMe.st rfl rfl LA1.out LA2.out IT.out hown1 hgrow (by simpa using hat)); have GB := hidW (LA1.out.lt); have GR := hidW hgrow; clear hown1 hgrow hat hlt2))
            have HKW := hidW (show Kp (NB p w.heap.size) (w2.alloc (.cells #[.slice P2 x.params.length pp2, .int .i64 x.ret.kind, .int .i64 x.ret.cls, .int .i64 x.stack, .int .i64 x.locs, .int .i64 x.regs, .slice C2 x.code.length pc2, .slice K2 x.hands.length pk2] 50)) w3 from ⟨GR.out.os, GR.out.tape, GR.out.output, GR.out.size, fun j hj hn => GR.out.block j hj fun e2 => hn (Or.inr (GB.out j e2.symm).1)⟩)
            go_roundw
            case rel => exact ⟨k + 1, xs ++ [x], r', by omega, by go_num, many_next H1.out HPX.out, ((R2.out.alloc _).keep (S := fun j => v.ownBlock = some j) ⟨GR.out.os, GR.out.tape, GR.out.output, GR.out.size, fun j hj hn => GR.out.block j hj fun e2 => hn e2.symm⟩ (fun e2 => by have := (GB.out p e2).1; omega) (fun j hj => by have := (GB.out j hj).1; have := HR.out.bl.size; omega)), G3.out, ((H4.out.trans KK2.out.one).alloc _).trans HKW.out⟩
            case measure => simp [intOf]; omega
        · obtain rfl : k = m := by omega
          obtain ⟨A, c, hv, hat⟩ := H3.out.mes (by rw [hxl]; unfold maxLen; omega)
          have HAT := hidW hat
          clear hat
          subst hv
          go_wp2
          go_ret
          exact ⟨H4.out.nb, Or.inr ⟨xs, r, A, c, by rw [HL.out]; exact H1.out, rfl, HAT.out, H2.out⟩⟩
    · have HL := hidW (show pL M (pMe bdP) l = none by unfold pL; rw [hp, Option.bind_some]; simp only; rw [if_neg hb])
      have hbd : decide ((0 : Int) ≤ n ∧ n ≤ M) = false := decide_eq_false hb
      clear hp hb
      go_enter Try.func49, Try.ntmps49
      go_wp2_with (first
        | (go_at_call 74; refine (takeNum64_yes HR.out HY.out HP.out).mono ?_; rintro e w1 ⟨rfl, r1, k1⟩; have K1 := hidW k1; clear r1 k1)
        | (go_at_call 75; refine (span64_any _ _ _ _).mono ?_; rintro e w2 ⟨he, hw⟩; rw [hbd] at he; subst he; rw [hw]; clear hw w2)
        | (go_at_call 52; refine (giveUp_any _).mono ?_; rintro e w3 ⟨rfl, hw⟩; rw [hw]; clear hw w3))
      exact ⟨rfl, K1.out, Or.inl ⟨HL.out, rfl⟩⟩
theorem takeMethods_no {M : Int} (hM : M ≤ 2400) {W0 w : World} {p : Nat} {l : List Int} (h : RdW W0 w p l) (hy : Bys l) (hn : pL M (pMe bdP) l = none) : Calls Try.prog 49 #[.pointer (some ⟨p, 0, none⟩), .int .i64 M, .func (.func 50) #[] #[]] w fun e w' => e = noE ∧ Kp (OneB p) w w' :=
  (takeMethods_any M hM W0 w p l h hy).mono fun e w' ⟨k, q⟩ => by
    rcases q with ⟨_, h1⟩ | ⟨xs, r, A, c, h1, _⟩
    · exact ⟨h1, k⟩
    · rw [hn] at h1; cases h1
theorem takeMethods_yes {M : Int} (hM : M ≤ 2400) {W0 w : World} {p : Nat} {l : List Int} (h : RdW W0 w p l) (hy : Bys l) {xs : List Me} {r : List Int} (hn : pL M (pMe bdP) l = some (xs, r)) : Calls Try.prog 49 #[.pointer (some ⟨p, 0, none⟩), .int .i64 M, .func (.func 50) #[] #[]] w fun e w' => ∃ A c, e = .returned (.slice A xs.length c) ∧ MesAt (er (oldB w.heap.size) w') A xs ∧ RdW W0 w' p r ∧ Kp (OneB p) w w' :=
  (takeMethods_any M hM W0 w p l h hy).mono fun e w' ⟨k, q⟩ => by
    rcases q with ⟨h1, _⟩ | ⟨xs', r', A, c, h1, h2, h3, h4⟩
    · rw [hn] at h1; cases h1
    · rw [hn] at h1
      simp only [Option.some.injEq, Prod.mk.injEq] at h1
      obtain ⟨rfl, rfl⟩ := h1
      exact ⟨A, c, h2, h3, h4, k⟩

end Go.Proofs.Ytgiiapenmjollab
namespace Go.Proofs.Ytgiiapenmjollab
open Go.RowKit
set_option maxRecDepth 100000
set_option linter.unusedVariables false
set_option linter.unusedSimpArgs false

theorem ClsAt.sub {W w' : World} (h : Sub W w') {A : Option Addr} {l : List Cl} (hl : ClsAt W A l) : ClsAt w' A l := by
  refine ⟨hl.1, ?_⟩
  rcases hl.2 with h0 | ⟨b, off, rfl, hi⟩
  · exact Or.inl h0
  right
  refine ⟨b, off, rfl, fun i hlt => ?_⟩
  obtain ⟨h0, h1, A', c, h2, h3⟩ := hi i hlt
  exact ⟨h _ _ _ h0, h1, A', c, h _ _ _ h2, h3.sub h⟩
theorem MesAt.sub {W w' : World} (h : Sub W w') {A : Option Addr} {l : List Me} (hl : MesAt W A l) : MesAt w' A l := by
  refine ⟨hl.1, ?_⟩
  rcases hl.2 with h0 | ⟨b, off, rfl, hi⟩
  · exact Or.inl h0
  right
  refine ⟨b, off, rfl, fun i hlt => ?_⟩
  obtain ⟨P, C, K, p, c, k, h0, h1, h2, h3, h4, h5, h6, h7, h8⟩ := hi i hlt
  exact ⟨P, C, K, p, c, k, h _ _ _ h0, h _ _ _ h1, h _ _ _ h2, h _ _ _ h3, h _ _ _ h4, h _ _ _ h5, h _ _ _ h6, h _ _ _ h7, h8.sub h⟩
theorem info_fi : (Try.prog.info? 25).map (·.size) = some 2 := by kernel_rfl
/-- A file, behind the first byte. -/
def pFile (l : List Int) : Option (Fi × List Int) := if l.length < 1 then none else pFi bdP (l.drop 1)
def FileQ (W0 w : World) (p : Nat) (l : List Int) (e : Ending) (w' : World) : Prop :=
  Kp (OneB p) w w' ∧ ((pFile l = none ∧ e = noE) ∨ ∃ x r A B a b, pFile l = some (x, r) ∧ e = .returned (fiV x.classes.length x.methods.length A B a b) ∧ ClsAt (er (oldB w.heap.size) w') A x.classes ∧ MesAt (er (oldB w.heap.size) w') B x.methods)
abbrev fiZ : Obj := .cells #[.slice none 0 0, .slice none 0 0] 25
set_option maxHeartbeats 8000000 in
theorem takeFile_any (W0 w : World) (p : Nat) (l : List Int) (h : RdW W0 w p l) (hy : Bys l) :
    Calls Try.prog 21 #[.pointer (some ⟨p, 0, none⟩)] w (FileQ W0 w p l) := by
  have hpl := h.lt
  have hW := h.bl.size
  have HR := hidW (h.alloc fiZ)
  have HY := hidW hy
  have HK := hidW ((Kp.refl (NB p w.heap.size) w).alloc fiZ)
  have HE := hidW (heap_alloc_new w fiZ)
  clear h hy
  by_cases hl1 : l.length < 1
  · have HL := hidW (show pFile l = none by unfold pFile; rw [if_pos hl1])
    go_enter Try.func21, Try.ntmps21
    go_wp2_with (go_at_call 46; refine (take_any W0 _ p 1 l HR.out (by omega)).mono ?_; intro e w1 hq; obtain ⟨rfl, hw⟩ : e = noE ∧ w1 = _ := (hq.resolve_right fun hx => by have := hx.1; omega).2; rw [hw]; clear hq hw w1)
    exact ⟨rfl, HK.out.nb, Or.inl ⟨HL.out, rfl⟩⟩
  · have HY0 := hidW (show Bys (l.drop 1) from fun x hx => HY.out x (List.mem_of_mem_drop hx))
    have HL0 := hidW (show pFile l = pFi bdP (l.drop 1) by unfold pFile; rw [if_neg hl1])
    obtain ⟨l0, hl0⟩ : ∃ l0, l0 = l.drop 1 := ⟨_, rfl⟩
    rw [← hl0] at HY0 HL0
    have HL00 := hidW hl0
    clear hl0
    cases hq1 : pL 12 (pCl bdP) l0 with
    | none =>
      have HQ1 := hidW hq1
      have HL := hidW (show pFile l = none by rw [HL0.out]; unfold pFi; show (pL 12 (pCl bdP) l0).bind _ = _; rw [hq1]; rfl)
      clear hq1
      go_enter Try.func21, Try.ntmps21
      go_wp2_with (first
        | (go_at_call 46; refine (take_any W0 _ p 1 l HR.out (by omega)).mono ?_; intro e w1 hq; obtain ⟨_, A0, c0, rfl, _, r1, k1⟩ := hq.resolve_left fun hx => (by have := hx.1; omega); rw [← HL00.out] at r1; have R1 := hidW (r1.alloc fiZ); have K1 := hidW ((HK.out.trans k1.one).alloc fiZ); clear hq r1 k1)
        | (go_at_call 47; refine (takeClasses_no (M := 12) (by omega) R1.out HY0.out HQ1.out).mono ?_; rintro e w2 ⟨rfl, k2⟩))
      exact ⟨rfl, (K1.out.trans k2.one).nb, Or.inl ⟨HL.out, rfl⟩⟩
    | some y1 =>
    obtain ⟨cs, l1⟩ := y1
    have HQ1 := hidW hq1
    have HY1 := hidW (pL_keeps (pCl_snd bdP) l0 cs l1 HY0.out hq1)
    cases hq2 : pL 8 (pMe bdP) l1 with
    | none =>
      have HQ2 := hidW hq2
      have HL := hidW (show pFile l = none by rw [HL0.out]; unfold pFi; show (pL 12 (pCl bdP) l0).bind _ = _; rw [hq1, Option.bind_some]; show (pL 8 (pMe bdP) l1).bind _ = _; rw [hq2]; rfl)
      clear hq1 hq2
      go_enter Try.func21, Try.ntmps21
      go_wp2_with (first
        | (go_at_call 46; refine (take_any W0 _ p 1 l HR.out (by omega)).mono ?_; intro e w1 hq; obtain ⟨_, A0, c0, rfl, _, r1, k1⟩ := hq.resolve_left fun hx => (by have := hx.1; omega); rw [← HL00.out] at r1; have hp1 := r1.lt; have R1 := hidW (r1.alloc fiZ); have K1 := hidW ((HK.out.trans k1.one).alloc fiZ); have V1 := hidW (heap_alloc_new w1 fiZ); have hs1 := (HK.out.trans k1.one).size; clear hq r1 k1)
        | (go_at_call 47; refine (takeClasses_yes (M := 12) (by omega) R1.out HY0.out HQ1.out).mono ?_; rintro e w2 ⟨A, a, rfl, t2, r2, k2⟩; have v2 := (k2.block w1.heap.size (by simp) (fun e2 => by unfold OneB at e2; omega)).trans V1.out; have d0 := blk_cell v2 0 rfl; have z0 := blk_free v2 0; have R2 := hidW r2; have K2 := hidW (K1.out.trans k2.one); clear t2 r2 k2 v2)
        | (go_at_call 49; refine (takeMethods_no (M := 8) (by omega) (R2.out.set (k := w1.heap.size) (o := 0) (by omega) (by omega) _) HY1.out HQ2.out).mono ?_; rintro e w3 ⟨rfl, k3⟩))
      exact ⟨rfl, ((K2.out.set (p := ⟨w1.heap.size, 0, none⟩) (Or.inr (show w.heap.size ≤ w1.heap.size by omega)) _).trans k3.one).nb, Or.inl ⟨HL.out, rfl⟩⟩
    | some y2 =>
      obtain ⟨ms, r⟩ := y2
      have HQ2 := hidW hq2
      have HL := hidW (show pFile l = some (⟨cs, ms⟩, r) by rw [HL0.out]; unfold pFi; show (pL 12 (pCl bdP) l0).bind _ = _; rw [hq1, Option.bind_some]; show (pL 8 (pMe bdP) l1).bind _ = _; rw [hq2]; rfl)
      clear hq1 hq2
      go_enter Try.func21, Try.ntmps21
      go_wp2_with (first
        | (go_at_call 46; refine (take_any W0 _ p 1 l HR.out (by omega)).mono ?_; intro e w1 hq; obtain ⟨_, A0, c0, rfl, _, r1, k1⟩ := hq.resolve_left fun hx => (by have := hx.1; omega); rw [← HL00.out] at r1; have hp1 := r1.lt; have b1 := (k1.block w.heap.size (by simp) (fun e2 => by unfold OneB at e2; omega)).trans HE.out; have hb1 := lt_of_blk b1; have R1 := hidW (r1.alloc fiZ); have K1 := hidW ((HK.out.trans k1.one).alloc fiZ); have V1 := hidW (heap_alloc_new w1 fiZ); have B1 := hidW ((Below.heap_alloc w1 fiZ w.heap.size hb1).trans b1); clear hq r1 k1 b1)
        | (go_at_call 47; refine (takeClasses_yes (M := 12) (by omega) R1.out HY0.out HQ1.out).mono ?_; rintro e w2 ⟨A, a, rfl, t2, r2, k2⟩; have v2 := (k2.block w1.heap.size (by simp) (fun e2 => by unfold OneB at e2; omega)).trans V1.out; have b2 := (k2.block w.heap.size (lt_of_blk B1.out) (fun e2 => by unfold OneB at e2; omega)).trans B1.out; have d0 := blk_cell v2 0 rfl; have z0 := blk_free v2 0; have R2 := hidW (r2.set (k := w1.heap.size) (o := 0) (by omega) (by omega) (.slice A cs.length a)); have K2 := hidW ((K1.out.trans k2.one).set (p := ⟨w1.heap.size, 0, none⟩) (Or.inr (show w.heap.size ≤ w1.heap.size by omega)) (.slice A cs.length a)); have V2 := hidW (set_block v2 0 (.slice A cs.length a)); have hne : w.heap.size ≠ w1.heap.size := (by omega); have B2 := hidW ((Below.heap_setCell w2 ⟨w1.heap.size, 0, none⟩ (.slice A cs.length a) w.heap.size hne).trans b2); have T2 := hidW ((show ClsAt (er (oldB (w1.heap.size + 1)) w2) A cs by simpa using t2).sub (er_set (k := w1.heap.size) (o := 0) (v := .slice A cs.length a) (by omega) (Nat.le_refl _))); clear t2 r2 k2 v2 b2)
        | (go_at_call 49; refine (takeMethods_yes (M := 8) (by omega) R2.out HY1.out HQ2.out).mono ?_; rintro e w3 ⟨B, b, rfl, t3, r3, k3⟩; have v3 := (k3.block w1.heap.size (lt_of_blk V2.out) (fun e2 => by unfold OneB at e2; omega)).trans V2.out; have b3 := (k3.block w.heap.size (lt_of_blk B2.out) (fun e2 => by unfold OneB at e2; omega)).trans B2.out; have g0 := blk_cell v3 0 rfl; have g1 := blk_cell v3 1 rfl; have z1 := blk_free v3 1; have f0 := blk_cell b3 0 rfl; have f1 := blk_cell b3 1 rfl; have y0 := blk_free b3 0; have y1 := blk_free b3 1; have hv2 := lt_of_blk V2.out; have K3 := hidW (K2.out.trans k3.one); have V3 := hidW v3; have B3 := hidW b3; have T3 := hidW (T2.out.sub (er_keep (p := p) (N := w1.heap.size + 1) k3.one (by omega))); have M3 := hidW (t3.sub (er_less (N := w1.heap.size + 1) (by simp at hv2 ⊢; omega))); clear t3 r3 k3 v3 b3))
      refine bodyPost_ret (results_cell_row rfl _ _ w.heap.size _ _ _ _ rfl (set_block (set_block ((Below.heap_setCell _ _ _ _ hne).trans B3.out) 0 (.slice A cs.length a)) 1 (.slice B ms.length b)) Try.underlying25 rfl info_fi) rfl ?_
      refine ⟨(((K3.out.set (p := ⟨w1.heap.size, 1, none⟩) (Or.inr (show w.heap.size ≤ w1.heap.size by omega)) _).set (p := ⟨w.heap.size, 0, none⟩) (Or.inr (by simp)) _).set (p := ⟨w.heap.size, 1, none⟩) (Or.inr (by simp)) _).nb, Or.inr ⟨_, r, A, B, a, b, HL.out, rfl, ?_, ?_⟩⟩
      · exact T3.out.sub (((er_set (k := w1.heap.size) (o := 1) (by omega) (Nat.le_refl _)).trans (er_set (k := w.heap.size) (o := 0) (by omega) (Nat.le_refl _))).trans (er_set (k := w.heap.size) (o := 1) (by omega) (by omega)))
      · exact M3.out.sub (((er_set (k := w1.heap.size) (o := 1) (by omega) (Nat.le_refl _)).trans (er_set (k := w.heap.size) (o := 0) (by omega) (Nat.le_refl _))).trans (er_set (k := w.heap.size) (o := 1) (by omega) (by omega)))

theorem BysAt.conv {w : World} {A : Option Addr} {l : List Int} (c : Nat) (h : BysAt w A l) : (convert 26 9 (.slice A l.length c)).run Try.prog w = .ok (.string (strB l)) w := by
  rcases h with h0 | ⟨b, off, rfl, hi⟩
  · obtain rfl : l = [] := List.length_eq_zero_iff.1 h0
    cases A with
    | none => exact run_convert_bytes_nil w 26 5 Try.underlying26 Try.underlying5 _ _ 9 Try.underlying9
    | some a => exact run_convert_bytes_back w 26 9 5 a c [] Try.underlying26 Try.underlying5 Try.underlying9 (fun j hj => by simp at hj)
  · exact run_convert_bytes_arg w 26 5 Try.underlying26 Try.underlying5 b off _ _ l rfl hi 9 Try.underlying9
set_option maxHeartbeats 4000000 in
theorem bytesEqual_any (A B : Option Addr) (a b : Nat) (x y : List Int) (w : World) (hA : BysAt w A x) (hB : BysAt w B y) :
    Calls Try.prog 51 #[.slice A x.length a, .slice B y.length b] w fun e w' => e = .returned (.bool ((strB x).toList == (strB y).toList)) ∧ Bl w w' := by
  have q1 := hA.conv a
  have q2 := hB.conv b
  clear hA hB
  go_enter Try.func51, Try.ntmps51
  go_wp2
  go_ret
  exact ⟨rfl, Bl.refl _⟩

end Go.Proofs.Ytgiiapenmjollab
