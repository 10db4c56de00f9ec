/-
  Lists of types, of handlers and of numbers are taken.
-/
import Derived.Test.YtgiiapenmjollabMWireList
import Derived.Test.YtgiiapenmjollabMWirePutB
namespace Go.Proofs.Ytgiiapenmjollab
open Go.RowKit
set_option maxRecDepth 100000
set_option linter.unusedVariables false
set_option linter.unusedSimpArgs false

theorem takeType_no {W0 w : World} {p : Nat} {l : List Int} (h : RdW W0 w p l) (hy : Bys l) (hn : pTy l = none) : Calls Try.prog 78 #[.pointer (some ⟨p, 0, none⟩)] w fun e w' => e = noE ∧ Kp (OneB p) w w' :=
  (takeType_any W0 w p l h hy).mono fun e w' ⟨k, q⟩ => by
    rcases q with ⟨_, h1⟩ | ⟨t, r, h1, _⟩
    · exact ⟨h1, k⟩
    · rw [hn] at h1; cases h1
theorem takeType_yes {W0 w : World} {p : Nat} {l : List Int} (h : RdW W0 w p l) (hy : Bys l) {x : Ty} {r : List Int} (hn : pTy l = some (x, r)) : Calls Try.prog 78 #[.pointer (some ⟨p, 0, none⟩)] w fun e w' => e = .returned (.agg #[.int .i64 x.kind, .int .i64 x.cls]) ∧ RdW W0 w' p r ∧ Kp (OneB p) w w' :=
  (takeType_any W0 w p l h hy).mono fun e w' ⟨k, q⟩ => by
    rcases q with ⟨h1, _⟩ | ⟨t, r', h1, h2, h3⟩
    · rw [hn] at h1; cases h1
    · rw [hn] at h1
      simp only [Option.some.injEq, Prod.mk.injEq] at h1
      obtain ⟨rfl, rfl⟩ := h1
      exact ⟨h2, h3, k⟩

theorem takeHandler_no {W0 w : World} {p : Nat} {l : List Int} (h : RdW W0 w p l) (hy : Bys l) (hn : pHd l = none) : Calls Try.prog 83 #[.pointer (some ⟨p, 0, none⟩)] w fun e w' => e = noE ∧ Kp (OneB p) w w' :=
  (takeHandler_any W0 w p l h hy).mono fun e w' ⟨k, q⟩ => by
    rcases q with ⟨_, h1⟩ | ⟨t, r, h1, _⟩
    · exact ⟨h1, k⟩
    · rw [hn] at h1; cases h1
theorem takeHandler_yes {W0 w : World} {p : Nat} {l : List Int} (h : RdW W0 w p l) (hy : Bys l) {x : Hd} {r : List Int} (hn : pHd l = some (x, r)) : Calls Try.prog 83 #[.pointer (some ⟨p, 0, none⟩)] w fun e w' => e = .returned (.agg #[.int .i64 x.fr, .int .i64 x.til, .int .i64 x.pc, .int .i64 x.cls]) ∧ RdW W0 w' p r ∧ Kp (OneB p) w w' :=
  (takeHandler_any W0 w p l h hy).mono fun e w' ⟨k, q⟩ => by
    rcases q with ⟨h1, _⟩ | ⟨t, r', h1, h2, h3⟩
    · rw [hn] at h1; cases h1
    · rw [hn] at h1
      simp only [Option.some.injEq, Prod.mk.injEq] at h1
      obtain ⟨rfl, rfl⟩ := h1
      exact ⟨h2, h3, k⟩

theorem info_takeTypes : ∃ i, Try.prog.info? 46 = some i ∧ i.zero = some (.agg #[.int .i64 0, .int .i64 0]) ∧ i.size = 2 ∧ i.bytes = 16 := info_partsW (by kernel_rfl)
def takeTypesQ (M : Int) (W0 w : World) (p : Nat) (l : List Int) (e : Ending) (w' : World) : Prop :=
  Kp (OneB p) w w' ∧ ((pL M pTy l = none ∧ e = noE) ∨ ∃ xs r A c, pL M pTy l = some (xs, r) ∧ e = .returned (.slice A xs.length c) ∧ TysAt (er (oldB w.heap.size) w') A xs ∧ RdW W0 w' p r)
set_option maxHeartbeats 8000000 in
theorem takeTypes_any (M : Int) (hM : M ≤ 2400) (W0 w : World) (p : Nat) (l : List Int) (h : RdW W0 w p l) (hy : Bys l) :
    Calls Try.prog 77 #[.pointer (some ⟨p, 0, none⟩), .int .i64 M, .func (.func 78) #[] #[]] w (takeTypesQ M W0 w p l) := by
  have hpl := h.lt
  have HR := hidW h
  have HY := hidW hy
  clear h hy
  obtain ⟨j0, hi0, hz0, hz1, hz2⟩ := info_takeTypes
  cases hp : pN l with
  | none =>
    have HP := hidW hp
    have HL := hidW (show pL M pTy l = none by unfold pL; rw [hp]; rfl)
    clear hp
    go_enter Try.func77, Try.ntmps77
    go_wp2_with (go_at_call 74; refine (takeNum64_no HR.out HY.out HP.out).mono ?_; rintro e w1 ⟨rfl, k1⟩)
    exact ⟨rfl, k1, Or.inl ⟨HL.out, rfl⟩⟩
  | some y =>
    obtain ⟨n, l1⟩ := y
    have HP := hidW hp
    have hn64 := pN_i64 hp
    unfold I64 at hn64
    have HB1 := hidW (pN_snd.keeps l n l1 HY.out hp)
    by_cases hb : 0 ≤ n ∧ n ≤ M
    · have HL := hidW (show pL M pTy l = pMany pTy n.toNat l1 by unfold pL; rw [hp, Option.bind_some]; simp only; rw [if_pos hb])
      clear hp
      obtain ⟨m, rfl⟩ : ∃ m : Nat, n = (m : Int) := ⟨n.toNat, by omega⟩
      have hm : m ≤ 2400 := by omega
      rw [show ((m : Int)).toNat = m by omega] at HL
      have hbd : decide ((0 : Int) ≤ (m : Int) ∧ (m : Int) ≤ M) = true := decide_eq_true (by omega)
      clear hb hn64
      go_enter Try.func77, Try.ntmps77
      go_wp2_with (first
        | (go_at_call 74; refine (takeNum64_yes HR.out HY.out HP.out).mono ?_; rintro e w1 ⟨rfl, r1, k1⟩; have R1 := hidW r1; have K1 := hidW k1; clear r1 k1)
        | (go_at_call 75; refine (span64_any _ _ _ _).mono ?_; rintro e w2 ⟨he, hw⟩; rw [hbd] at he; subst he; rw [hw]; clear hw w2))
      clear hbd
      go_loopw [8, 17] (fun v i wr => ∃ (k : Nat) (xs : List Ty) (r : List Int), k ≤ m ∧ i = .int .i64 (k : Int) ∧ pMany pTy k l1 = some (xs, r) ∧ RdW W0 wr p r ∧ LW ty0 ItTy 2 46 w.heap.size wr v xs ∧ Kp (NB p w.heap.size) w wr) (fun _ i _ => m - (intOf i).toNat)
      case atStart => exact ⟨0, [], l1, by omega, rfl, rfl, R1.out, LW.nil _ _ _ _ _ _, K1.out.one⟩
      case round =>
        obtain ⟨k, xs, r, hk, rfl, h1, h2, h3, h4⟩ := hrel
        have H1 := hidW h1
        have H2 := hidW h2
        have H3 := hidW h3
        have H4 := hidW h4
        have hxl := many_len _ _ _ _ h1
        have hws := h4.size
        clear h1 h2 h3 h4
        have HB := hidW (many_keeps (pTy_snd.keeps) k l1 xs r HB1.out H1.out)
        by_cases hlt : k < m
        · cases hp : pTy r with
          | none =>
            have HPX := hidW hp
            clear hp
            go_wp2_with (go_at_call 78; refine (takeType_no H2.out HB.out HPX.out).mono ?_; rintro e w2 ⟨rfl, k2⟩)
            exact ⟨rfl, (H4.out.trans k2.one).nb, Or.inl ⟨by rw [HL.out]; exact many_stop H1.out hlt HPX.out, rfl⟩⟩
          | some y =>
            obtain ⟨x, r'⟩ := y
            have HPX := hidW hp
            clear hp
            obtain ⟨v, hv⟩ : ∃ v, v = u8 := ⟨u8, rfl⟩
            have HX := hidW hxl
            clear hxl
            subst hv
            go_wp2_with (first
              | (go_at_call 78; refine (takeType_yes H2.out HB.out HPX.out).mono ?_; rintro e w2 ⟨rfl, r2, k2⟩; have it2 : ItTy (er (oldB wr.heap.size) w2) x [.int .i64 x.kind, .int .i64 x.cls] := ⟨rfl, pTy_i64 HPX.out⟩; have R2 := hidW r2; have K2 := hidW k2; have IT := hidW (item_far ItTy.st H3.out hws (.cells #[.int .i64 x.kind, .int .i64 x.cls] 46) it2); have LA := hidW ((H3.out.keep ItTy.st k2 (fun j hj => by rw [hj]; exact hpl)).keep ItTy.st ((Kp.refl (fun _ => False) w2).alloc (.cells #[.int .i64 x.kind, .int .i64 x.cls] 46)) (fun _ hf => hf.elim)); clear r2 k2 it2; obtain ⟨cs, la1, la2⟩ := LA.out.ex; have LA1 := hidW la1; have LA2 := hidW la2; clear la1 la2)
              | (at_builtin; refine wpList_append_lies _ rfl (.tmp 19) (.tmp 23) 41 rfl w.heap.size 46 j0 _ 2 16 Try.underlying41 hi0 hz0 hz1 hz2 rfl (by omega) v xs.length cs (by rfl) (by exact LA1.out) ⟨w2.heap.size, 0, none⟩ 1 1 [.int .i64 x.kind, .int .i64 x.cls] (by rfl) (by rfl) (World.news_of_block (cs := #[.int .i64 x.kind, .int .i64 x.cls]) (t := 46) (fr := (0, 0)) (heap_alloc_new w2 _)) (by simp [Value.oneCell']) (by omega) (by rw [HX.out]; unfold maxLen; omega) (by rw [HX.out]; omega) (by have := K2.out.size; simp; omega) (w2.heap.size + 1) (by simp) ?_; intro gg cap w3 hown1 hgrow hat hlt2; have G3 := hidW (LW.app ItTy.st rfl rfl LA1.out LA2.out IT.out hown1 hgrow (by simpa using hat)); have GB := hidW (LA1.out.lt); have GR := hidW hgrow; clear hown1 hgrow hat hlt2))
            have HKW := hidW (show Kp (NB p w.heap.size) (w2.alloc (.cells #[.int .i64 x.kind, .int .i64 x.cls] 46)) w3 from ⟨GR.out.os, GR.out.tape, GR.out.output, GR.out.size, fun j hj hn => GR.out.block j hj fun e2 => hn (Or.inr (GB.out j e2.symm).1)⟩)
            go_roundw
            case rel => exact ⟨k + 1, xs ++ [x], r', by omega, by go_num, many_next H1.out HPX.out, ((R2.out.alloc _).keep (S := fun j => v.ownBlock = some j) ⟨GR.out.os, GR.out.tape, GR.out.output, GR.out.size, fun j hj hn => GR.out.block j hj fun e2 => hn e2.symm⟩ (fun e2 => by have := (GB.out p e2).1; omega) (fun j hj => by have := (GB.out j hj).1; have := HR.out.bl.size; omega)), G3.out, ((H4.out.trans K2.out.one).alloc _).trans HKW.out⟩
            case measure => simp [intOf]; omega
        · obtain rfl : k = m := by omega
          obtain ⟨A, c, hv, hat⟩ := H3.out.tys (by rw [hxl]; unfold maxLen; omega)
          have HAT := hidW hat
          clear hat
          subst hv
          go_wp2
          go_ret
          exact ⟨H4.out.nb, Or.inr ⟨xs, r, A, c, by rw [HL.out]; exact H1.out, rfl, HAT.out, H2.out⟩⟩
    · have HL := hidW (show pL M pTy l = none by unfold pL; rw [hp, Option.bind_some]; simp only; rw [if_neg hb])
      have hbd : decide ((0 : Int) ≤ n ∧ n ≤ M) = false := decide_eq_false hb
      clear hp hb
      go_enter Try.func77, Try.ntmps77
      go_wp2_with (first
        | (go_at_call 74; refine (takeNum64_yes HR.out HY.out HP.out).mono ?_; rintro e w1 ⟨rfl, r1, k1⟩; have K1 := hidW k1; clear r1 k1)
        | (go_at_call 75; refine (span64_any _ _ _ _).mono ?_; rintro e w2 ⟨he, hw⟩; rw [hbd] at he; subst he; rw [hw]; clear hw w2)
        | (go_at_call 52; refine (giveUp_any _).mono ?_; rintro e w3 ⟨rfl, hw⟩; rw [hw]; clear hw w3))
      exact ⟨rfl, K1.out, Or.inl ⟨HL.out, rfl⟩⟩
theorem takeTypes_no {M : Int} (hM : M ≤ 2400) {W0 w : World} {p : Nat} {l : List Int} (h : RdW W0 w p l) (hy : Bys l) (hn : pL M pTy l = none) : Calls Try.prog 77 #[.pointer (some ⟨p, 0, none⟩), .int .i64 M, .func (.func 78) #[] #[]] w fun e w' => e = noE ∧ Kp (OneB p) w w' :=
  (takeTypes_any M hM W0 w p l h hy).mono fun e w' ⟨k, q⟩ => by
    rcases q with ⟨_, h1⟩ | ⟨xs, r, A, c, h1, _⟩
    · exact ⟨h1, k⟩
    · rw [hn] at h1; cases h1
theorem takeTypes_yes {M : Int} (hM : M ≤ 2400) {W0 w : World} {p : Nat} {l : List Int} (h : RdW W0 w p l) (hy : Bys l) {xs : List Ty} {r : List Int} (hn : pL M pTy l = some (xs, r)) : Calls Try.prog 77 #[.pointer (some ⟨p, 0, none⟩), .int .i64 M, .func (.func 78) #[] #[]] w fun e w' => ∃ A c, e = .returned (.slice A xs.length c) ∧ TysAt (er (oldB w.heap.size) w') A xs ∧ RdW W0 w' p r ∧ Kp (OneB p) w w' :=
  (takeTypes_any M hM W0 w p l h hy).mono fun e w' ⟨k, q⟩ => by
    rcases q with ⟨h1, _⟩ | ⟨xs', r', A, c, h1, h2, h3, h4⟩
    · rw [hn] at h1; cases h1
    · rw [hn] at h1
      simp only [Option.some.injEq, Prod.mk.injEq] at h1
      obtain ⟨rfl, rfl⟩ := h1
      exact ⟨A, c, h2, h3, h4, k⟩

theorem info_takeHandlers : ∃ i, Try.prog.info? 56 = some i ∧ i.zero = some (.agg #[.int .i64 0, .int .i64 0, .int .i64 0, .int .i64 0]) ∧ i.size = 4 ∧ i.bytes = 32 := info_partsW (by kernel_rfl)
def takeHandlersQ (M : Int) (W0 w : World) (p : Nat) (l : List Int) (e : Ending) (w' : World) : Prop :=
  Kp (OneB p) w w' ∧ ((pL M pHd l = none ∧ e = noE) ∨ ∃ xs r A c, pL M pHd l = some (xs, r) ∧ e = .returned (.slice A xs.length c) ∧ HdsAt (er (oldB w.heap.size) w') A xs ∧ RdW W0 w' p r)
set_option maxHeartbeats 8000000 in
theorem takeHandlers_any (M : Int) (hM : M ≤ 2400) (W0 w : World) (p : Nat) (l : List Int) (h : RdW W0 w p l) (hy : Bys l) :
    Calls Try.prog 82 #[.pointer (some ⟨p, 0, none⟩), .int .i64 M, .func (.func 83) #[] #[]] w (takeHandlersQ M W0 w p l) := by
  have hpl := h.lt
  have HR := hidW h
  have HY := hidW hy
  clear h hy
  obtain ⟨j0, hi0, hz0, hz1, hz2⟩ := info_takeHandlers
  cases hp : pN l with
  | none =>
    have HP := hidW hp
    have HL := hidW (show pL M pHd l = none by unfold pL; rw [hp]; rfl)
    clear hp
    go_enter Try.func82, Try.ntmps82
    go_wp2_with (go_at_call 74; refine (takeNum64_no HR.out HY.out HP.out).mono ?_; rintro e w1 ⟨rfl, k1⟩)
    exact ⟨rfl, k1, Or.inl ⟨HL.out, rfl⟩⟩
  | some y =>
    obtain ⟨n, l1⟩ := y
    have HP := hidW hp
    have hn64 := pN_i64 hp
    unfold I64 at hn64
    have HB1 := hidW (pN_snd.keeps l n l1 HY.out hp)
    by_cases hb : 0 ≤ n ∧ n ≤ M
    · have HL := hidW (show pL M pHd l = pMany pHd n.toNat l1 by unfold pL; rw [hp, Option.bind_some]; simp only; rw [if_pos hb])
      clear hp
      obtain ⟨m, rfl⟩ : ∃ m : Nat, n = (m : Int) := ⟨n.toNat, by omega⟩
      have hm : m ≤ 2400 := by omega
      rw [show ((m : Int)).toNat = m by omega] at HL
      have hbd : decide ((0 : Int) ≤ (m : Int) ∧ (m : Int) ≤ M) = true := decide_eq_true (by omega)
      clear hb hn64
      go_enter Try.func82, Try.ntmps82
      go_wp2_with (first
        | (go_at_call 74; refine (takeNum64_yes HR.out HY.out HP.out).mono ?_; rintro e w1 ⟨rfl, r1, k1⟩; have R1 := hidW r1; have K1 := hidW k1; clear r1 k1)
        | (go_at_call 75; refine (span64_any _ _ _ _).mono ?_; rintro e w2 ⟨he, hw⟩; rw [hbd] at he; subst he; rw [hw]; clear hw w2))
      clear hbd
      go_loopw [8, 17] (fun v i wr => ∃ (k : Nat) (xs : List Hd) (r : List Int), k ≤ m ∧ i = .int .i64 (k : Int) ∧ pMany pHd k l1 = some (xs, r) ∧ RdW W0 wr p r ∧ LW hd0 ItHd 4 56 w.heap.size wr v xs ∧ Kp (NB p w.heap.size) w wr) (fun _ i _ => m - (intOf i).toNat)
      case atStart => exact ⟨0, [], l1, by omega, rfl, rfl, R1.out, LW.nil _ _ _ _ _ _, K1.out.one⟩
      case round =>
        obtain ⟨k, xs, r, hk, rfl, h1, h2, h3, h4⟩ := hrel
        have H1 := hidW h1
        have H2 := hidW h2
        have H3 := hidW h3
        have H4 := hidW h4
        have hxl := many_len _ _ _ _ h1
        have hws := h4.size
        clear h1 h2 h3 h4
        have HB := hidW (many_keeps (pHd_snd.keeps) k l1 xs r HB1.out H1.out)
        by_cases hlt : k < m
        · cases hp : pHd r with
          | none =>
            have HPX := hidW hp
            clear hp
            go_wp2_with (go_at_call 83; refine (takeHandler_no H2.out HB.out HPX.out).mono ?_; rintro e w2 ⟨rfl, k2⟩)
            exact ⟨rfl, (H4.out.trans k2.one).nb, Or.inl ⟨by rw [HL.out]; exact many_stop H1.out hlt HPX.out, rfl⟩⟩
          | some y =>
            obtain ⟨x, r'⟩ := y
            have HPX := hidW hp
            clear hp
            obtain ⟨v, hv⟩ : ∃ v, v = u8 := ⟨u8, rfl⟩
            have HX := hidW hxl
            clear hxl
            subst hv
            go_wp2_with (first
              | (go_at_call 83; refine (takeHandler_yes H2.out HB.out HPX.out).mono ?_; rintro e w2 ⟨rfl, r2, k2⟩; have it2 : ItHd (er (oldB wr.heap.size) w2) x [.int .i64 x.fr, .int .i64 x.til, .int .i64 x.pc, .int .i64 x.cls] := ⟨rfl, pHd_i64 HPX.out⟩; have R2 := hidW r2; have K2 := hidW k2; have IT := hidW (item_far ItHd.st H3.out hws (.cells #[.int .i64 x.fr, .int .i64 x.til, .int .i64 x.pc, .int .i64 x.cls] 56) it2); have LA := hidW ((H3.out.keep ItHd.st k2 (fun j hj => by rw [hj]; exact hpl)).keep ItHd.st ((Kp.refl (fun _ => False) w2).alloc (.cells #[.int .i64 x.fr, .int .i64 x.til, .int .i64 x.pc, .int .i64 x.cls] 56)) (fun _ hf => hf.elim)); clear r2 k2 it2; obtain ⟨cs, la1, la2⟩ := LA.out.ex; have LA1 := hidW la1; have LA2 := hidW la2; clear la1 la2)
              | (at_builtin; refine wpList_append_lies _ rfl (.tmp 19) (.tmp 23) 48 rfl w.heap.size 56 j0 _ 4 32 Try.underlying48 hi0 hz0 hz1 hz2 rfl (by omega) v xs.length cs (by rfl) (by exact LA1.out) ⟨w2.heap.size, 0, none⟩ 1 1 [.int .i64 x.fr, .int .i64 x.til, .int .i64 x.pc, .int .i64 x.cls] (by rfl) (by rfl) (World.news_of_block (cs := #[.int .i64 x.fr, .int .i64 x.til, .int .i64 x.pc, .int .i64 x.cls]) (t := 56) (fr := (0, 0)) (heap_alloc_new w2 _)) (by simp [Value.oneCell']) (by omega) (by rw [HX.out]; unfold maxLen; omega) (by rw [HX.out]; omega) (by have := K2.out.size; simp; omega) (w2.heap.size + 1) (by simp) ?_; intro gg cap w3 hown1 hgrow hat hlt2; have G3 := hidW (LW.app ItHd.st rfl rfl LA1.out LA2.out IT.out hown1 hgrow (by simpa using hat)); have GB := hidW (LA1.out.lt); have GR := hidW hgrow; clear hown1 hgrow hat hlt2))
            have HKW := hidW (show Kp (NB p w.heap.size) (w2.alloc (.cells #[.int .i64 x.fr, .int .i64 x.til, .int .i64 x.pc, .int .i64 x.cls] 56)) w3 from ⟨GR.out.os, GR.out.tape, GR.out.output, GR.out.size, fun j hj hn => GR.out.block j hj fun e2 => hn (Or.inr (GB.out j e2.symm).1)⟩)
            go_roundw
            case rel => exact ⟨k + 1, xs ++ [x], r', by omega, by go_num, many_next H1.out HPX.out, ((R2.out.alloc _).keep (S := fun j => v.ownBlock = some j) ⟨GR.out.os, GR.out.tape, GR.out.output, GR.out.size, fun j hj hn => GR.out.block j hj fun e2 => hn e2.symm⟩ (fun e2 => by have := (GB.out p e2).1; omega) (fun j hj => by have := (GB.out j hj).1; have := HR.out.bl.size; omega)), G3.out, ((H4.out.trans K2.out.one).alloc _).trans HKW.out⟩
            case measure => simp [intOf]; omega
        · obtain rfl : k = m := by omega
          obtain ⟨A, c, hv, hat⟩ := H3.out.hds (by rw [hxl]; unfold maxLen; omega)
          have HAT := hidW hat
          clear hat
          subst hv
          go_wp2
          go_ret
          exact ⟨H4.out.nb, Or.inr ⟨xs, r, A, c, by rw [HL.out]; exact H1.out, rfl, HAT.out, H2.out⟩⟩
    · have HL := hidW (show pL M pHd l = none by unfold pL; rw [hp, Option.bind_some]; simp only; rw [if_neg hb])
      have hbd : decide ((0 : Int) ≤ n ∧ n ≤ M) = false := decide_eq_false hb
      clear hp hb
      go_enter Try.func82, Try.ntmps82
      go_wp2_with (first
        | (go_at_call 74; refine (takeNum64_yes HR.out HY.out HP.out).mono ?_; rintro e w1 ⟨rfl, r1, k1⟩; have K1 := hidW k1; clear r1 k1)
        | (go_at_call 75; refine (span64_any _ _ _ _).mono ?_; rintro e w2 ⟨he, hw⟩; rw [hbd] at he; subst he; rw [hw]; clear hw w2)
        | (go_at_call 52; refine (giveUp_any _).mono ?_; rintro e w3 ⟨rfl, hw⟩; rw [hw]; clear hw w3))
      exact ⟨rfl, K1.out, Or.inl ⟨HL.out, rfl⟩⟩
theorem takeHandlers_no {M : Int} (hM : M ≤ 2400) {W0 w : World} {p : Nat} {l : List Int} (h : RdW W0 w p l) (hy : Bys l) (hn : pL M pHd l = none) : Calls Try.prog 82 #[.pointer (some ⟨p, 0, none⟩), .int .i64 M, .func (.func 83) #[] #[]] w fun e w' => e = noE ∧ Kp (OneB p) w w' :=
  (takeHandlers_any M hM W0 w p l h hy).mono fun e w' ⟨k, q⟩ => by
    rcases q with ⟨_, h1⟩ | ⟨xs, r, A, c, h1, _⟩
    · exact ⟨h1, k⟩
    · rw [hn] at h1; cases h1
theorem takeHandlers_yes {M : Int} (hM : M ≤ 2400) {W0 w : World} {p : Nat} {l : List Int} (h : RdW W0 w p l) (hy : Bys l) {xs : List Hd} {r : List Int} (hn : pL M pHd l = some (xs, r)) : Calls Try.prog 82 #[.pointer (some ⟨p, 0, none⟩), .int .i64 M, .func (.func 83) #[] #[]] w fun e w' => ∃ A c, e = .returned (.slice A xs.length c) ∧ HdsAt (er (oldB w.heap.size) w') A xs ∧ RdW W0 w' p r ∧ Kp (OneB p) w w' :=
  (takeHandlers_any M hM W0 w p l h hy).mono fun e w' ⟨k, q⟩ => by
    rcases q with ⟨h1, _⟩ | ⟨xs', r', A, c, h1, h2, h3, h4⟩
    · rw [hn] at h1; cases h1
    · rw [hn] at h1
      simp only [Option.some.injEq, Prod.mk.injEq] at h1
      obtain ⟨rfl, rfl⟩ := h1
      exact ⟨A, c, h2, h3, h4, k⟩

theorem info_takeInts : ∃ i, Try.prog.info? 3 = some i ∧ i.zero = some (.int .i64 0) ∧ i.size = 1 ∧ i.bytes = 8 := info_partsW (by kernel_rfl)
def takeIntsQ (M : Int) (W0 w : World) (p : Nat) (l : List Int) (e : Ending) (w' : World) : Prop :=
  Kp (OneB p) w w' ∧ ((pL M pN l = none ∧ e = noE) ∨ ∃ xs r A c, pL M pN l = some (xs, r) ∧ e = .returned (.slice A xs.length c) ∧ IntsAt (er (oldB w.heap.size) w') A xs ∧ RdW W0 w' p r)
set_option maxHeartbeats 8000000 in
theorem takeInts_any (M : Int) (hM : M ≤ 2400) (W0 w : World) (p : Nat) (l : List Int) (h : RdW W0 w p l) (hy : Bys l) :
    Calls Try.prog 96 #[.pointer (some ⟨p, 0, none⟩), .int .i64 M, .func (.func 76) #[] #[]] w (takeIntsQ M W0 w p l) := by
  have hpl := h.lt
  have HR := hidW h
  have HY := hidW hy
  clear h hy
  obtain ⟨j0, hi0, hz0, hz1, hz2⟩ := info_takeInts
  cases hp : pN l with
  | none =>
    have HP := hidW hp
    have HL := hidW (show pL M pN l = none by unfold pL; rw [hp]; rfl)
    clear hp
    go_enter Try.func96, Try.ntmps96
    go_wp2_with (go_at_call 74; refine (takeNum64_no HR.out HY.out HP.out).mono ?_; rintro e w1 ⟨rfl, k1⟩)
    exact ⟨rfl, k1, Or.inl ⟨HL.out, rfl⟩⟩
  | some y =>
    obtain ⟨n, l1⟩ := y
    have HP := hidW hp
    have hn64 := pN_i64 hp
    unfold I64 at hn64
    have HB1 := hidW (pN_snd.keeps l n l1 HY.out hp)
    by_cases hb : 0 ≤ n ∧ n ≤ M
    · have HL := hidW (show pL M pN l = pMany pN n.toNat l1 by unfold pL; rw [hp, Option.bind_some]; simp only; rw [if_pos hb])
      clear hp
      obtain ⟨m, rfl⟩ : ∃ m : Nat, n = (m : Int) := ⟨n.toNat, by omega⟩
      have hm : m ≤ 2400 := by omega
      rw [show ((m : Int)).toNat = m by omega] at HL
      have hbd : decide ((0 : Int) ≤ (m : Int) ∧ (m : Int) ≤ M) = true := decide_eq_true (by omega)
      clear hb hn64
      go_enter Try.func96, Try.ntmps96
      go_wp2_with (first
        | (go_at_call 74; refine (takeNum64_yes HR.out HY.out HP.out).mono ?_; rintro e w1 ⟨rfl, r1, k1⟩; have R1 := hidW r1; have K1 := hidW k1; clear r1 k1)
        | (go_at_call 75; refine (span64_any _ _ _ _).mono ?_; rintro e w2 ⟨he, hw⟩; rw [hbd] at he; subst he; rw [hw]; clear hw w2))
      clear hbd
      go_loopw [8, 17] (fun v i wr => ∃ (k : Nat) (xs : List Int) (r : List Int), k ≤ m ∧ i = .int .i64 (k : Int) ∧ pMany pN k l1 = some (xs, r) ∧ RdW W0 wr p r ∧ LW (0 : Int) ItN 1 3 w.heap.size wr v xs ∧ Kp (NB p w.heap.size) w wr) (fun _ i _ => m - (intOf i).toNat)
      case atStart => exact ⟨0, [], l1, by omega, rfl, rfl, R1.out, LW.nil _ _ _ _ _ _, K1.out.one⟩
      case round =>
        obtain ⟨k, xs, r, hk, rfl, h1, h2, h3, h4⟩ := hrel
        have H1 := hidW h1
        have H2 := hidW h2
        have H3 := hidW h3
        have H4 := hidW h4
        have hxl := many_len _ _ _ _ h1
        have hws := h4.size
        clear h1 h2 h3 h4
        have HB := hidW (many_keeps (pN_snd.keeps) k l1 xs r HB1.out H1.out)
        by_cases hlt : k < m
        · cases hp : pN r with
          | none =>
            have HPX := hidW hp
            clear hp
            go_wp2_with (go_at_call 76; refine (takeNum_no H2.out HB.out HPX.out).mono ?_; rintro e w2 ⟨rfl, k2⟩)
            exact ⟨rfl, (H4.out.trans k2.one).nb, Or.inl ⟨by rw [HL.out]; exact many_stop H1.out hlt HPX.out, rfl⟩⟩
          | some y =>
            obtain ⟨x, r'⟩ := y
            have HPX := hidW hp
            clear hp
            obtain ⟨v, hv⟩ : ∃ v, v = u8 := ⟨u8, rfl⟩
            have HX := hidW hxl
            clear hxl
            subst hv
            go_wp2_with (first
              | (go_at_call 76; refine (takeNum_yes H2.out HB.out HPX.out).mono ?_; rintro e w2 ⟨rfl, r2, k2⟩; have it2 : ItN (er (oldB wr.heap.size) w2) x [.int .i64 x] := ⟨rfl, pN_i64 HPX.out⟩; have R2 := hidW r2; have K2 := hidW k2; have IT := hidW (item_far ItN.st H3.out hws (.cells #[.int .i64 x] 3) it2); have LA := hidW ((H3.out.keep ItN.st k2 (fun j hj => by rw [hj]; exact hpl)).keep ItN.st ((Kp.refl (fun _ => False) w2).alloc (.cells #[.int .i64 x] 3)) (fun _ hf => hf.elim)); clear r2 k2 it2; obtain ⟨cs, la1, la2⟩ := LA.out.ex; have LA1 := hidW la1; have LA2 := hidW la2; clear la1 la2)
              | (at_builtin; refine wpList_append_lies _ rfl (.tmp 19) (.tmp 23) 51 rfl w.heap.size 3 j0 _ 1 8 Try.underlying51 hi0 hz0 hz1 hz2 rfl (by omega) v xs.length cs (by rfl) (by exact LA1.out) ⟨w2.heap.size, 0, none⟩ 1 1 [.int .i64 x] (by rfl) (by rfl) (World.news_of_block (cs := #[.int .i64 x]) (t := 3) (fr := (0, 0)) (heap_alloc_new w2 _)) (by simp [Value.oneCell']) (by omega) (by rw [HX.out]; unfold maxLen; omega) (by rw [HX.out]; omega) (by have := K2.out.size; simp; omega) (w2.heap.size + 1) (by simp) ?_; intro gg cap w3 hown1 hgrow hat hlt2; have G3 := hidW (LW.app ItN.st rfl rfl LA1.out LA2.out IT.out hown1 hgrow (by simpa using hat)); have GB := hidW (LA1.out.lt); have GR := hidW hgrow; clear hown1 hgrow hat hlt2))
            have HKW := hidW (show Kp (NB p w.heap.size) (w2.alloc (.cells #[.int .i64 x] 3)) w3 from ⟨GR.out.os, GR.out.tape, GR.out.output, GR.out.size, fun j hj hn => GR.out.block j hj fun e2 => hn (Or.inr (GB.out j e2.symm).1)⟩)
            go_roundw
            case rel => exact ⟨k + 1, xs ++ [x], r', by omega, by go_num, many_next H1.out HPX.out, ((R2.out.alloc _).keep (S := fun j => v.ownBlock = some j) ⟨GR.out.os, GR.out.tape, GR.out.output, GR.out.size, fun j hj hn => GR.out.block j hj fun e2 => hn e2.symm⟩ (fun e2 => by have := (GB.out p e2).1; omega) (fun j hj => by have := (GB.out j hj).1; have := HR.out.bl.size; omega)), G3.out, ((H4.out.trans K2.out.one).alloc _).trans HKW.out⟩
            case measure => simp [intOf]; omega
        · obtain rfl : k = m := by omega
          obtain ⟨A, c, hv, hat⟩ := H3.out.ints (by rw [hxl]; unfold maxLen; omega)
          have HAT := hidW hat
          clear hat
          subst hv
          go_wp2
          go_ret
          exact ⟨H4.out.nb, Or.inr ⟨xs, r, A, c, by rw [HL.out]; exact H1.out, rfl, HAT.out, H2.out⟩⟩
    · have HL := hidW (show pL M pN l = none by unfold pL; rw [hp, Option.bind_some]; simp only; rw [if_neg hb])
      have hbd : decide ((0 : Int) ≤ n ∧ n ≤ M) = false := decide_eq_false hb
      clear hp hb
      go_enter Try.func96, Try.ntmps96
      go_wp2_with (first
        | (go_at_call 74; refine (takeNum64_yes HR.out HY.out HP.out).mono ?_; rintro e w1 ⟨rfl, r1, k1⟩; have K1 := hidW k1; clear r1 k1)
        | (go_at_call 75; refine (span64_any _ _ _ _).mono ?_; rintro e w2 ⟨he, hw⟩; rw [hbd] at he; subst he; rw [hw]; clear hw w2)
        | (go_at_call 52; refine (giveUp_any _).mono ?_; rintro e w3 ⟨rfl, hw⟩; rw [hw]; clear hw w3))
      exact ⟨rfl, K1.out, Or.inl ⟨HL.out, rfl⟩⟩
theorem takeInts_no {M : Int} (hM : M ≤ 2400) {W0 w : World} {p : Nat} {l : List Int} (h : RdW W0 w p l) (hy : Bys l) (hn : pL M pN l = none) : Calls Try.prog 96 #[.pointer (some ⟨p, 0, none⟩), .int .i64 M, .func (.func 76) #[] #[]] w fun e w' => e = noE ∧ Kp (OneB p) w w' :=
  (takeInts_any M hM W0 w p l h hy).mono fun e w' ⟨k, q⟩ => by
    rcases q with ⟨_, h1⟩ | ⟨xs, r, A, c, h1, _⟩
    · exact ⟨h1, k⟩
    · rw [hn] at h1; cases h1
theorem takeInts_yes {M : Int} (hM : M ≤ 2400) {W0 w : World} {p : Nat} {l : List Int} (h : RdW W0 w p l) (hy : Bys l) {xs : List Int} {r : List Int} (hn : pL M pN l = some (xs, r)) : Calls Try.prog 96 #[.pointer (some ⟨p, 0, none⟩), .int .i64 M, .func (.func 76) #[] #[]] w fun e w' => ∃ A c, e = .returned (.slice A xs.length c) ∧ IntsAt (er (oldB w.heap.size) w') A xs ∧ RdW W0 w' p r ∧ Kp (OneB p) w w' :=
  (takeInts_any M hM W0 w p l h hy).mono fun e w' ⟨k, q⟩ => by
    rcases q with ⟨h1, _⟩ | ⟨xs', r', A, c, h1, h2, h3, h4⟩
    · rw [hn] at h1; cases h1
    · rw [hn] at h1
      simp only [Option.some.injEq, Prod.mk.injEq] at h1
      obtain ⟨rfl, rfl⟩ := h1
      exact ⟨A, c, h2, h3, h4, k⟩

end Go.Proofs.Ytgiiapenmjollab
namespace Go.Proofs.Ytgiiapenmjollab
open Go.RowKit
set_option maxRecDepth 100000
set_option linter.unusedVariables false
set_option linter.unusedSimpArgs false

theorem lt_of_blk {w : World} {k : Nat} {o : Obj} (h : w.heap[k]? = some o) : k < w.heap.size := (Array.getElem?_eq_some_iff.1 h).1
theorem pL_keeps {α : Type} {p : Pa α} {e : α → List Int} {M : Int} (h : Snd p e) : Keeps (pL M p) := (pL_snd h).keeps
theorem pL_len {α : Type} {p : Pa α} {M : Int} {l : List Int} {xs : List α} {r : List Int} (h : pL M p l = some (xs, r)) : (xs.length : Int) ≤ M := by
  unfold pL at h
  obtain ⟨y, h1, h⟩ := bind_some_of h
  split at h
  · have := many_len _ _ _ _ h
    omega
  · cases h
theorem er_set {N M k o : Nat} {w : World} {v : Value} (hk : k < M) (hN : N ≤ M) : Sub (er (oldB M) w) (er (oldB N) (w.setCell ⟨k, o, none⟩ v)) := er_to fun b hb _ => by
  unfold oldB at hb ⊢
  simp at hb ⊢
  have hne : b ≠ k := by omega
  exact ⟨by omega, Below.heap_setCell _ _ _ _ hne⟩
theorem info_cl : (Try.prog.info? 43).map (·.size) = some 2 := by kernel_rfl
def ClassQ (W0 w : World) (p : Nat) (l : List Int) (e : Ending) (w' : World) : Prop :=
  Kp (OneB p) w w' ∧ ((pCl bdP l = none ∧ e = noE) ∨ ∃ x r A c, pCl bdP l = some (x, r) ∧ e = .returned (.agg #[.int .i64 x.super, .slice A x.fields.length c]) ∧ I64 x.super ∧ TysAt (er (oldB w.heap.size) w') A x.fields ∧ RdW W0 w' p r)
abbrev clZ : Obj := .cells #[.int .i64 0, .slice none 0 0] 43
set_option maxHeartbeats 8000000 in
theorem takeClass_any (W0 w : World) (p : Nat) (l : List Int) (h : RdW W0 w p l) (hy : Bys l) :
    Calls Try.prog 48 #[.pointer (some ⟨p, 0, none⟩)] w (ClassQ W0 w p l) := by
  have hpl := h.lt
  have hW := h.bl.size
  have HR := hidW ((h.alloc clZ).alloc clZ)
  have HY := hidW hy
  have HK := hidW (((Kp.refl (NB p w.heap.size) w).alloc clZ).alloc clZ)
  have HE := hidW ((Below.heap_alloc (w.alloc clZ) clZ w.heap.size (by simp)).trans (heap_alloc_new w _))
  have HV := hidW (show ((w.alloc clZ).alloc clZ).heap[w.heap.size + 1]? = some (.cells #[.int .i64 0, .slice none 0 0] 43 (0, 0)) by
    have := heap_alloc_new (w.alloc clZ) clZ
    rw [World.size_alloc] at this
    exact this)
  clear h hy
  cases hp : pN l with
  | none =>
    have HP := hidW hp
    have HL := hidW (show pCl bdP l = none by unfold pCl; rw [hp]; rfl)
    clear hp
    go_enter Try.func48, Try.ntmps48
    go_wp2_with (go_at_call 76; refine (takeNum_no HR.out HY.out HP.out).mono ?_; rintro e w1 ⟨rfl, k1⟩)
    exact ⟨rfl, (HK.out.trans k1.one).nb, Or.inl ⟨HL.out, rfl⟩⟩
  | some y =>
    obtain ⟨s, l1⟩ := y
    have HP := hidW hp
    have HY1 := hidW (pN_snd.keeps l s l1 HY.out hp)
    cases hq : pL 6 pTy l1 with
    | none =>
      have HQ := hidW hq
      have HL := hidW (show pCl bdP l = none by unfold pCl; rw [hp, Option.bind_some]; show (pL 6 pTy l1).bind _ = _; rw [hq]; rfl)
      clear hp hq
      go_enter Try.func48, Try.ntmps48
      go_wp2_with (first
        | (go_at_call 76; refine (takeNum_yes HR.out HY.out HP.out).mono ?_; rintro e w1 ⟨rfl, r1, k1⟩; have v1 := (k1.block (w.heap.size + 1) (by simp) (fun e2 => by unfold OneB at e2; omega)).trans HV.out; have c0 := blk_cell v1 0 rfl; have z0 := blk_free v1 0; have R1 := hidW r1; have K1 := hidW (HK.out.trans k1.one); clear r1 k1 v1)
        | (go_at_call 77; refine (takeTypes_no (M := 6) (by omega) (R1.out.set (k := w.heap.size + 1) (o := 0) (by omega) (by omega) _) HY1.out HQ.out).mono ?_; rintro e w2 ⟨rfl, k2⟩))
      exact ⟨rfl, ((K1.out.set (p := ⟨w.heap.size + 1, 0, none⟩) (Or.inr (by simp)) _).trans k2.one).nb, Or.inl ⟨HL.out, rfl⟩⟩
    | some y =>
      obtain ⟨ts, r⟩ := y
      have HQ := hidW hq
      have HL := hidW (show pCl bdP l = some (⟨s, ts⟩, r) by unfold pCl; rw [hp, Option.bind_some]; show (pL 6 pTy l1).bind _ = _; rw [hq]; rfl)
      have HS := hidW (pN_i64 hp)
      clear hp hq
      go_enter Try.func48, Try.ntmps48
      go_wp2_with (first
        | (go_at_call 76; refine (takeNum_yes HR.out HY.out HP.out).mono ?_; rintro e w1 ⟨rfl, r1, k1⟩; have v1 := (k1.block (w.heap.size + 1) (by simp) (fun e2 => by unfold OneB at e2; omega)).trans HV.out; have b1 := (k1.block w.heap.size (by simp; omega) (fun e2 => by unfold OneB at e2; omega)).trans HE.out; have c0 := blk_cell v1 0 rfl; have z0 := blk_free v1 0; have R1 := hidW r1; have K1 := hidW (HK.out.trans k1.one); have V1 := hidW v1; have B1 := hidW b1; clear r1 k1 v1 b1)
        | (go_at_call 77; refine (takeTypes_yes (M := 6) (by omega) (R1.out.set (k := w.heap.size + 1) (o := 0) (by omega) (by omega) _) HY1.out HQ.out).mono ?_; rintro e w2 ⟨A, c, rfl, t2, r2, k2⟩; have v2 := (k2.block (w.heap.size + 1) (by have := K1.out.size; have := lt_of_blk V1.out; simp; omega) (fun e2 => by unfold OneB at e2; omega)).trans (set_block V1.out 0 (.int .i64 s)); have b2 := (k2.block w.heap.size (by have := lt_of_blk V1.out; simp; omega) (fun e2 => by unfold OneB at e2; omega)).trans ((Below.heap_setCell _ _ _ _ (by simp)).trans B1.out); have c2 := blk_cell v2 0 rfl; have c3 := blk_cell v2 1 rfl; have z3 := blk_free v2 1; have d0 := blk_cell b2 0 rfl; have d1 := blk_cell b2 1 rfl; have y0 := blk_free b2 0; have y1 := blk_free b2 1; have T2 := hidW t2; have R2 := hidW r2; have K2 := hidW ((K1.out.set (p := ⟨w.heap.size + 1, 0, none⟩) (Or.inr (by simp)) (.int .i64 s)).trans k2.one); have V2 := hidW v2; have B2 := hidW b2; clear t2 r2 k2 v2 b2))
      have hv1 := lt_of_blk V1.out
      refine bodyPost_ret (results_cell_row rfl _ _ w.heap.size _ _ _ _ rfl (set_block (set_block ((Below.heap_setCell _ _ _ _ (by simp)).trans B2.out) 0 (.int .i64 s)) 1 (.slice A ts.length c)) Try.underlying43 rfl info_cl) rfl ?_
      refine ⟨(((K2.out.set (p := ⟨w.heap.size + 1, 1, none⟩) (Or.inr (by simp)) _).set (p := ⟨w.heap.size, 0, none⟩) (Or.inr (by simp)) _).set (p := ⟨w.heap.size, 1, none⟩) (Or.inr (by simp)) _).nb, Or.inr ⟨⟨s, ts⟩, r, A, c, HL.out, rfl, HS.out, ?_, ((R2.out.set (k := w.heap.size + 1) (o := 1) (by omega) (by omega) _).set (k := w.heap.size) (o := 0) (by omega) (by omega) _).set (k := w.heap.size) (o := 1) (by omega) (by omega) _⟩⟩
      have hN1 : w.heap.size + 1 < (w1.setCell ⟨w.heap.size + 1, 0, none⟩ (.int .i64 s)).heap.size := by rw [World.size_setCell]; exact hv1
      exact T2.out.sub (((er_set hN1 (Nat.le_refl _)).trans (er_set (show w.heap.size < _ by omega) (Nat.le_refl _))).trans (er_set (show w.heap.size < _ by omega) (by omega)))

end Go.Proofs.Ytgiiapenmjollab
