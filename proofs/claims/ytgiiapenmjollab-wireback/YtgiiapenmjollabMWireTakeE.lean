/-
  Classes are taken.
-/
import Derived.Test.YtgiiapenmjollabMWireTakeD
namespace Go.Proofs.Ytgiiapenmjollab
open Go.RowKit
set_option maxRecDepth 100000
set_option linter.unusedVariables false
set_option linter.unusedSimpArgs false

theorem takeClass_no {W0 w : World} {p : Nat} {l : List Int} (h : RdW W0 w p l) (hy : Bys l) (hn : pCl bdP l = none) : Calls Try.prog 48 #[.pointer (some ⟨p, 0, none⟩)] w fun e w' => e = noE ∧ Kp (OneB p) w w' :=
  (takeClass_any W0 w p l h hy).mono fun e w' ⟨k, q⟩ => by
    rcases q with ⟨_, h1⟩ | ⟨t, r, A, c, h1, _⟩
    · exact ⟨h1, k⟩
    · rw [hn] at h1; cases h1
theorem takeClass_yes {W0 w : World} {p : Nat} {l : List Int} (h : RdW W0 w p l) (hy : Bys l) {x : Cl} {r : List Int} (hn : pCl bdP l = some (x, r)) : Calls Try.prog 48 #[.pointer (some ⟨p, 0, none⟩)] w fun e w' => ∃ A c, e = .returned (.agg #[.int .i64 x.super, .slice A x.fields.length c]) ∧ (I64 x.super ∧ TysAt (er (oldB w.heap.size) w') A x.fields) ∧ RdW W0 w' p r ∧ Kp (OneB p) w w' :=
  (takeClass_any W0 w p l h hy).mono fun e w' ⟨k, q⟩ => by
    rcases q with ⟨h1, _⟩ | ⟨t, r', A, c, h1, h2, h3, h4, h5⟩
    · rw [hn] at h1; cases h1
    · rw [hn] at h1
      simp only [Option.some.injEq, Prod.mk.injEq] at h1
      obtain ⟨rfl, rfl⟩ := h1
      exact ⟨A, c, h2, ⟨h3, h4⟩, h5, k⟩

def ItCl (w : World) (t : Cl) (cs : List Value) : Prop := ∃ A c, cs = [.int .i64 t.super, .slice A t.fields.length c] ∧ I64 t.super ∧ TysAt w A t.fields
theorem ItCl.st : ∀ w w' x cs, Sub w w' → ItCl w x cs → ItCl w' x cs := fun _ _ _ _ hs ⟨A, c, h1, h2, h3⟩ => ⟨A, c, h1, h2, h3.sub hs⟩
theorem LW.cls {e : TypeId} {N : Nat} {w : World} {v : Value} {xs : List Cl} (h : LW cl0 ItCl 2 e N w v xs) (hl : xs.length ≤ maxLen) : ∃ A c, v = .slice A xs.length c ∧ ClsAt (er (oldB N) w) A xs := by
  obtain ⟨A, c, hv, h1⟩ := h.lies ItCl.st
  refine ⟨A, c, hv, hl, ?_⟩
  rcases h1 with h0 | ⟨g, hA, hi⟩
  · exact Or.inl h0
  refine Or.inr ⟨g, 0, hA, fun i hi' => ?_⟩
  obtain ⟨ci, ⟨A', c', rfl, i1, i2⟩, hc⟩ := hi i hi'
  exact ⟨hc 0 _ (by omega) rfl, i1, A', c', hc 1 _ (by omega) rfl, i2⟩

theorem info_takeClasses : ∃ i, Try.prog.info? 43 = some i ∧ i.zero = some (.agg #[.int .i64 0, .slice none 0 0]) ∧ i.size = 2 ∧ i.bytes = 32 := info_partsW (by kernel_rfl)
def takeClassesQ (M : Int) (W0 w : World) (p : Nat) (l : List Int) (e : Ending) (w' : World) : Prop :=
  Kp (OneB p) w w' ∧ ((pL M (pCl bdP) l = none ∧ e = noE) ∨ ∃ xs r A c, pL M (pCl bdP) l = some (xs, r) ∧ e = .returned (.slice A xs.length c) ∧ ClsAt (er (oldB w.heap.size) w') A xs ∧ RdW W0 w' p r)
set_option maxHeartbeats 8000000 in
theorem takeClasses_any (M : Int) (hM : M ≤ 2400) (W0 w : World) (p : Nat) (l : List Int) (h : RdW W0 w p l) (hy : Bys l) :
    Calls Try.prog 47 #[.pointer (some ⟨p, 0, none⟩), .int .i64 M, .func (.func 48) #[] #[]] w (takeClassesQ M W0 w p l) := by
  have hpl := h.lt
  have HR := hidW h
  have HY := hidW hy
  clear h hy
  obtain ⟨j0, hi0, hz0, hz1, hz2⟩ := info_takeClasses
  cases hp : pN l with
  | none =>
    have HP := hidW hp
    have HL := hidW (show pL M (pCl bdP) l = none by unfold pL; rw [hp]; rfl)
    clear hp
    go_enter Try.func47, Try.ntmps47
    go_wp2_with (go_at_call 74; refine (takeNum64_no HR.out HY.out HP.out).mono ?_; rintro e w1 ⟨rfl, k1⟩)
    exact ⟨rfl, k1, Or.inl ⟨HL.out, rfl⟩⟩
  | some y =>
    obtain ⟨n, l1⟩ := y
    have HP := hidW hp
    have hn64 := pN_i64 hp
    unfold I64 at hn64
    have HB1 := hidW (pN_snd.keeps l n l1 HY.out hp)
    by_cases hb : 0 ≤ n ∧ n ≤ M
    · have HL := hidW (show pL M (pCl bdP) l = pMany (pCl bdP) n.toNat l1 by unfold pL; rw [hp, Option.bind_some]; simp only; rw [if_pos hb])
      clear hp
      obtain ⟨m, rfl⟩ : ∃ m : Nat, n = (m : Int) := ⟨n.toNat, by omega⟩
      have hm : m ≤ 2400 := by omega
      rw [show ((m : Int)).toNat = m by omega] at HL
      have hbd : decide ((0 : Int) ≤ (m : Int) ∧ (m : Int) ≤ M) = true := decide_eq_true (by omega)
      clear hb hn64
      go_enter Try.func47, Try.ntmps47
      go_wp2_with (first
        | (go_at_call 74; refine (takeNum64_yes HR.out HY.out HP.out).mono ?_; rintro e w1 ⟨rfl, r1, k1⟩; have R1 := hidW r1; have K1 := hidW k1; clear r1 k1)
        | (go_at_call 75; refine (span64_any _ _ _ _).mono ?_; rintro e w2 ⟨he, hw⟩; rw [hbd] at he; subst he; rw [hw]; clear hw w2))
      clear hbd
      go_loopw [8, 17] (fun v i wr => ∃ (k : Nat) (xs : List Cl) (r : List Int), k ≤ m ∧ i = .int .i64 (k : Int) ∧ pMany (pCl bdP) k l1 = some (xs, r) ∧ RdW W0 wr p r ∧ LW cl0 ItCl 2 43 w.heap.size wr v xs ∧ Kp (NB p w.heap.size) w wr) (fun _ i _ => m - (intOf i).toNat)
      case atStart => exact ⟨0, [], l1, by omega, rfl, rfl, R1.out, LW.nil _ _ _ _ _ _, K1.out.one⟩
      case round =>
        obtain ⟨k, xs, r, hk, rfl, h1, h2, h3, h4⟩ := hrel
        have H1 := hidW h1
        have H2 := hidW h2
        have H3 := hidW h3
        have H4 := hidW h4
        have hxl := many_len _ _ _ _ h1
        have hws := h4.size
        clear h1 h2 h3 h4
        have HB := hidW (many_keeps ((pCl_snd bdP).keeps) k l1 xs r HB1.out H1.out)
        by_cases hlt : k < m
        · cases hp : (pCl bdP) r with
          | none =>
            have HPX := hidW hp
            clear hp
            go_wp2_with (go_at_call 48; refine (takeClass_no H2.out HB.out HPX.out).mono ?_; rintro e w2 ⟨rfl, k2⟩)
            exact ⟨rfl, (H4.out.trans k2.one).nb, Or.inl ⟨by rw [HL.out]; exact many_stop H1.out hlt HPX.out, rfl⟩⟩
          | some y =>
            obtain ⟨x, r'⟩ := y
            have HPX := hidW hp
            clear hp
            obtain ⟨v, hv⟩ : ∃ v, v = u8 := ⟨u8, rfl⟩
            have HX := hidW hxl
            clear hxl
            subst hv
            go_wp2_with (first
              | (go_at_call 48; refine (takeClass_yes H2.out HB.out HPX.out).mono ?_; rintro e w2 ⟨A2, c2, rfl, ⟨i2, t2⟩, r2, k2⟩; have it2 : ItCl (er (oldB wr.heap.size) w2) x [.int .i64 x.super, .slice A2 x.fields.length c2] := ⟨A2, c2, rfl, i2, t2⟩; clear i2 t2; have R2 := hidW r2; have K2 := hidW k2; have IT := hidW (item_far ItCl.st H3.out hws (.cells #[.int .i64 x.super, .slice A2 x.fields.length c2] 43) it2); have LA := hidW ((H3.out.keep ItCl.st k2 (fun j hj => by rw [hj]; exact hpl)).keep ItCl.st ((Kp.refl (fun _ => False) w2).alloc (.cells #[.int .i64 x.super, .slice A2 x.fields.length c2] 43)) (fun _ hf => hf.elim)); clear r2 k2 it2; obtain ⟨cs, la1, la2⟩ := LA.out.ex; have LA1 := hidW la1; have LA2 := hidW la2; clear la1 la2)
              | (at_builtin; refine wpList_append_lies _ rfl (.tmp 19) (.tmp 23) 22 rfl w.heap.size 43 j0 _ 2 32 Try.underlying22 hi0 hz0 hz1 hz2 rfl (by omega) v xs.length cs (by rfl) (by exact LA1.out) ⟨w2.heap.size, 0, none⟩ 1 1 [.int .i64 x.super, .slice A2 x.fields.length c2] (by rfl) (by rfl) (World.news_of_block (cs := #[.int .i64 x.super, .slice A2 x.fields.length c2]) (t := 43) (fr := (0, 0)) (heap_alloc_new w2 _)) (by simp [Value.oneCell']) (by omega) (by rw [HX.out]; unfold maxLen; omega) (by rw [HX.out]; omega) (by have := K2.out.size; simp; omega) (w2.heap.size + 1) (by simp) ?_; intro gg cap w3 hown1 hgrow hat hlt2; have G3 := hidW (LW.app ItCl.st rfl rfl LA1.out LA2.out IT.out hown1 hgrow (by simpa using hat)); have GB := hidW (LA1.out.lt); have GR := hidW hgrow; clear hown1 hgrow hat hlt2))
            have HKW := hidW (show Kp (NB p w.heap.size) (w2.alloc (.cells #[.int .i64 x.super, .slice A2 x.fields.length c2] 43)) w3 from ⟨GR.out.os, GR.out.tape, GR.out.output, GR.out.size, fun j hj hn => GR.out.block j hj fun e2 => hn (Or.inr (GB.out j e2.symm).1)⟩)
            go_roundw
            case rel => exact ⟨k + 1, xs ++ [x], r', by omega, by go_num, many_next H1.out HPX.out, ((R2.out.alloc _).keep (S := fun j => v.ownBlock = some j) ⟨GR.out.os, GR.out.tape, GR.out.output, GR.out.size, fun j hj hn => GR.out.block j hj fun e2 => hn e2.symm⟩ (fun e2 => by have := (GB.out p e2).1; omega) (fun j hj => by have := (GB.out j hj).1; have := HR.out.bl.size; omega)), G3.out, ((H4.out.trans K2.out.one).alloc _).trans HKW.out⟩
            case measure => simp [intOf]; omega
        · obtain rfl : k = m := by omega
          obtain ⟨A, c, hv, hat⟩ := H3.out.cls (by rw [hxl]; unfold maxLen; omega)
          have HAT := hidW hat
          clear hat
          subst hv
          go_wp2
          go_ret
          exact ⟨H4.out.nb, Or.inr ⟨xs, r, A, c, by rw [HL.out]; exact H1.out, rfl, HAT.out, H2.out⟩⟩
    · have HL := hidW (show pL M (pCl bdP) l = none by unfold pL; rw [hp, Option.bind_some]; simp only; rw [if_neg hb])
      have hbd : decide ((0 : Int) ≤ n ∧ n ≤ M) = false := decide_eq_false hb
      clear hp hb
      go_enter Try.func47, Try.ntmps47
      go_wp2_with (first
        | (go_at_call 74; refine (takeNum64_yes HR.out HY.out HP.out).mono ?_; rintro e w1 ⟨rfl, r1, k1⟩; have K1 := hidW k1; clear r1 k1)
        | (go_at_call 75; refine (span64_any _ _ _ _).mono ?_; rintro e w2 ⟨he, hw⟩; rw [hbd] at he; subst he; rw [hw]; clear hw w2)
        | (go_at_call 52; refine (giveUp_any _).mono ?_; rintro e w3 ⟨rfl, hw⟩; rw [hw]; clear hw w3))
      exact ⟨rfl, K1.out, Or.inl ⟨HL.out, rfl⟩⟩
theorem takeClasses_no {M : Int} (hM : M ≤ 2400) {W0 w : World} {p : Nat} {l : List Int} (h : RdW W0 w p l) (hy : Bys l) (hn : pL M (pCl bdP) l = none) : Calls Try.prog 47 #[.pointer (some ⟨p, 0, none⟩), .int .i64 M, .func (.func 48) #[] #[]] w fun e w' => e = noE ∧ Kp (OneB p) w w' :=
  (takeClasses_any M hM W0 w p l h hy).mono fun e w' ⟨k, q⟩ => by
    rcases q with ⟨_, h1⟩ | ⟨xs, r, A, c, h1, _⟩
    · exact ⟨h1, k⟩
    · rw [hn] at h1; cases h1
theorem takeClasses_yes {M : Int} (hM : M ≤ 2400) {W0 w : World} {p : Nat} {l : List Int} (h : RdW W0 w p l) (hy : Bys l) {xs : List Cl} {r : List Int} (hn : pL M (pCl bdP) l = some (xs, r)) : Calls Try.prog 47 #[.pointer (some ⟨p, 0, none⟩), .int .i64 M, .func (.func 48) #[] #[]] w fun e w' => ∃ A c, e = .returned (.slice A xs.length c) ∧ ClsAt (er (oldB w.heap.size) w') A xs ∧ RdW W0 w' p r ∧ Kp (OneB p) w w' :=
  (takeClasses_any M hM W0 w p l h hy).mono fun e w' ⟨k, q⟩ => by
    rcases q with ⟨h1, _⟩ | ⟨xs', r', A, c, h1, h2, h3, h4⟩
    · rw [hn] at h1; cases h1
    · rw [hn] at h1
      simp only [Option.some.injEq, Prod.mk.injEq] at h1
      obtain ⟨rfl, rfl⟩ := h1
      exact ⟨A, c, h2, h3, h4, k⟩

end Go.Proofs.Ytgiiapenmjollab
