/-
  Instructions are taken.
-/
import Derived.Test.YtgiiapenmjollabMWireTakeF
namespace Go.Proofs.Ytgiiapenmjollab
open Go.RowKit
set_option maxRecDepth 100000
set_option linter.unusedVariables false
set_option linter.unusedSimpArgs false

theorem takeIns_no {W0 w : World} {p : Nat} {l : List Int} (h : RdW W0 w p l) (hy : Bys l) (hn : pIn bdP l = none) : Calls Try.prog 81 #[.pointer (some ⟨p, 0, none⟩)] w fun e w' => e = noE ∧ Kp (OneB p) w w' :=
  (takeIns_any W0 w p l h hy).mono fun e w' ⟨k, q⟩ => by
    rcases q with ⟨_, h1⟩ | ⟨t, r, A, c, h1, _⟩
    · exact ⟨h1, k⟩
    · rw [hn] at h1; cases h1
theorem takeIns_yes {W0 w : World} {p : Nat} {l : List Int} (h : RdW W0 w p l) (hy : Bys l) {x : In} {r : List Int} (hn : pIn bdP l = some (x, r)) : Calls Try.prog 81 #[.pointer (some ⟨p, 0, none⟩)] w fun e w' => ∃ A c, e = .returned (.agg #[.int .i64 x.op, .int .i64 x.a, .int .i64 x.b, .int .i64 x.c, .int .i64 x.n, .slice A x.args.length c]) ∧ (x.ok ∧ IntsAt (er (oldB w.heap.size) w') A x.args) ∧ RdW W0 w' p r ∧ Kp (OneB p) w w' :=
  (takeIns_any W0 w p l h hy).mono fun e w' ⟨k, q⟩ => by
    rcases q with ⟨h1, _⟩ | ⟨t, r', A, c, h1, h2, h3, h4, h5⟩
    · rw [hn] at h1; cases h1
    · rw [hn] at h1
      simp only [Option.some.injEq, Prod.mk.injEq] at h1
      obtain ⟨rfl, rfl⟩ := h1
      exact ⟨A, c, h2, ⟨h3, h4⟩, h5, k⟩

def ItIn (w : World) (t : In) (cs : List Value) : Prop := ∃ A c, cs = [.int .i64 t.op, .int .i64 t.a, .int .i64 t.b, .int .i64 t.c, .int .i64 t.n, .slice A t.args.length c] ∧ t.ok ∧ IntsAt w A t.args
theorem ItIn.st : ∀ w w' x cs, Sub w w' → ItIn w x cs → ItIn w' x cs := fun _ _ _ _ hs ⟨A, c, h1, h2, h3⟩ => ⟨A, c, h1, h2, h3.sub hs⟩
theorem LW.ins {e : TypeId} {N : Nat} {w : World} {v : Value} {xs : List In} (h : LW in0 ItIn 6 e N w v xs) (hl : xs.length ≤ maxLen) : ∃ A c, v = .slice A xs.length c ∧ InsAt (er (oldB N) w) A xs := by
  obtain ⟨A, c, hv, h1⟩ := h.lies ItIn.st
  refine ⟨A, c, hv, hl, ?_⟩
  rcases h1 with h0 | ⟨g, hA, hi⟩
  · exact Or.inl h0
  refine Or.inr ⟨g, 0, hA, fun i hi' => ?_⟩
  obtain ⟨ci, ⟨A', c', rfl, i1, i2⟩, hc⟩ := hi i hi'
  exact ⟨hc 0 _ (by omega) rfl, hc 1 _ (by omega) rfl, hc 2 _ (by omega) rfl, hc 3 _ (by omega) rfl, hc 4 _ (by omega) rfl, i1, A', c', hc 5 _ (by omega) rfl, i2⟩

theorem info_takeCode : ∃ i, Try.prog.info? 53 = some i ∧ i.zero = some (.agg #[.int .i64 0, .int .i64 0, .int .i64 0, .int .i64 0, .int .i64 0, .slice none 0 0]) ∧ i.size = 6 ∧ i.bytes = 64 := info_partsW (by kernel_rfl)
def takeCodeQ (M : Int) (W0 w : World) (p : Nat) (l : List Int) (e : Ending) (w' : World) : Prop :=
  Kp (OneB p) w w' ∧ ((pL M (pIn bdP) l = none ∧ e = noE) ∨ ∃ xs r A c, pL M (pIn bdP) l = some (xs, r) ∧ e = .returned (.slice A xs.length c) ∧ InsAt (er (oldB w.heap.size) w') A xs ∧ RdW W0 w' p r)
set_option maxHeartbeats 8000000 in
theorem takeCode_any (M : Int) (hM : M ≤ 2400) (W0 w : World) (p : Nat) (l : List Int) (h : RdW W0 w p l) (hy : Bys l) :
    Calls Try.prog 80 #[.pointer (some ⟨p, 0, none⟩), .int .i64 M, .func (.func 81) #[] #[]] w (takeCodeQ M W0 w p l) := by
  have hpl := h.lt
  have HR := hidW h
  have HY := hidW hy
  clear h hy
  obtain ⟨j0, hi0, hz0, hz1, hz2⟩ := info_takeCode
  cases hp : pN l with
  | none =>
    have HP := hidW hp
    have HL := hidW (show pL M (pIn bdP) l = none by unfold pL; rw [hp]; rfl)
    clear hp
    go_enter Try.func80, Try.ntmps80
    go_wp2_with (go_at_call 74; refine (takeNum64_no HR.out HY.out HP.out).mono ?_; rintro e w1 ⟨rfl, k1⟩)
    exact ⟨rfl, k1, Or.inl ⟨HL.out, rfl⟩⟩
  | some y =>
    obtain ⟨n, l1⟩ := y
    have HP := hidW hp
    have hn64 := pN_i64 hp
    unfold I64 at hn64
    have HB1 := hidW (pN_snd.keeps l n l1 HY.out hp)
    by_cases hb : 0 ≤ n ∧ n ≤ M
    · have HL := hidW (show pL M (pIn bdP) l = pMany (pIn bdP) n.toNat l1 by unfold pL; rw [hp, Option.bind_some]; simp only; rw [if_pos hb])
      clear hp
      obtain ⟨m, rfl⟩ : ∃ m : Nat, n = (m : Int) := ⟨n.toNat, by omega⟩
      have hm : m ≤ 2400 := by omega
      rw [show ((m : Int)).toNat = m by omega] at HL
      have hbd : decide ((0 : Int) ≤ (m : Int) ∧ (m : Int) ≤ M) = true := decide_eq_true (by omega)
      clear hb hn64
      go_enter Try.func80, Try.ntmps80
      go_wp2_with (first
        | (go_at_call 74; refine (takeNum64_yes HR.out HY.out HP.out).mono ?_; rintro e w1 ⟨rfl, r1, k1⟩; have R1 := hidW r1; have K1 := hidW k1; clear r1 k1)
        | (go_at_call 75; refine (span64_any _ _ _ _).mono ?_; rintro e w2 ⟨he, hw⟩; rw [hbd] at he; subst he; rw [hw]; clear hw w2))
      clear hbd
      go_loopw [8, 17] (fun v i wr => ∃ (k : Nat) (xs : List In) (r : List Int), k ≤ m ∧ i = .int .i64 (k : Int) ∧ pMany (pIn bdP) k l1 = some (xs, r) ∧ RdW W0 wr p r ∧ LW in0 ItIn 6 53 w.heap.size wr v xs ∧ Kp (NB p w.heap.size) w wr) (fun _ i _ => m - (intOf i).toNat)
      case atStart => exact ⟨0, [], l1, by omega, rfl, rfl, R1.out, LW.nil _ _ _ _ _ _, K1.out.one⟩
      case round =>
        obtain ⟨k, xs, r, hk, rfl, h1, h2, h3, h4⟩ := hrel
        have H1 := hidW h1
        have H2 := hidW h2
        have H3 := hidW h3
        have H4 := hidW h4
        have hxl := many_len _ _ _ _ h1
        have hws := h4.size
        clear h1 h2 h3 h4
        have HB := hidW (many_keeps ((pIn_snd bdP).keeps) k l1 xs r HB1.out H1.out)
        by_cases hlt : k < m
        · cases hp : (pIn bdP) r with
          | none =>
            have HPX := hidW hp
            clear hp
            go_wp2_with (go_at_call 81; refine (takeIns_no H2.out HB.out HPX.out).mono ?_; rintro e w2 ⟨rfl, k2⟩)
            exact ⟨rfl, (H4.out.trans k2.one).nb, Or.inl ⟨by rw [HL.out]; exact many_stop H1.out hlt HPX.out, rfl⟩⟩
          | some y =>
            obtain ⟨x, r'⟩ := y
            have HPX := hidW hp
            clear hp
            obtain ⟨v, hv⟩ : ∃ v, v = u8 := ⟨u8, rfl⟩
            have HX := hidW hxl
            clear hxl
            subst hv
            go_wp2_with (first
              | (go_at_call 81; refine (takeIns_yes H2.out HB.out HPX.out).mono ?_; rintro e w2 ⟨A2, c2, rfl, ⟨i2, t2⟩, r2, k2⟩; have it2 : ItIn (er (oldB wr.heap.size) w2) x [.int .i64 x.op, .int .i64 x.a, .int .i64 x.b, .int .i64 x.c, .int .i64 x.n, .slice A2 x.args.length c2] := ⟨A2, c2, rfl, i2, t2⟩; clear i2 t2; have R2 := hidW r2; have K2 := hidW k2; have IT := hidW (item_far ItIn.st H3.out hws (.cells #[.int .i64 x.op, .int .i64 x.a, .int .i64 x.b, .int .i64 x.c, .int .i64 x.n, .slice A2 x.args.length c2] 53) it2); have LA := hidW ((H3.out.keep ItIn.st k2 (fun j hj => by rw [hj]; exact hpl)).keep ItIn.st ((Kp.refl (fun _ => False) w2).alloc (.cells #[.int .i64 x.op, .int .i64 x.a, .int .i64 x.b, .int .i64 x.c, .int .i64 x.n, .slice A2 x.args.length c2] 53)) (fun _ hf => hf.elim)); clear r2 k2 it2; obtain ⟨cs, la1, la2⟩ := LA.out.ex; have LA1 := hidW la1; have LA2 := hidW la2; clear la1 la2)
              | (at_builtin; refine wpList_append_lies _ rfl (.tmp 19) (.tmp 23) 47 rfl w.heap.size 53 j0 _ 6 64 Try.underlying47 hi0 hz0 hz1 hz2 rfl (by omega) v xs.length cs (by rfl) (by exact LA1.out) ⟨w2.heap.size, 0, none⟩ 1 1 [.int .i64 x.op, .int .i64 x.a, .int .i64 x.b, .int .i64 x.c, .int .i64 x.n, .slice A2 x.args.length c2] (by rfl) (by rfl) (World.news_of_block (cs := #[.int .i64 x.op, .int .i64 x.a, .int .i64 x.b, .int .i64 x.c, .int .i64 x.n, .slice A2 x.args.length c2]) (t := 53) (fr := (0, 0)) (heap_alloc_new w2 _)) (by simp [Value.oneCell']) (by omega) (by rw [HX.out]; unfold maxLen; omega) (by rw [HX.out]; omega) (by have := K2.out.size; simp; omega) (w2.heap.size + 1) (by simp) ?_; intro gg cap w3 hown1 hgrow hat hlt2; have G3 := hidW (LW.app ItIn.st rfl rfl LA1.out LA2.out IT.out hown1 hgrow (by simpa using hat)); have GB := hidW (LA1.out.lt); have GR := hidW hgrow; clear hown1 hgrow hat hlt2))
            have HKW := hidW (show Kp (NB p w.heap.size) (w2.alloc (.cells #[.int .i64 x.op, .int .i64 x.a, .int .i64 x.b, .int .i64 x.c, .int .i64 x.n, .slice A2 x.args.length c2] 53)) w3 from ⟨GR.out.os, GR.out.tape, GR.out.output, GR.out.size, fun j hj hn => GR.out.block j hj fun e2 => hn (Or.inr (GB.out j e2.symm).1)⟩)
            go_roundw
            case rel => exact ⟨k + 1, xs ++ [x], r', by omega, by go_num, many_next H1.out HPX.out, ((R2.out.alloc _).keep (S := fun j => v.ownBlock = some j) ⟨GR.out.os, GR.out.tape, GR.out.output, GR.out.size, fun j hj hn => GR.out.block j hj fun e2 => hn e2.symm⟩ (fun e2 => by have := (GB.out p e2).1; omega) (fun j hj => by have := (GB.out j hj).1; have := HR.out.bl.size; omega)), G3.out, ((H4.out.trans K2.out.one).alloc _).trans HKW.out⟩
            case measure => simp [intOf]; omega
        · obtain rfl : k = m := by omega
          obtain ⟨A, c, hv, hat⟩ := H3.out.ins (by rw [hxl]; unfold maxLen; omega)
          have HAT := hidW hat
          clear hat
          subst hv
          go_wp2
          go_ret
          exact ⟨H4.out.nb, Or.inr ⟨xs, r, A, c, by rw [HL.out]; exact H1.out, rfl, HAT.out, H2.out⟩⟩
    · have HL := hidW (show pL M (pIn bdP) l = none by unfold pL; rw [hp, Option.bind_some]; simp only; rw [if_neg hb])
      have hbd : decide ((0 : Int) ≤ n ∧ n ≤ M) = false := decide_eq_false hb
      clear hp hb
      go_enter Try.func80, Try.ntmps80
      go_wp2_with (first
        | (go_at_call 74; refine (takeNum64_yes HR.out HY.out HP.out).mono ?_; rintro e w1 ⟨rfl, r1, k1⟩; have K1 := hidW k1; clear r1 k1)
        | (go_at_call 75; refine (span64_any _ _ _ _).mono ?_; rintro e w2 ⟨he, hw⟩; rw [hbd] at he; subst he; rw [hw]; clear hw w2)
        | (go_at_call 52; refine (giveUp_any _).mono ?_; rintro e w3 ⟨rfl, hw⟩; rw [hw]; clear hw w3))
      exact ⟨rfl, K1.out, Or.inl ⟨HL.out, rfl⟩⟩
theorem takeCode_no {M : Int} (hM : M ≤ 2400) {W0 w : World} {p : Nat} {l : List Int} (h : RdW W0 w p l) (hy : Bys l) (hn : pL M (pIn bdP) l = none) : Calls Try.prog 80 #[.pointer (some ⟨p, 0, none⟩), .int .i64 M, .func (.func 81) #[] #[]] w fun e w' => e = noE ∧ Kp (OneB p) w w' :=
  (takeCode_any M hM W0 w p l h hy).mono fun e w' ⟨k, q⟩ => by
    rcases q with ⟨_, h1⟩ | ⟨xs, r, A, c, h1, _⟩
    · exact ⟨h1, k⟩
    · rw [hn] at h1; cases h1
theorem takeCode_yes {M : Int} (hM : M ≤ 2400) {W0 w : World} {p : Nat} {l : List Int} (h : RdW W0 w p l) (hy : Bys l) {xs : List In} {r : List Int} (hn : pL M (pIn bdP) l = some (xs, r)) : Calls Try.prog 80 #[.pointer (some ⟨p, 0, none⟩), .int .i64 M, .func (.func 81) #[] #[]] w fun e w' => ∃ A c, e = .returned (.slice A xs.length c) ∧ InsAt (er (oldB w.heap.size) w') A xs ∧ RdW W0 w' p r ∧ Kp (OneB p) w w' :=
  (takeCode_any M hM W0 w p l h hy).mono fun e w' ⟨k, q⟩ => by
    rcases q with ⟨h1, _⟩ | ⟨xs', r', A, c, h1, h2, h3, h4⟩
    · rw [hn] at h1; cases h1
    · rw [hn] at h1
      simp only [Option.some.injEq, Prod.mk.injEq] at h1
      obtain ⟨rfl, rfl⟩ := h1
      exact ⟨A, c, h2, h3, h4, k⟩

end Go.Proofs.Ytgiiapenmjollab
