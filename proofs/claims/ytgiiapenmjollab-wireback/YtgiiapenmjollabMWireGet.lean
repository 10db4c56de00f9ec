/-
  wire.Get: the file that has the bytes, or that none has.
-/
import Derived.Test.YtgiiapenmjollabMWireTakeJ
import Derived.Defers
import Derived.Recover
namespace Go.Proofs.Ytgiiapenmjollab
open Go.RowKit
set_option maxRecDepth 100000
set_option linter.unusedVariables false
set_option linter.unusedSimpArgs false

theorem Rw.bys {W0 w : World} {g n cap : Nat} {l : List Int} (h : Rw W0 w (.slice (some ⟨g, 0, none⟩) n cap) l) : BysAt w (some ⟨g, 0, none⟩) l :=
  Or.inr ⟨g, 0, rfl, fun i hi => by rw [Nat.zero_add]; exact h.byte i hi⟩
theorem BysAt.bl {w w' : World} {A : Option Addr} {l : List Int} (h : BysAt w A l) (hb : Bl w w') : BysAt w' A l := by
  rcases h with h0 | ⟨b, off, rfl, hi⟩
  · exact Or.inl h0
  · exact Or.inr ⟨b, off, rfl, fun i hi' => hb.cell (hi i hi')⟩
set_option maxHeartbeats 4000000 in
theorem must_yes (f : Fi) (A B D : Option Addr) (a b c : Nat) (l : List Int) (w : World) (hA : ClsAt w A f.classes) (hB : MesAt w B f.methods) (hD : BysAt w D l) (h : putP f = some l) :
    Calls Try.prog 22 #[fiV f.classes.length f.methods.length A B a b, .slice D l.length c] w fun e w' => e = .returned (.tuple #[]) ∧ Bl w w' := by
  have HF : Hid (FiBox (w.alloc (fiO f.classes.length f.methods.length A B a b)) w.heap.size 0 f.classes.length f.methods.length A B a b) := FiBox.new ..
  have HW : Hid (Bl w (w.alloc (fiO f.classes.length f.methods.length A B a b))) := (Bl.refl w).alloc _
  have HA := hidW (hA.bl HW.out)
  have HB := hidW (hB.bl HW.out)
  have HD := hidW (hD.bl HW.out)
  have HP := hidW h
  clear hA hB hD h
  go_enter Try.func22, Try.ntmps22
  go_wp2_with (first
    | (go_at_call 6; refine (put_some f _ _ _ _ _ HA.out HB.out l HP.out).mono ?_; rintro e w1 ⟨g, cap, rfl, r1⟩; have R1 := hidW r1; clear r1)
    | (go_at_call 51; refine (bytesEqual_any _ _ _ _ l l _ R1.out.bys (HD.out.bl R1.out.bl)).mono ?_; rintro e w2 ⟨he, g2⟩; rw [show ((strB l).toList == (strB l).toList) = true from beq_self_eq_true _] at he; subst he))
  go_end0
  exact ⟨rfl, (HW.out.trans R1.out.bl).trans g2⟩
set_option maxHeartbeats 4000000 in
theorem must_no (f : Fi) (A B D : Option Addr) (a b c : Nat) (l : List Int) (w : World) (hA : ClsAt w A f.classes) (hB : MesAt w B f.methods) (hD : BysAt w D l) (hy : Bys l) (h : putP f ≠ some l) :
    Calls Try.prog 22 #[fiV f.classes.length f.methods.length A B a b, .slice D l.length c] w fun e w' => e = noE ∧ Bl w w' := by
  have HF : Hid (FiBox (w.alloc (fiO f.classes.length f.methods.length A B a b)) w.heap.size 0 f.classes.length f.methods.length A B a b) := FiBox.new ..
  have HW : Hid (Bl w (w.alloc (fiO f.classes.length f.methods.length A B a b))) := (Bl.refl w).alloc _
  have HA := hidW (hA.bl HW.out)
  have HB := hidW (hB.bl HW.out)
  have HD := hidW (hD.bl HW.out)
  clear hA hB hD
  cases hp : putP f with
  | none =>
    have HP := hidW hp
    clear hp h
    go_enter Try.func22, Try.ntmps22
    go_wp2_with (first
      | (go_at_call 6; refine (put_none f _ _ _ _ _ HA.out HB.out HP.out).mono ?_; rintro e w1 ⟨rfl, g1⟩)
      | (go_at_call 52; refine (giveUp_any _).mono ?_; rintro e w3 ⟨rfl, hw⟩; rw [hw]; clear hw w3))
    exact ⟨rfl, rfl, HW.out.trans g1⟩
  | some s =>
    have HP := hidW hp
    have HN := hidW (strB_ne (putP_by hp) hy (fun e => h (by rw [hp, e])))
    clear hp h
    go_enter Try.func22, Try.ntmps22
    go_wp2_with (first
      | (go_at_call 6; refine (put_some f _ _ _ _ _ HA.out HB.out s HP.out).mono ?_; rintro e w1 ⟨g, cap, rfl, r1⟩; have R1 := hidW r1; clear r1)
      | (go_at_call 51; refine (bytesEqual_any _ _ _ _ s l _ R1.out.bys (HD.out.bl R1.out.bl)).mono ?_; rintro e w2 ⟨he, g2⟩; rw [HN.out] at he; subst he)
      | (go_at_call 52; refine (giveUp_any _).mono ?_; rintro e w3 ⟨rfl, hw⟩; rw [hw]; clear hw w3))
    exact ⟨rfl, rfl, (HW.out.trans R1.out.bl).trans g2⟩

theorem pFile_of {g : Fi} {l : List Int} (h : putP g = some l) (hn : g.nums) : pFile l = some (g, []) := by
  obtain ⟨h1, h2⟩ := putP_some h
  obtain ⟨c, rfl⟩ : ∃ c, l = c :: encFi g := by rcases h2 with ⟨_, e⟩ | ⟨_, _, e⟩ <;> exact ⟨_, e⟩
  unfold pFile
  rw [if_neg (by simp)]
  have := pFi_und bdP g (good_P h1 hn) []
  rw [List.append_nil] at this
  exact this

theorem assert_none (x : Value) (w : World) : (Instr.typeAssert (.iface 58 x) 20 58 true).run Try.prog w = .ok (.tuple #[x, .bool true]) w := by
  simp [Instr.typeAssert, run_underlying Try.underlying58]
set_option maxHeartbeats 1000000 in
theorem gcatch_idle (a b : Value) (w : World) :
    CallsD Try.prog 20 #[a, b] .returning w fun e u' w' => e = .returned (.tuple #[]) ∧ u' = .returning ∧ w' = w := by
  refine callsD_of_wpS Try.func20 rfl fun c₀ cs hu => ?_
  apply wpS_seq
  apply wpS_region
  simp [wpOpsS, go_sem, recoverD, hu, Try.ntmps20, Exit.thenS]
  refine wpS_of_wp ?_
  go_wp2
  cases c₀
  simp_all [bodyPostS, results, Try.results20]
set_option maxHeartbeats 1000000 in
theorem gcatch_up (q0 q1 : Nat) (older : List PanicEntry) (w : World) (c0 c1 c2 : Value) (h0 : w.cell? ⟨q0, 0, none⟩ = some c0) (h1 : w.cell? ⟨q0, 1, none⟩ = some c1) (h2 : w.cell? ⟨q1, 0, none⟩ = some c2)
    (z0 : w.frozen? ⟨q0, 0, none⟩ = false) (z1 : w.frozen? ⟨q0, 1, none⟩ = false) (z2 : w.frozen? ⟨q1, 0, none⟩ = false) (hne : q0 ≠ q1) :
    CallsD Try.prog 20 #[.pointer (some ⟨q0, 0, none⟩), .pointer (some ⟨q1, 0, none⟩)] (.panicking ({ v := .iface 58 (.agg #[]), recovered := false } :: older)) w fun e u' w' =>
      e = .returned (.tuple #[]) ∧ u' = .panicking ({ v := .iface 58 (.agg #[]), recovered := true } :: older) ∧ w' = (((w.setCell ⟨q0, 0, none⟩ (.slice none 0 0)).setCell ⟨q0, 1, none⟩ (.slice none 0 0)).setCell ⟨q1, 0, none⟩ (.int .i64 2)).alloc (.cells #[] 58) := by
  refine callsD_of_wpS Try.func20 rfl fun c₀ cs hu => ?_
  apply wpS_seq
  apply wpS_region
  simp [wpOpsS, go_sem, recoverD, hu, Try.ntmps20, Exit.thenS]
  refine wpS_of_wp ?_
  have hts := assert_none (.agg #[])
  have l0 := cell_lt h0
  have l2 := cell_lt h2
  go_wp2
  simp [bodyPostS, results, Try.results20]

/-- What Get answers. -/
def GetQ (w : World) (l : List Int) (e : Ending) (w' : World) : Prop :=
  Bl w w' ∧ ((∃ f A B a b, putP f = some l ∧ f.nums ∧ e = .returned (.tuple #[fiV f.classes.length f.methods.length A B a b, .int .i64 0]) ∧ ClsAt w' A f.classes ∧ MesAt w' B f.methods) ∨
    ((∀ f : Fi, f.nums → putP f ≠ some l) ∧ e = .returned (.tuple #[fiV 0 0 none none 0 0, .int .i64 2])))
abbrev erZ : Obj := .cells #[.int .i64 0] 27
abbrev rdO (D : Option Addr) (n c : Nat) : Obj := .cells #[.slice D n c] 62
theorem takeFile_no {W0 w : World} {p : Nat} {l : List Int} (h : RdW W0 w p l) (hy : Bys l) (hn : pFile l = none) : Calls Try.prog 21 #[.pointer (some ⟨p, 0, none⟩)] w fun e w' => e = noE ∧ Kp (OneB p) w w' :=
  (takeFile_any W0 w p l h hy).mono fun e w' ⟨k, q⟩ => by
    rcases q with ⟨_, h1⟩ | ⟨t, r, _, _, _, _, h1, _⟩
    · exact ⟨h1, k⟩
    · rw [hn] at h1; cases h1
theorem takeFile_yes {W0 w : World} {p : Nat} {l : List Int} (h : RdW W0 w p l) (hy : Bys l) {x : Fi} {r : List Int} (hn : pFile l = some (x, r)) : Calls Try.prog 21 #[.pointer (some ⟨p, 0, none⟩)] w fun e w' => ∃ A B a b, e = .returned (fiV x.classes.length x.methods.length A B a b) ∧ ClsAt (er (oldB w.heap.size) w') A x.classes ∧ MesAt (er (oldB w.heap.size) w') B x.methods ∧ Kp (OneB p) w w' :=
  (takeFile_any W0 w p l h hy).mono fun e w' ⟨k, q⟩ => by
    rcases q with ⟨h1, _⟩ | ⟨t, r', A, B, a, b, h1, h2, h3, h4⟩
    · rw [hn] at h1; cases h1
    · rw [hn] at h1
      simp only [Option.some.injEq, Prod.mk.injEq] at h1
      obtain ⟨rfl, rfl⟩ := h1
      exact ⟨A, B, a, b, h2, h3, h4, k⟩
/-- Behind what was recovered. -/
theorem caught_out {w w1 w2 : World} (hb : Bl w w1) {T0 T1 T2 : TypeId} {x y z : Value} (b0 : w1.heap[w.heap.size]? = some (.cells #[x, y] T0 (0, 0))) (b1 : w1.heap[w.heap.size + 1]? = some (.cells #[z] T1 (0, 0)))
    (hw : w2 = (((w1.setCell ⟨w.heap.size, 0, none⟩ (.slice none 0 0)).setCell ⟨w.heap.size, 1, none⟩ (.slice none 0 0)).setCell ⟨w.heap.size + 1, 0, none⟩ (.int .i64 2)).alloc (.cells #[] T2)) :
    Bl w w2 ∧ w2.cell? ⟨w.heap.size, 0, none⟩ = some (.slice none 0 0) ∧ w2.cell? ⟨w.heap.size, 1, none⟩ = some (.slice none 0 0) ∧ w2.cell? ⟨w.heap.size + 1, 0, none⟩ = some (.int .i64 2) := by
  have l1 := lt_of_blk b1
  have c0 : w2.heap[w.heap.size]? = some (.cells #[.slice none 0 0, .slice none 0 0] T0 (0, 0)) := by
    rw [hw]
    exact (Below.heap_alloc _ _ _ (by simp; omega)).trans ((Below.heap_setCell _ _ _ _ (by simp)).trans (set_block (set_block b0 0 _) 1 _))
  have c1 : w2.heap[w.heap.size + 1]? = some (.cells #[.int .i64 2] T1 (0, 0)) := by
    rw [hw]
    exact (Below.heap_alloc _ _ _ (by simp; omega)).trans (set_block ((Below.heap_setCell _ _ _ _ (by simp)).trans ((Below.heap_setCell _ _ _ _ (by simp)).trans b1)) 0 _)
  refine ⟨?_, blk_cell c0 0 rfl, blk_cell c0 1 rfl, blk_cell c1 0 rfl⟩
  rw [hw]
  exact (((hb.setCell (by simp) _).setCell (by simp) _).setCell (by simp) _).alloc _
theorem done_out {w w2 w4 : World} (hb : Bl w w2) {T0 T1 : TypeId} {x y z : Value} (b0 : w2.heap[w.heap.size]? = some (.cells #[x, y] T0 (0, 0))) (b1 : w2.heap[w.heap.size + 1]? = some (.cells #[z] T1 (0, 0)))
    (hw : w4 = ((w2.setCell ⟨w.heap.size, 0, none⟩ x).setCell ⟨w.heap.size, 1, none⟩ y).setCell ⟨w.heap.size + 1, 0, none⟩ (.int .i64 0)) :
    Bl w w4 ∧ w4.cell? ⟨w.heap.size, 0, none⟩ = some x ∧ w4.cell? ⟨w.heap.size, 1, none⟩ = some y ∧ w4.cell? ⟨w.heap.size + 1, 0, none⟩ = some (.int .i64 0) := by
  have c0 : w4.heap[w.heap.size]? = some (.cells #[x, y] T0 (0, 0)) := by
    rw [hw]
    exact (Below.heap_setCell _ _ _ _ (by simp)).trans (set_block (set_block b0 0 _) 1 _)
  have c1 : w4.heap[w.heap.size + 1]? = some (.cells #[.int .i64 0] T1 (0, 0)) := by
    rw [hw]
    exact set_block ((Below.heap_setCell _ _ _ _ (by simp)).trans ((Below.heap_setCell _ _ _ _ (by simp)).trans b1)) 0 _
  refine ⟨?_, blk_cell c0 0 rfl, blk_cell c0 1 rfl, blk_cell c1 0 rfl⟩
  rw [hw]
  exact ((hb.setCell (by simp) _).setCell (by simp) _).setCell (by simp) _
set_option maxHeartbeats 8000000 in
theorem get_any (D : Option Addr) (c : Nat) (l : List Int) (w : World) (hD : BysAt w D l) (hy : Bys l) (hc : l.length ≤ c) (hm : c ≤ maxLen) :
    Calls Try.prog 9 #[.slice D l.length c] w (GetQ w l) := by
  have hmf : ∀ (fn : Fn) (first cap : Array Value) (w : World), (Instr.makeFunc fn first cap).run Try.prog w = .ok (.func fn first cap) w := fun _ _ _ _ => rfl
  have HB3 := hidW ((((Bl.refl w).alloc fiZ).alloc erZ).alloc (rdO D l.length c))
  have HR := hidW (show RdW w (((w.alloc fiZ).alloc erZ).alloc (rdO D l.length c)) (w.heap.size + 2) l from ⟨HB3.out, by omega, D, c, by
    have := heap_alloc_new ((w.alloc fiZ).alloc erZ) (rdO D l.length c)
    rw [World.size_alloc, World.size_alloc] at this
    exact this, hD, hc, hm⟩)
  have HD := hidW hD
  have HY := hidW hy
  have E0 := hidW (show (((w.alloc fiZ).alloc erZ).alloc (rdO D l.length c)).heap[w.heap.size]? = some (.cells #[.slice none 0 0, .slice none 0 0] 25 (0, 0)) from (Below.heap_alloc _ _ _ (by simp; omega)).trans ((Below.heap_alloc _ _ _ (by simp)).trans (heap_alloc_new w fiZ)))
  have E1 := hidW (show (((w.alloc fiZ).alloc erZ).alloc (rdO D l.length c)).heap[w.heap.size + 1]? = some (.cells #[.int .i64 0] 27 (0, 0)) from (Below.heap_alloc _ _ _ (by simp)).trans (by
    have := heap_alloc_new (w.alloc fiZ) erZ
    rw [World.size_alloc] at this
    exact this))
  clear hD hy
  cases hp : pFile l with
  | none =>
    have HP := hidW hp
    have HNo := hidW (show ∀ f : Fi, f.nums → putP f ≠ some l from fun f hn h => by rw [pFile_of h hn] at hp; cases hp)
    clear hp
    go_enter_defers Try.func9, Try.ntmps9
    go_wp2_with (go_at_call 21; refine (takeFile_no HR.out HY.out HP.out).mono ?_; rintro e w1 ⟨rfl, k1⟩)
    have b0 := (k1.block w.heap.size (by simp; omega) (fun e2 => by unfold OneB at e2; omega)).trans E0.out
    have b1 := (k1.block (w.heap.size + 1) (by simp) (fun e2 => by unfold OneB at e2; omega)).trans E1.out
    refine leaves_cons (f := 20) (args := #[.pointer (some ⟨w.heap.size, 0, none⟩), .pointer (some ⟨w.heap.size + 1, 0, none⟩)]) (by simp) (by simp [go_sem]) ?_
    refine (gcatch_up w.heap.size (w.heap.size + 1) [] w1 _ _ _ (blk_cell b0 0 rfl) (blk_cell b0 1 rfl) (blk_cell b1 0 rfl) (blk_free b0 0) (blk_free b0 1) (blk_free b1 0) (by omega)).mono ?_
    rintro e u' w2 ⟨rfl, rfl, hw⟩
    obtain ⟨g2, e0, e1, e2⟩ := caught_out (k1.toBl HB3.out (fun k hk => by rw [hk]; omega)) b0 b1 hw
    clear hw
    have hfin : GetQ w l (.returned (.tuple #[fiV 0 0 none none 0 0, .int .i64 2])) w2 := ⟨g2, Or.inr ⟨HNo.out, rfl⟩⟩
    simp [Leaves, settle, results, Try.results9, go_sem, e0, e1, e2]
    exact hfin
  | some y =>
    obtain ⟨f, r⟩ := y
    have HP := hidW hp
    by_cases hput : putP f = some l
    · have HPut := hidW hput
      clear hp hput
      go_enter_defers Try.func9, Try.ntmps9
      go_wp2_with (first
        | (go_at_call 21; refine (takeFile_yes HR.out HY.out HP.out).mono ?_; rintro e w1 ⟨A, B, a, b, rfl, t1, m1, k1⟩; have b0 := (k1.block w.heap.size (by simp; omega) (fun e2 => by unfold OneB at e2; omega)).trans E0.out; have b1 := (k1.block (w.heap.size + 1) (by simp) (fun e2 => by unfold OneB at e2; omega)).trans E1.out; have c0 := blk_cell b0 0 rfl; have c1 := blk_cell b0 1 rfl; have z0 := blk_free b0 0; have z1 := blk_free b0 1; have S1 := hidW (show Sub (er (oldB (w.heap.size + 3)) w1) ((w1.setCell ⟨w.heap.size, 0, none⟩ (.slice A f.classes.length a)).setCell ⟨w.heap.size, 1, none⟩ (.slice B f.methods.length b)) from ((er_set (k := w.heap.size) (o := 0) (by omega) (Nat.le_refl _)).trans (er_set (k := w.heap.size) (o := 1) (by omega) (Nat.le_refl _))).trans (er_sub _ _)); have T1 := hidW ((show ClsAt (er (oldB (w.heap.size + 3)) w1) A f.classes by simpa using t1).sub S1.out); have M1 := hidW ((show MesAt (er (oldB (w.heap.size + 3)) w1) B f.methods by simpa using m1).sub S1.out); have G1 := hidW (((k1.toBl HB3.out (fun k hk => by rw [hk]; omega)).setCell (p := ⟨w.heap.size, 0, none⟩) (Nat.le_refl _) (.slice A f.classes.length a)).setCell (p := ⟨w.heap.size, 1, none⟩) (Nat.le_refl _) (.slice B f.methods.length b)); have B0 := hidW (set_block (set_block b0 0 (.slice A f.classes.length a)) 1 (.slice B f.methods.length b)); have B1 := hidW ((Below.heap_setCell (w1.setCell ⟨w.heap.size, 0, none⟩ (.slice A f.classes.length a)) ⟨w.heap.size, 1, none⟩ (.slice B f.methods.length b) (w.heap.size + 1) (by simp)).trans ((Below.heap_setCell w1 ⟨w.heap.size, 0, none⟩ (.slice A f.classes.length a) (w.heap.size + 1) (by simp)).trans b1)); have S1e := hidW (show Sub (er (oldB (w.heap.size + 3)) w1) (er (oldB (w.heap.size + 3)) ((w1.setCell ⟨w.heap.size, 0, none⟩ (.slice A f.classes.length a)).setCell ⟨w.heap.size, 1, none⟩ (.slice B f.methods.length b))) from (er_set (k := w.heap.size) (o := 0) (by omega) (Nat.le_refl _)).trans (er_set (k := w.heap.size) (o := 1) (by omega) (Nat.le_refl _))); have TE1 := hidW ((show ClsAt (er (oldB (w.heap.size + 3)) w1) A f.classes by simpa using t1).sub S1e.out); have ME1 := hidW ((show MesAt (er (oldB (w.heap.size + 3)) w1) B f.methods by simpa using m1).sub S1e.out); clear t1 m1 k1 b0 b1)
        | (go_at_call 22; refine (must_yes f _ _ _ _ _ _ l _ T1.out M1.out (HD.out.bl G1.out) HPut.out).mono ?_; rintro e w2 ⟨rfl, g2⟩; have b0 := (g2.block w.heap.size (lt_of_blk B0.out)).trans B0.out; have b1 := (g2.block (w.heap.size + 1) (lt_of_blk B1.out)).trans B1.out; have q0 := blk_cell b0 0 rfl; have q1 := blk_cell b0 1 rfl; have q2 := blk_cell b1 0 rfl; have y0 := blk_free b0 0; have y1 := blk_free b0 1; have y2 := blk_free b1 0; have B20 := hidW b0; have B21 := hidW b1; have G2 := hidW g2; clear g2 b0 b1))
      refine leaves_cons (f := 20) (args := #[.pointer (some ⟨w.heap.size, 0, none⟩), .pointer (some ⟨w.heap.size + 1, 0, none⟩)]) (by simp) (by simp [go_sem]) ?_
      refine (gcatch_idle _ _ _).mono ?_
      rintro e u' w4 ⟨rfl, rfl, hw⟩
      obtain ⟨g4, e0, e1, e2⟩ := done_out (G1.out.trans G2.out) B20.out B21.out hw
      have hfin : GetQ w l (.returned (.tuple #[fiV f.classes.length f.methods.length A B a b, .int .i64 0])) w4 := ⟨g4, Or.inl ⟨f, A, B, a, b, HPut.out, nums_of T1.out M1.out, rfl, ?_, ?_⟩⟩
      · simp [Leaves, settle, results, Try.results9, go_sem, e0, e1, e2]
        exact hfin
      · rw [hw]
        exact TE1.out.sub (((((er_to (T := oldB (w.heap.size + 3)) fun b hb hlt => ⟨hb, G2.out.block b hlt⟩).trans (er_set (k := w.heap.size) (o := 0) (by omega) (Nat.le_refl _))).trans (er_set (k := w.heap.size) (o := 1) (by omega) (Nat.le_refl _))).trans (er_set (k := w.heap.size + 1) (o := 0) (by omega) (Nat.le_refl _))).trans (er_sub _ _))
      · rw [hw]
        exact ME1.out.sub (((((er_to (T := oldB (w.heap.size + 3)) fun b hb hlt => ⟨hb, G2.out.block b hlt⟩).trans (er_set (k := w.heap.size) (o := 0) (by omega) (Nat.le_refl _))).trans (er_set (k := w.heap.size) (o := 1) (by omega) (Nat.le_refl _))).trans (er_set (k := w.heap.size + 1) (o := 0) (by omega) (Nat.le_refl _))).trans (er_sub _ _))
    · have HNo := hidW (show ∀ g : Fi, g.nums → putP g ≠ some l from fun g hn h => by
        rw [pFile_of h hn] at hp
        simp only [Option.some.injEq, Prod.mk.injEq] at hp
        exact hput (by rw [← hp.1]; exact h))
      have HPut := hidW hput
      clear hp hput
      go_enter_defers Try.func9, Try.ntmps9
      go_wp2_with (first
        | (go_at_call 21; refine (takeFile_yes HR.out HY.out HP.out).mono ?_; rintro e w1 ⟨A, B, a, b, rfl, t1, m1, k1⟩; have b0 := (k1.block w.heap.size (by simp; omega) (fun e2 => by unfold OneB at e2; omega)).trans E0.out; have b1 := (k1.block (w.heap.size + 1) (by simp) (fun e2 => by unfold OneB at e2; omega)).trans E1.out; have c0 := blk_cell b0 0 rfl; have c1 := blk_cell b0 1 rfl; have z0 := blk_free b0 0; have z1 := blk_free b0 1; have S1 := hidW (show Sub (er (oldB (w.heap.size + 3)) w1) ((w1.setCell ⟨w.heap.size, 0, none⟩ (.slice A f.classes.length a)).setCell ⟨w.heap.size, 1, none⟩ (.slice B f.methods.length b)) from ((er_set (k := w.heap.size) (o := 0) (by omega) (Nat.le_refl _)).trans (er_set (k := w.heap.size) (o := 1) (by omega) (Nat.le_refl _))).trans (er_sub _ _)); have T1 := hidW ((show ClsAt (er (oldB (w.heap.size + 3)) w1) A f.classes by simpa using t1).sub S1.out); have M1 := hidW ((show MesAt (er (oldB (w.heap.size + 3)) w1) B f.methods by simpa using m1).sub S1.out); have G1 := hidW (((k1.toBl HB3.out (fun k hk => by rw [hk]; omega)).setCell (p := ⟨w.heap.size, 0, none⟩) (Nat.le_refl _) (.slice A f.classes.length a)).setCell (p := ⟨w.heap.size, 1, none⟩) (Nat.le_refl _) (.slice B f.methods.length b)); have B0 := hidW (set_block (set_block b0 0 (.slice A f.classes.length a)) 1 (.slice B f.methods.length b)); have B1 := hidW ((Below.heap_setCell (w1.setCell ⟨w.heap.size, 0, none⟩ (.slice A f.classes.length a)) ⟨w.heap.size, 1, none⟩ (.slice B f.methods.length b) (w.heap.size + 1) (by simp)).trans ((Below.heap_setCell w1 ⟨w.heap.size, 0, none⟩ (.slice A f.classes.length a) (w.heap.size + 1) (by simp)).trans b1)); clear t1 m1 k1 b0 b1)
        | (go_at_call 22; refine (must_no f _ _ _ _ _ _ l _ T1.out M1.out (HD.out.bl G1.out) HY.out HPut.out).mono ?_; rintro e w2 ⟨rfl, g2⟩))
      have b0 := (g2.block w.heap.size (lt_of_blk B0.out)).trans B0.out
      have b1 := (g2.block (w.heap.size + 1) (lt_of_blk B1.out)).trans B1.out
      refine leaves_cons (f := 20) (args := #[.pointer (some ⟨w.heap.size, 0, none⟩), .pointer (some ⟨w.heap.size + 1, 0, none⟩)]) (by simp) (by simp [go_sem]) ?_
      refine (gcatch_up w.heap.size (w.heap.size + 1) [] w2 _ _ _ (blk_cell b0 0 rfl) (blk_cell b0 1 rfl) (blk_cell b1 0 rfl) (blk_free b0 0) (blk_free b0 1) (blk_free b1 0) (by omega)).mono ?_
      rintro e u' w3 ⟨rfl, rfl, hw⟩
      obtain ⟨g3, e0, e1, e2⟩ := caught_out (G1.out.trans g2) b0 b1 hw
      clear hw
      have hfin : GetQ w l (.returned (.tuple #[fiV 0 0 none none 0 0, .int .i64 2])) w3 := ⟨g3, Or.inr ⟨HNo.out, rfl⟩⟩
      simp [Leaves, settle, results, Try.results9, go_sem, e0, e1, e2]
      exact hfin

end Go.Proofs.Ytgiiapenmjollab
