/-
  Package rform: the fields of an instruction that are registers, by a contract (3).
-/
import Derived.Test.YtgiiapenmjollacLRformHold
namespace Go.Proofs.Ytgiiapenmjollac
open Go.RowKit
set_option linter.unusedVariables false
set_option linter.unusedSimpArgs false
set_option maxRecDepth 100000 in
set_option maxHeartbeats 4000000 in
theorem preg_7 (cs : List Cl) (ms : List Me) (A B : Option Addr) (x y : Nat) (m : Me) (P C K : Option Addr) (p c k : Nat) (a b d n : Int) (args : List Int) (Q : Option Addr) (q : Nat) (w : World) (h1 : 1 ≤ m.regs) (h2 : m.regs ≤ 90) (hi : (In.mk 7 a b d n args).ok) :
    Calls Try.prog 48 #[rmV m P C K p c k cs.length ms.length A B x y, riV ⟨7, a, b, d, n, args⟩ Q q] w fun e w' => e = .returned (.bool (pregB cs ms m.regs m.ret.kind ⟨7, a, b, d, n, args⟩)) ∧ Bl w w' := by
  obtain ⟨-, ia, ib, id, -⟩ := hi
  dsimp only at ia ib id
  have HIA := hidp ia
  have HIB := hidp ib
  have HID := hidp id
  clear ia ib id
  have HAL : Hid (Bl w (rmiW w m P C K p c k cs.length ms.length A B x y ⟨7, a, b, d, n, args⟩ Q q)) := ((Bl.refl _).alloc _).alloc _
  have HM := hidp (rmi_m w m P C K p c k cs.length ms.length A B x y ⟨7, a, b, d, n, args⟩ Q q)
  have HI := hidp (rmi_i w m P C K p c k cs.length ms.length A B x y ⟨7, a, b, d, n, args⟩ Q q)
  have hb : pregB cs ms m.regs m.ret.kind ⟨7, a, b, d, n, args⟩ = (phldB m.regs 2 [a] && phldB m.regs 1 [b]) := rfl
  rw [hb]
  obtain ⟨R, hR⟩ : ∃ R, phldB m.regs 2 [a] = R := ⟨_, rfl⟩
  obtain ⟨S, hS⟩ : ∃ S, phldB m.regs 1 [b] = S := ⟨_, rfl⟩
  rw [hR, hS]
  clear hb
  cases R
  · rw [Bool.false_and]
    go_enter Try.func48, Try.ntmps48
    go_wp2_with (go_at_call 54; refine (fholds_any m _ _ _ _ _ _ _ _ _ _ _ _ _ _ _ [a] _ h1 h2 (ints_one (by simp [World.size_alloc]) HIA.out)).mono ?_; rintro e w1 ⟨he, g1⟩; rw [hR] at he; subst he)
    go_ret
    exact ⟨rfl, (HAL.out.alloc _).trans g1⟩
  · rw [Bool.true_and]
    go_enter Try.func48, Try.ntmps48
    go_wp2_with (first
      | (have := g1; (go_at_call 54; refine (fholds_any m _ _ _ _ _ _ _ _ _ _ _ _ _ _ _ [b] _ h1 h2 (ints_one (by simp [World.size_alloc]) HIB.out)).mono ?_; rintro e w2 ⟨he, g2⟩; rw [hS] at he; subst he))
      | (go_at_call 54; refine (fholds_any m _ _ _ _ _ _ _ _ _ _ _ _ _ _ _ [a] _ h1 h2 (ints_one (by simp [World.size_alloc]) HIA.out)).mono ?_; rintro e w1 ⟨he, g1⟩; rw [hR] at he; subst he; obtain ⟨e0, e1, e2, e3, e4, e5, e6, e7, e8, e9⟩ := HM.out.bl (((Bl.refl _).alloc _).trans g1); obtain ⟨f0, f1, f2, f3, f4, f5⟩ := HI.out.bl (((Bl.refl _).alloc _).trans g1); dsimp only at f0 f1 f2 f3 f4 f5))
    go_ret
    exact ⟨rfl, (((HAL.out.alloc _).trans g1).alloc _).trans g2⟩

set_option maxRecDepth 100000 in
set_option maxHeartbeats 4000000 in
theorem preg_8 (cs : List Cl) (ms : List Me) (A B : Option Addr) (x y : Nat) (m : Me) (P C K : Option Addr) (p c k : Nat) (a b d n : Int) (args : List Int) (Q : Option Addr) (q : Nat) (w : World) (h1 : 1 ≤ m.regs) (h2 : m.regs ≤ 90) (hi : (In.mk 8 a b d n args).ok) :
    Calls Try.prog 48 #[rmV m P C K p c k cs.length ms.length A B x y, riV ⟨8, a, b, d, n, args⟩ Q q] w fun e w' => e = .returned (.bool (pregB cs ms m.regs m.ret.kind ⟨8, a, b, d, n, args⟩)) ∧ Bl w w' := by
  obtain ⟨-, ia, ib, id, -⟩ := hi
  dsimp only at ia ib id
  have HIA := hidp ia
  have HIB := hidp ib
  have HID := hidp id
  clear ia ib id
  have HAL : Hid (Bl w (rmiW w m P C K p c k cs.length ms.length A B x y ⟨8, a, b, d, n, args⟩ Q q)) := ((Bl.refl _).alloc _).alloc _
  have HM := hidp (rmi_m w m P C K p c k cs.length ms.length A B x y ⟨8, a, b, d, n, args⟩ Q q)
  have HI := hidp (rmi_i w m P C K p c k cs.length ms.length A B x y ⟨8, a, b, d, n, args⟩ Q q)
  have hb : pregB cs ms m.regs m.ret.kind ⟨8, a, b, d, n, args⟩ = (phldB m.regs 1 [a] && phldB m.regs 2 [b]) := rfl
  rw [hb]
  obtain ⟨R, hR⟩ : ∃ R, phldB m.regs 1 [a] = R := ⟨_, rfl⟩
  obtain ⟨S, hS⟩ : ∃ S, phldB m.regs 2 [b] = S := ⟨_, rfl⟩
  rw [hR, hS]
  clear hb
  cases R
  · rw [Bool.false_and]
    go_enter Try.func48, Try.ntmps48
    go_wp2_with (go_at_call 54; refine (fholds_any m _ _ _ _ _ _ _ _ _ _ _ _ _ _ _ [a] _ h1 h2 (ints_one (by simp [World.size_alloc]) HIA.out)).mono ?_; rintro e w1 ⟨he, g1⟩; rw [hR] at he; subst he)
    go_ret
    exact ⟨rfl, (HAL.out.alloc _).trans g1⟩
  · rw [Bool.true_and]
    go_enter Try.func48, Try.ntmps48
    go_wp2_with (first
      | (have := g1; (go_at_call 54; refine (fholds_any m _ _ _ _ _ _ _ _ _ _ _ _ _ _ _ [b] _ h1 h2 (ints_one (by simp [World.size_alloc]) HIB.out)).mono ?_; rintro e w2 ⟨he, g2⟩; rw [hS] at he; subst he))
      | (go_at_call 54; refine (fholds_any m _ _ _ _ _ _ _ _ _ _ _ _ _ _ _ [a] _ h1 h2 (ints_one (by simp [World.size_alloc]) HIA.out)).mono ?_; rintro e w1 ⟨he, g1⟩; rw [hR] at he; subst he; obtain ⟨e0, e1, e2, e3, e4, e5, e6, e7, e8, e9⟩ := HM.out.bl (((Bl.refl _).alloc _).trans g1); obtain ⟨f0, f1, f2, f3, f4, f5⟩ := HI.out.bl (((Bl.refl _).alloc _).trans g1); dsimp only at f0 f1 f2 f3 f4 f5))
    go_ret
    exact ⟨rfl, (((HAL.out.alloc _).trans g1).alloc _).trans g2⟩

set_option maxRecDepth 100000 in
set_option maxHeartbeats 4000000 in
theorem preg_9 (cs : List Cl) (ms : List Me) (A B : Option Addr) (x y : Nat) (m : Me) (P C K : Option Addr) (p c k : Nat) (a b d n : Int) (args : List Int) (Q : Option Addr) (q : Nat) (w : World) (h1 : 1 ≤ m.regs) (h2 : m.regs ≤ 90) (hi : (In.mk 9 a b d n args).ok) :
    Calls Try.prog 48 #[rmV m P C K p c k cs.length ms.length A B x y, riV ⟨9, a, b, d, n, args⟩ Q q] w fun e w' => e = .returned (.bool (pregB cs ms m.regs m.ret.kind ⟨9, a, b, d, n, args⟩)) ∧ Bl w w' := by
  obtain ⟨-, ia, ib, id, -⟩ := hi
  dsimp only at ia ib id
  have HIA := hidp ia
  have HIB := hidp ib
  have HID := hidp id
  clear ia ib id
  have HAL : Hid (Bl w (rmiW w m P C K p c k cs.length ms.length A B x y ⟨9, a, b, d, n, args⟩ Q q)) := ((Bl.refl _).alloc _).alloc _
  have HM := hidp (rmi_m w m P C K p c k cs.length ms.length A B x y ⟨9, a, b, d, n, args⟩ Q q)
  have HI := hidp (rmi_i w m P C K p c k cs.length ms.length A B x y ⟨9, a, b, d, n, args⟩ Q q)
  have hb : pregB cs ms m.regs m.ret.kind ⟨9, a, b, d, n, args⟩ = (phldB m.regs 1 [a] && phldB m.regs 2 [b, d]) := rfl
  rw [hb]
  obtain ⟨R, hR⟩ : ∃ R, phldB m.regs 1 [a] = R := ⟨_, rfl⟩
  obtain ⟨S, hS⟩ : ∃ S, phldB m.regs 2 [b, d] = S := ⟨_, rfl⟩
  rw [hR, hS]
  clear hb
  cases R
  · rw [Bool.false_and]
    go_enter Try.func48, Try.ntmps48
    go_wp2_with (go_at_call 54; refine (fholds_any m _ _ _ _ _ _ _ _ _ _ _ _ _ _ _ [a] _ h1 h2 (ints_one (by simp [World.size_alloc]) HIA.out)).mono ?_; rintro e w1 ⟨he, g1⟩; rw [hR] at he; subst he)
    go_ret
    exact ⟨rfl, (HAL.out.alloc _).trans g1⟩
  · rw [Bool.true_and]
    go_enter Try.func48, Try.ntmps48
    go_wp2_with (first
      | (have := g1; (go_at_call 54; refine (fholds_any m _ _ _ _ _ _ _ _ _ _ _ _ _ _ _ [b, d] _ h1 h2 (ints_two (by simp [World.size_alloc]) HIB.out HID.out)).mono ?_; rintro e w2 ⟨he, g2⟩; rw [hS] at he; subst he))
      | (go_at_call 54; refine (fholds_any m _ _ _ _ _ _ _ _ _ _ _ _ _ _ _ [a] _ h1 h2 (ints_one (by simp [World.size_alloc]) HIA.out)).mono ?_; rintro e w1 ⟨he, g1⟩; rw [hR] at he; subst he; obtain ⟨e0, e1, e2, e3, e4, e5, e6, e7, e8, e9⟩ := HM.out.bl (((Bl.refl _).alloc _).trans g1); obtain ⟨f0, f1, f2, f3, f4, f5⟩ := HI.out.bl (((Bl.refl _).alloc _).trans g1); dsimp only at f0 f1 f2 f3 f4 f5))
    go_ret
    exact ⟨rfl, (((HAL.out.alloc _).trans g1).alloc _).trans g2⟩

end Go.Proofs.Ytgiiapenmjollac
