/-
  Package rform: the fields of an instruction that are registers, by a contract (2).
-/
import Derived.Test.YtgiiapenmjollacLRformHold
namespace Go.Proofs.Ytgiiapenmjollac
open Go.RowKit
set_option linter.unusedVariables false
set_option linter.unusedSimpArgs false
set_option maxRecDepth 100000 in
set_option maxHeartbeats 4000000 in
theorem preg_5 (cs : List Cl) (ms : List Me) (A B : Option Addr) (x y : Nat) (m : Me) (P C K : Option Addr) (p c k : Nat) (a b d n : Int) (args : List Int) (Q : Option Addr) (q : Nat) (w : World) (h1 : 1 ≤ m.regs) (h2 : m.regs ≤ 90) (hi : (In.mk 5 a b d n args).ok) :
    Calls Try.prog 48 #[rmV m P C K p c k cs.length ms.length A B x y, riV ⟨5, a, b, d, n, args⟩ Q q] w fun e w' => e = .returned (.bool (pregB cs ms m.regs m.ret.kind ⟨5, a, b, d, n, args⟩)) ∧ Bl w w' := by
  obtain ⟨-, ia, ib, id, -⟩ := hi
  dsimp only at ia ib id
  have HIA := hidp ia
  have HIB := hidp ib
  have HID := hidp id
  clear ia ib id
  have HAL : Hid (Bl w (rmiW w m P C K p c k cs.length ms.length A B x y ⟨5, a, b, d, n, args⟩ Q q)) := ((Bl.refl _).alloc _).alloc _
  have HM := hidp (rmi_m w m P C K p c k cs.length ms.length A B x y ⟨5, a, b, d, n, args⟩ Q q)
  have HI := hidp (rmi_i w m P C K p c k cs.length ms.length A B x y ⟨5, a, b, d, n, args⟩ Q q)
  have hb : pregB cs ms m.regs m.ret.kind ⟨5, a, b, d, n, args⟩ = phldB m.regs (1) [a, b, d] := rfl
  rw [hb]
  obtain ⟨R, hR⟩ : ∃ R, phldB m.regs (1) [a, b, d] = R := ⟨_, rfl⟩
  rw [hR]
  clear hb
  go_enter Try.func48, Try.ntmps48
  go_wp2_with (go_at_call 54; refine (fholds_any m _ _ _ _ _ _ _ _ _ _ _ _ _ _ _ [a, b, d] _ h1 h2 (ints_three (by simp [World.size_alloc]) HIA.out HIB.out HID.out)).mono ?_; rintro e w1 ⟨he, g1⟩; rw [hR] at he; subst he)
  go_ret
  exact ⟨rfl, (HAL.out.alloc _).trans g1⟩

set_option maxRecDepth 100000 in
set_option maxHeartbeats 4000000 in
theorem preg_6 (cs : List Cl) (ms : List Me) (A B : Option Addr) (x y : Nat) (m : Me) (P C K : Option Addr) (p c k : Nat) (a b d n : Int) (args : List Int) (Q : Option Addr) (q : Nat) (w : World) (h1 : 1 ≤ m.regs) (h2 : m.regs ≤ 90) (hi : (In.mk 6 a b d n args).ok) :
    Calls Try.prog 48 #[rmV m P C K p c k cs.length ms.length A B x y, riV ⟨6, a, b, d, n, args⟩ Q q] w fun e w' => e = .returned (.bool (pregB cs ms m.regs m.ret.kind ⟨6, a, b, d, n, args⟩)) ∧ Bl w w' := by
  obtain ⟨-, ia, ib, id, -⟩ := hi
  dsimp only at ia ib id
  have HIA := hidp ia
  have HIB := hidp ib
  have HID := hidp id
  clear ia ib id
  have HAL : Hid (Bl w (rmiW w m P C K p c k cs.length ms.length A B x y ⟨6, a, b, d, n, args⟩ Q q)) := ((Bl.refl _).alloc _).alloc _
  have HM := hidp (rmi_m w m P C K p c k cs.length ms.length A B x y ⟨6, a, b, d, n, args⟩ Q q)
  have HI := hidp (rmi_i w m P C K p c k cs.length ms.length A B x y ⟨6, a, b, d, n, args⟩ Q q)
  have hb : pregB cs ms m.regs m.ret.kind ⟨6, a, b, d, n, args⟩ = phldB m.regs (2) [a, b, d] := rfl
  rw [hb]
  obtain ⟨R, hR⟩ : ∃ R, phldB m.regs (2) [a, b, d] = R := ⟨_, rfl⟩
  rw [hR]
  clear hb
  go_enter Try.func48, Try.ntmps48
  go_wp2_with (go_at_call 54; refine (fholds_any m _ _ _ _ _ _ _ _ _ _ _ _ _ _ _ [a, b, d] _ h1 h2 (ints_three (by simp [World.size_alloc]) HIA.out HIB.out HID.out)).mono ?_; rintro e w1 ⟨he, g1⟩; rw [hR] at he; subst he)
  go_ret
  exact ⟨rfl, (HAL.out.alloc _).trans g1⟩

set_option maxRecDepth 100000 in
set_option maxHeartbeats 4000000 in
theorem preg_11 (cs : List Cl) (ms : List Me) (A B : Option Addr) (x y : Nat) (m : Me) (P C K : Option Addr) (p c k : Nat) (a b d n : Int) (args : List Int) (Q : Option Addr) (q : Nat) (w : World) (h1 : 1 ≤ m.regs) (h2 : m.regs ≤ 90) (hi : (In.mk 11 a b d n args).ok) :
    Calls Try.prog 48 #[rmV m P C K p c k cs.length ms.length A B x y, riV ⟨11, a, b, d, n, args⟩ Q q] w fun e w' => e = .returned (.bool (pregB cs ms m.regs m.ret.kind ⟨11, a, b, d, n, args⟩)) ∧ Bl w w' := by
  obtain ⟨-, ia, ib, id, -⟩ := hi
  dsimp only at ia ib id
  have HIA := hidp ia
  have HIB := hidp ib
  have HID := hidp id
  clear ia ib id
  have HAL : Hid (Bl w (rmiW w m P C K p c k cs.length ms.length A B x y ⟨11, a, b, d, n, args⟩ Q q)) := ((Bl.refl _).alloc _).alloc _
  have HM := hidp (rmi_m w m P C K p c k cs.length ms.length A B x y ⟨11, a, b, d, n, args⟩ Q q)
  have HI := hidp (rmi_i w m P C K p c k cs.length ms.length A B x y ⟨11, a, b, d, n, args⟩ Q q)
  have hb : pregB cs ms m.regs m.ret.kind ⟨11, a, b, d, n, args⟩ = phldB m.regs (1) [d] := rfl
  rw [hb]
  obtain ⟨R, hR⟩ : ∃ R, phldB m.regs (1) [d] = R := ⟨_, rfl⟩
  rw [hR]
  clear hb
  go_enter Try.func48, Try.ntmps48
  go_wp2_with (go_at_call 54; refine (fholds_any m _ _ _ _ _ _ _ _ _ _ _ _ _ _ _ [d] _ h1 h2 (ints_one (by simp [World.size_alloc]) HID.out)).mono ?_; rintro e w1 ⟨he, g1⟩; rw [hR] at he; subst he)
  go_ret
  exact ⟨rfl, (HAL.out.alloc _).trans g1⟩

set_option maxRecDepth 100000 in
set_option maxHeartbeats 4000000 in
theorem preg_12 (cs : List Cl) (ms : List Me) (A B : Option Addr) (x y : Nat) (m : Me) (P C K : Option Addr) (p c k : Nat) (a b d n : Int) (args : List Int) (Q : Option Addr) (q : Nat) (w : World) (h1 : 1 ≤ m.regs) (h2 : m.regs ≤ 90) (hi : (In.mk 12 a b d n args).ok) :
    Calls Try.prog 48 #[rmV m P C K p c k cs.length ms.length A B x y, riV ⟨12, a, b, d, n, args⟩ Q q] w fun e w' => e = .returned (.bool (pregB cs ms m.regs m.ret.kind ⟨12, a, b, d, n, args⟩)) ∧ Bl w w' := by
  obtain ⟨-, ia, ib, id, -⟩ := hi
  dsimp only at ia ib id
  have HIA := hidp ia
  have HIB := hidp ib
  have HID := hidp id
  clear ia ib id
  have HAL : Hid (Bl w (rmiW w m P C K p c k cs.length ms.length A B x y ⟨12, a, b, d, n, args⟩ Q q)) := ((Bl.refl _).alloc _).alloc _
  have HM := hidp (rmi_m w m P C K p c k cs.length ms.length A B x y ⟨12, a, b, d, n, args⟩ Q q)
  have HI := hidp (rmi_i w m P C K p c k cs.length ms.length A B x y ⟨12, a, b, d, n, args⟩ Q q)
  have hb : pregB cs ms m.regs m.ret.kind ⟨12, a, b, d, n, args⟩ = phldB m.regs (1) [d] := rfl
  rw [hb]
  obtain ⟨R, hR⟩ : ∃ R, phldB m.regs (1) [d] = R := ⟨_, rfl⟩
  rw [hR]
  clear hb
  go_enter Try.func48, Try.ntmps48
  go_wp2_with (go_at_call 54; refine (fholds_any m _ _ _ _ _ _ _ _ _ _ _ _ _ _ _ [d] _ h1 h2 (ints_one (by simp [World.size_alloc]) HID.out)).mono ?_; rintro e w1 ⟨he, g1⟩; rw [hR] at he; subst he)
  go_ret
  exact ⟨rfl, (HAL.out.alloc _).trans g1⟩

set_option maxRecDepth 100000 in
set_option maxHeartbeats 4000000 in
theorem preg_17 (cs : List Cl) (ms : List Me) (A B : Option Addr) (x y : Nat) (m : Me) (P C K : Option Addr) (p c k : Nat) (a b d n : Int) (args : List Int) (Q : Option Addr) (q : Nat) (w : World) (h1 : 1 ≤ m.regs) (h2 : m.regs ≤ 90) (hi : (In.mk 17 a b d n args).ok) :
    Calls Try.prog 48 #[rmV m P C K p c k cs.length ms.length A B x y, riV ⟨17, a, b, d, n, args⟩ Q q] w fun e w' => e = .returned (.bool (pregB cs ms m.regs m.ret.kind ⟨17, a, b, d, n, args⟩)) ∧ Bl w w' := by
  obtain ⟨-, ia, ib, id, -⟩ := hi
  dsimp only at ia ib id
  have HIA := hidp ia
  have HIB := hidp ib
  have HID := hidp id
  clear ia ib id
  have HAL : Hid (Bl w (rmiW w m P C K p c k cs.length ms.length A B x y ⟨17, a, b, d, n, args⟩ Q q)) := ((Bl.refl _).alloc _).alloc _
  have HM := hidp (rmi_m w m P C K p c k cs.length ms.length A B x y ⟨17, a, b, d, n, args⟩ Q q)
  have HI := hidp (rmi_i w m P C K p c k cs.length ms.length A B x y ⟨17, a, b, d, n, args⟩ Q q)
  have hb : pregB cs ms m.regs m.ret.kind ⟨17, a, b, d, n, args⟩ = phldB m.regs (1) [a, b] := rfl
  rw [hb]
  obtain ⟨R, hR⟩ : ∃ R, phldB m.regs (1) [a, b] = R := ⟨_, rfl⟩
  rw [hR]
  clear hb
  go_enter Try.func48, Try.ntmps48
  go_wp2_with (go_at_call 54; refine (fholds_any m _ _ _ _ _ _ _ _ _ _ _ _ _ _ _ [a, b] _ h1 h2 (ints_two (by simp [World.size_alloc]) HIA.out HIB.out)).mono ?_; rintro e w1 ⟨he, g1⟩; rw [hR] at he; subst he)
  go_ret
  exact ⟨rfl, (HAL.out.alloc _).trans g1⟩

set_option maxRecDepth 100000 in
set_option maxHeartbeats 4000000 in
theorem preg_19 (cs : List Cl) (ms : List Me) (A B : Option Addr) (x y : Nat) (m : Me) (P C K : Option Addr) (p c k : Nat) (a b d n : Int) (args : List Int) (Q : Option Addr) (q : Nat) (w : World) (h1 : 1 ≤ m.regs) (h2 : m.regs ≤ 90) (hi : (In.mk 19 a b d n args).ok) :
    Calls Try.prog 48 #[rmV m P C K p c k cs.length ms.length A B x y, riV ⟨19, a, b, d, n, args⟩ Q q] w fun e w' => e = .returned (.bool (pregB cs ms m.regs m.ret.kind ⟨19, a, b, d, n, args⟩)) ∧ Bl w w' := by
  obtain ⟨-, ia, ib, id, -⟩ := hi
  dsimp only at ia ib id
  have HIA := hidp ia
  have HIB := hidp ib
  have HID := hidp id
  clear ia ib id
  have HAL : Hid (Bl w (rmiW w m P C K p c k cs.length ms.length A B x y ⟨19, a, b, d, n, args⟩ Q q)) := ((Bl.refl _).alloc _).alloc _
  have HM := hidp (rmi_m w m P C K p c k cs.length ms.length A B x y ⟨19, a, b, d, n, args⟩ Q q)
  have HI := hidp (rmi_i w m P C K p c k cs.length ms.length A B x y ⟨19, a, b, d, n, args⟩ Q q)
  have hb : pregB cs ms m.regs m.ret.kind ⟨19, a, b, d, n, args⟩ = phldB m.regs (b) [a] := rfl
  rw [hb]
  obtain ⟨R, hR⟩ : ∃ R, phldB m.regs (b) [a] = R := ⟨_, rfl⟩
  rw [hR]
  clear hb
  go_enter Try.func48, Try.ntmps48
  go_wp2_with (go_at_call 54; refine (fholds_any m _ _ _ _ _ _ _ _ _ _ _ _ _ _ _ [a] _ h1 h2 (ints_one (by simp [World.size_alloc]) HIA.out)).mono ?_; rintro e w1 ⟨he, g1⟩; rw [hR] at he; subst he)
  go_ret
  exact ⟨rfl, (HAL.out.alloc _).trans g1⟩

set_option maxRecDepth 100000 in
set_option maxHeartbeats 4000000 in
theorem preg_23 (cs : List Cl) (ms : List Me) (A B : Option Addr) (x y : Nat) (m : Me) (P C K : Option Addr) (p c k : Nat) (a b d n : Int) (args : List Int) (Q : Option Addr) (q : Nat) (w : World) (h1 : 1 ≤ m.regs) (h2 : m.regs ≤ 90) (hi : (In.mk 23 a b d n args).ok) :
    Calls Try.prog 48 #[rmV m P C K p c k cs.length ms.length A B x y, riV ⟨23, a, b, d, n, args⟩ Q q] w fun e w' => e = .returned (.bool (pregB cs ms m.regs m.ret.kind ⟨23, a, b, d, n, args⟩)) ∧ Bl w w' := by
  obtain ⟨-, ia, ib, id, -⟩ := hi
  dsimp only at ia ib id
  have HIA := hidp ia
  have HIB := hidp ib
  have HID := hidp id
  clear ia ib id
  have HAL : Hid (Bl w (rmiW w m P C K p c k cs.length ms.length A B x y ⟨23, a, b, d, n, args⟩ Q q)) := ((Bl.refl _).alloc _).alloc _
  have HM := hidp (rmi_m w m P C K p c k cs.length ms.length A B x y ⟨23, a, b, d, n, args⟩ Q q)
  have HI := hidp (rmi_i w m P C K p c k cs.length ms.length A B x y ⟨23, a, b, d, n, args⟩ Q q)
  have hb : pregB cs ms m.regs m.ret.kind ⟨23, a, b, d, n, args⟩ = phldB m.regs (b) [a] := rfl
  rw [hb]
  obtain ⟨R, hR⟩ : ∃ R, phldB m.regs (b) [a] = R := ⟨_, rfl⟩
  rw [hR]
  clear hb
  go_enter Try.func48, Try.ntmps48
  go_wp2_with (go_at_call 54; refine (fholds_any m _ _ _ _ _ _ _ _ _ _ _ _ _ _ _ [a] _ h1 h2 (ints_one (by simp [World.size_alloc]) HIA.out)).mono ?_; rintro e w1 ⟨he, g1⟩; rw [hR] at he; subst he)
  go_ret
  exact ⟨rfl, (HAL.out.alloc _).trans g1⟩

end Go.Proofs.Ytgiiapenmjollac
