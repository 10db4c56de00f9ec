/-
  Package rform: the fields of an instruction that are registers, by a contract.
-/
import Derived.Test.YtgiiapenmjollacLRformHold
namespace Go.Proofs.Ytgiiapenmjollac
open Go.RowKit
set_option linter.unusedVariables false
set_option linter.unusedSimpArgs false
set_option maxRecDepth 100000 in
set_option maxHeartbeats 4000000 in
theorem preg_1 (cs : List Cl) (ms : List Me) (A B : Option Addr) (x y : Nat) (m : Me) (P C K : Option Addr) (p c k : Nat) (a b d n : Int) (args : List Int) (Q : Option Addr) (q : Nat) (w : World) (h1 : 1 ≤ m.regs) (h2 : m.regs ≤ 90) (hi : (In.mk 1 a b d n args).ok) :
    Calls Try.prog 48 #[rmV m P C K p c k cs.length ms.length A B x y, riV ⟨1, a, b, d, n, args⟩ Q q] w fun e w' => e = .returned (.bool (pregB cs ms m.regs m.ret.kind ⟨1, a, b, d, n, args⟩)) ∧ Bl w w' := by
  obtain ⟨-, ia, ib, id, -⟩ := hi
  dsimp only at ia ib id
  have HIA := hidp ia
  have HIB := hidp ib
  have HID := hidp id
  clear ia ib id
  have HAL : Hid (Bl w (rmiW w m P C K p c k cs.length ms.length A B x y ⟨1, a, b, d, n, args⟩ Q q)) := ((Bl.refl _).alloc _).alloc _
  have HM := hidp (rmi_m w m P C K p c k cs.length ms.length A B x y ⟨1, a, b, d, n, args⟩ Q q)
  have HI := hidp (rmi_i w m P C K p c k cs.length ms.length A B x y ⟨1, a, b, d, n, args⟩ Q q)
  have hb : pregB cs ms m.regs m.ret.kind ⟨1, a, b, d, n, args⟩ = phldB m.regs (1) [a] := rfl
  rw [hb]
  obtain ⟨R, hR⟩ : ∃ R, phldB m.regs (1) [a] = R := ⟨_, rfl⟩
  rw [hR]
  clear hb
  go_enter Try.func48, Try.ntmps48
  go_wp2_with (go_at_call 54; refine (fholds_any m _ _ _ _ _ _ _ _ _ _ _ _ _ _ _ [a] _ h1 h2 (ints_one (by simp [World.size_alloc]) HIA.out)).mono ?_; rintro e w1 ⟨he, g1⟩; rw [hR] at he; subst he)
  go_ret
  exact ⟨rfl, (HAL.out.alloc _).trans g1⟩

set_option maxRecDepth 100000 in
set_option maxHeartbeats 4000000 in
theorem preg_3 (cs : List Cl) (ms : List Me) (A B : Option Addr) (x y : Nat) (m : Me) (P C K : Option Addr) (p c k : Nat) (a b d n : Int) (args : List Int) (Q : Option Addr) (q : Nat) (w : World) (h1 : 1 ≤ m.regs) (h2 : m.regs ≤ 90) (hi : (In.mk 3 a b d n args).ok) :
    Calls Try.prog 48 #[rmV m P C K p c k cs.length ms.length A B x y, riV ⟨3, a, b, d, n, args⟩ Q q] w fun e w' => e = .returned (.bool (pregB cs ms m.regs m.ret.kind ⟨3, a, b, d, n, args⟩)) ∧ Bl w w' := by
  obtain ⟨-, ia, ib, id, -⟩ := hi
  dsimp only at ia ib id
  have HIA := hidp ia
  have HIB := hidp ib
  have HID := hidp id
  clear ia ib id
  have HAL : Hid (Bl w (rmiW w m P C K p c k cs.length ms.length A B x y ⟨3, a, b, d, n, args⟩ Q q)) := ((Bl.refl _).alloc _).alloc _
  have HM := hidp (rmi_m w m P C K p c k cs.length ms.length A B x y ⟨3, a, b, d, n, args⟩ Q q)
  have HI := hidp (rmi_i w m P C K p c k cs.length ms.length A B x y ⟨3, a, b, d, n, args⟩ Q q)
  have hb : pregB cs ms m.regs m.ret.kind ⟨3, a, b, d, n, args⟩ = phldB m.regs (1) [a] := rfl
  rw [hb]
  obtain ⟨R, hR⟩ : ∃ R, phldB m.regs (1) [a] = R := ⟨_, rfl⟩
  rw [hR]
  clear hb
  go_enter Try.func48, Try.ntmps48
  go_wp2_with (go_at_call 54; refine (fholds_any m _ _ _ _ _ _ _ _ _ _ _ _ _ _ _ [a] _ h1 h2 (ints_one (by simp [World.size_alloc]) HIA.out)).mono ?_; rintro e w1 ⟨he, g1⟩; rw [hR] at he; subst he)
  go_ret
  exact ⟨rfl, (HAL.out.alloc _).trans g1⟩

set_option maxRecDepth 100000 in
set_option maxHeartbeats 4000000 in
theorem preg_13 (cs : List Cl) (ms : List Me) (A B : Option Addr) (x y : Nat) (m : Me) (P C K : Option Addr) (p c k : Nat) (a b d n : Int) (args : List Int) (Q : Option Addr) (q : Nat) (w : World) (h1 : 1 ≤ m.regs) (h2 : m.regs ≤ 90) (hi : (In.mk 13 a b d n args).ok) :
    Calls Try.prog 48 #[rmV m P C K p c k cs.length ms.length A B x y, riV ⟨13, a, b, d, n, args⟩ Q q] w fun e w' => e = .returned (.bool (pregB cs ms m.regs m.ret.kind ⟨13, a, b, d, n, args⟩)) ∧ Bl w w' := by
  obtain ⟨-, ia, ib, id, -⟩ := hi
  dsimp only at ia ib id
  have HIA := hidp ia
  have HIB := hidp ib
  have HID := hidp id
  clear ia ib id
  have HAL : Hid (Bl w (rmiW w m P C K p c k cs.length ms.length A B x y ⟨13, a, b, d, n, args⟩ Q q)) := ((Bl.refl _).alloc _).alloc _
  have HM := hidp (rmi_m w m P C K p c k cs.length ms.length A B x y ⟨13, a, b, d, n, args⟩ Q q)
  have HI := hidp (rmi_i w m P C K p c k cs.length ms.length A B x y ⟨13, a, b, d, n, args⟩ Q q)
  have hb : pregB cs ms m.regs m.ret.kind ⟨13, a, b, d, n, args⟩ = phldB m.regs (1) [a] := rfl
  rw [hb]
  obtain ⟨R, hR⟩ : ∃ R, phldB m.regs (1) [a] = R := ⟨_, rfl⟩
  rw [hR]
  clear hb
  go_enter Try.func48, Try.ntmps48
  go_wp2_with (go_at_call 54; refine (fholds_any m _ _ _ _ _ _ _ _ _ _ _ _ _ _ _ [a] _ h1 h2 (ints_one (by simp [World.size_alloc]) HIA.out)).mono ?_; rintro e w1 ⟨he, g1⟩; rw [hR] at he; subst he)
  go_ret
  exact ⟨rfl, (HAL.out.alloc _).trans g1⟩

set_option maxRecDepth 100000 in
set_option maxHeartbeats 4000000 in
theorem preg_16 (cs : List Cl) (ms : List Me) (A B : Option Addr) (x y : Nat) (m : Me) (P C K : Option Addr) (p c k : Nat) (a b d n : Int) (args : List Int) (Q : Option Addr) (q : Nat) (w : World) (h1 : 1 ≤ m.regs) (h2 : m.regs ≤ 90) (hi : (In.mk 16 a b d n args).ok) :
    Calls Try.prog 48 #[rmV m P C K p c k cs.length ms.length A B x y, riV ⟨16, a, b, d, n, args⟩ Q q] w fun e w' => e = .returned (.bool (pregB cs ms m.regs m.ret.kind ⟨16, a, b, d, n, args⟩)) ∧ Bl w w' := by
  obtain ⟨-, ia, ib, id, -⟩ := hi
  dsimp only at ia ib id
  have HIA := hidp ia
  have HIB := hidp ib
  have HID := hidp id
  clear ia ib id
  have HAL : Hid (Bl w (rmiW w m P C K p c k cs.length ms.length A B x y ⟨16, a, b, d, n, args⟩ Q q)) := ((Bl.refl _).alloc _).alloc _
  have HM := hidp (rmi_m w m P C K p c k cs.length ms.length A B x y ⟨16, a, b, d, n, args⟩ Q q)
  have HI := hidp (rmi_i w m P C K p c k cs.length ms.length A B x y ⟨16, a, b, d, n, args⟩ Q q)
  have hb : pregB cs ms m.regs m.ret.kind ⟨16, a, b, d, n, args⟩ = phldB m.regs (1) [a] := rfl
  rw [hb]
  obtain ⟨R, hR⟩ : ∃ R, phldB m.regs (1) [a] = R := ⟨_, rfl⟩
  rw [hR]
  clear hb
  go_enter Try.func48, Try.ntmps48
  go_wp2_with (go_at_call 54; refine (fholds_any m _ _ _ _ _ _ _ _ _ _ _ _ _ _ _ [a] _ h1 h2 (ints_one (by simp [World.size_alloc]) HIA.out)).mono ?_; rintro e w1 ⟨he, g1⟩; rw [hR] at he; subst he)
  go_ret
  exact ⟨rfl, (HAL.out.alloc _).trans g1⟩

set_option maxRecDepth 100000 in
set_option maxHeartbeats 4000000 in
theorem preg_21 (cs : List Cl) (ms : List Me) (A B : Option Addr) (x y : Nat) (m : Me) (P C K : Option Addr) (p c k : Nat) (a b d n : Int) (args : List Int) (Q : Option Addr) (q : Nat) (w : World) (h1 : 1 ≤ m.regs) (h2 : m.regs ≤ 90) (hi : (In.mk 21 a b d n args).ok) :
    Calls Try.prog 48 #[rmV m P C K p c k cs.length ms.length A B x y, riV ⟨21, a, b, d, n, args⟩ Q q] w fun e w' => e = .returned (.bool (pregB cs ms m.regs m.ret.kind ⟨21, a, b, d, n, args⟩)) ∧ Bl w w' := by
  obtain ⟨-, ia, ib, id, -⟩ := hi
  dsimp only at ia ib id
  have HIA := hidp ia
  have HIB := hidp ib
  have HID := hidp id
  clear ia ib id
  have HAL : Hid (Bl w (rmiW w m P C K p c k cs.length ms.length A B x y ⟨21, a, b, d, n, args⟩ Q q)) := ((Bl.refl _).alloc _).alloc _
  have HM := hidp (rmi_m w m P C K p c k cs.length ms.length A B x y ⟨21, a, b, d, n, args⟩ Q q)
  have HI := hidp (rmi_i w m P C K p c k cs.length ms.length A B x y ⟨21, a, b, d, n, args⟩ Q q)
  have hb : pregB cs ms m.regs m.ret.kind ⟨21, a, b, d, n, args⟩ = phldB m.regs (1) [a] := rfl
  rw [hb]
  obtain ⟨R, hR⟩ : ∃ R, phldB m.regs (1) [a] = R := ⟨_, rfl⟩
  rw [hR]
  clear hb
  go_enter Try.func48, Try.ntmps48
  go_wp2_with (go_at_call 54; refine (fholds_any m _ _ _ _ _ _ _ _ _ _ _ _ _ _ _ [a] _ h1 h2 (ints_one (by simp [World.size_alloc]) HIA.out)).mono ?_; rintro e w1 ⟨he, g1⟩; rw [hR] at he; subst he)
  go_ret
  exact ⟨rfl, (HAL.out.alloc _).trans g1⟩

set_option maxRecDepth 100000 in
set_option maxHeartbeats 4000000 in
theorem preg_22 (cs : List Cl) (ms : List Me) (A B : Option Addr) (x y : Nat) (m : Me) (P C K : Option Addr) (p c k : Nat) (a b d n : Int) (args : List Int) (Q : Option Addr) (q : Nat) (w : World) (h1 : 1 ≤ m.regs) (h2 : m.regs ≤ 90) (hi : (In.mk 22 a b d n args).ok) :
    Calls Try.prog 48 #[rmV m P C K p c k cs.length ms.length A B x y, riV ⟨22, a, b, d, n, args⟩ Q q] w fun e w' => e = .returned (.bool (pregB cs ms m.regs m.ret.kind ⟨22, a, b, d, n, args⟩)) ∧ Bl w w' := by
  obtain ⟨-, ia, ib, id, -⟩ := hi
  dsimp only at ia ib id
  have HIA := hidp ia
  have HIB := hidp ib
  have HID := hidp id
  clear ia ib id
  have HAL : Hid (Bl w (rmiW w m P C K p c k cs.length ms.length A B x y ⟨22, a, b, d, n, args⟩ Q q)) := ((Bl.refl _).alloc _).alloc _
  have HM := hidp (rmi_m w m P C K p c k cs.length ms.length A B x y ⟨22, a, b, d, n, args⟩ Q q)
  have HI := hidp (rmi_i w m P C K p c k cs.length ms.length A B x y ⟨22, a, b, d, n, args⟩ Q q)
  have hb : pregB cs ms m.regs m.ret.kind ⟨22, a, b, d, n, args⟩ = phldB m.regs (1) [a] := rfl
  rw [hb]
  obtain ⟨R, hR⟩ : ∃ R, phldB m.regs (1) [a] = R := ⟨_, rfl⟩
  rw [hR]
  clear hb
  go_enter Try.func48, Try.ntmps48
  go_wp2_with (go_at_call 54; refine (fholds_any m _ _ _ _ _ _ _ _ _ _ _ _ _ _ _ [a] _ h1 h2 (ints_one (by simp [World.size_alloc]) HIA.out)).mono ?_; rintro e w1 ⟨he, g1⟩; rw [hR] at he; subst he)
  go_ret
  exact ⟨rfl, (HAL.out.alloc _).trans g1⟩

set_option maxRecDepth 100000 in
set_option maxHeartbeats 4000000 in
theorem preg_2 (cs : List Cl) (ms : List Me) (A B : Option Addr) (x y : Nat) (m : Me) (P C K : Option Addr) (p c k : Nat) (a b d n : Int) (args : List Int) (Q : Option Addr) (q : Nat) (w : World) (h1 : 1 ≤ m.regs) (h2 : m.regs ≤ 90) (hi : (In.mk 2 a b d n args).ok) :
    Calls Try.prog 48 #[rmV m P C K p c k cs.length ms.length A B x y, riV ⟨2, a, b, d, n, args⟩ Q q] w fun e w' => e = .returned (.bool (pregB cs ms m.regs m.ret.kind ⟨2, a, b, d, n, args⟩)) ∧ Bl w w' := by
  obtain ⟨-, ia, ib, id, -⟩ := hi
  dsimp only at ia ib id
  have HIA := hidp ia
  have HIB := hidp ib
  have HID := hidp id
  clear ia ib id
  have HAL : Hid (Bl w (rmiW w m P C K p c k cs.length ms.length A B x y ⟨2, a, b, d, n, args⟩ Q q)) := ((Bl.refl _).alloc _).alloc _
  have HM := hidp (rmi_m w m P C K p c k cs.length ms.length A B x y ⟨2, a, b, d, n, args⟩ Q q)
  have HI := hidp (rmi_i w m P C K p c k cs.length ms.length A B x y ⟨2, a, b, d, n, args⟩ Q q)
  have hb : pregB cs ms m.regs m.ret.kind ⟨2, a, b, d, n, args⟩ = phldB m.regs (2) [a] := rfl
  rw [hb]
  obtain ⟨R, hR⟩ : ∃ R, phldB m.regs (2) [a] = R := ⟨_, rfl⟩
  rw [hR]
  clear hb
  go_enter Try.func48, Try.ntmps48
  go_wp2_with (go_at_call 54; refine (fholds_any m _ _ _ _ _ _ _ _ _ _ _ _ _ _ _ [a] _ h1 h2 (ints_one (by simp [World.size_alloc]) HIA.out)).mono ?_; rintro e w1 ⟨he, g1⟩; rw [hR] at he; subst he)
  go_ret
  exact ⟨rfl, (HAL.out.alloc _).trans g1⟩

set_option maxRecDepth 100000 in
set_option maxHeartbeats 4000000 in
theorem preg_24 (cs : List Cl) (ms : List Me) (A B : Option Addr) (x y : Nat) (m : Me) (P C K : Option Addr) (p c k : Nat) (a b d n : Int) (args : List Int) (Q : Option Addr) (q : Nat) (w : World) (h1 : 1 ≤ m.regs) (h2 : m.regs ≤ 90) (hi : (In.mk 24 a b d n args).ok) :
    Calls Try.prog 48 #[rmV m P C K p c k cs.length ms.length A B x y, riV ⟨24, a, b, d, n, args⟩ Q q] w fun e w' => e = .returned (.bool (pregB cs ms m.regs m.ret.kind ⟨24, a, b, d, n, args⟩)) ∧ Bl w w' := by
  obtain ⟨-, ia, ib, id, -⟩ := hi
  dsimp only at ia ib id
  have HIA := hidp ia
  have HIB := hidp ib
  have HID := hidp id
  clear ia ib id
  have HAL : Hid (Bl w (rmiW w m P C K p c k cs.length ms.length A B x y ⟨24, a, b, d, n, args⟩ Q q)) := ((Bl.refl _).alloc _).alloc _
  have HM := hidp (rmi_m w m P C K p c k cs.length ms.length A B x y ⟨24, a, b, d, n, args⟩ Q q)
  have HI := hidp (rmi_i w m P C K p c k cs.length ms.length A B x y ⟨24, a, b, d, n, args⟩ Q q)
  have hb : pregB cs ms m.regs m.ret.kind ⟨24, a, b, d, n, args⟩ = phldB m.regs (2) [a] := rfl
  rw [hb]
  obtain ⟨R, hR⟩ : ∃ R, phldB m.regs (2) [a] = R := ⟨_, rfl⟩
  rw [hR]
  clear hb
  go_enter Try.func48, Try.ntmps48
  go_wp2_with (go_at_call 54; refine (fholds_any m _ _ _ _ _ _ _ _ _ _ _ _ _ _ _ [a] _ h1 h2 (ints_one (by simp [World.size_alloc]) HIA.out)).mono ?_; rintro e w1 ⟨he, g1⟩; rw [hR] at he; subst he)
  go_ret
  exact ⟨rfl, (HAL.out.alloc _).trans g1⟩

set_option maxRecDepth 100000 in
set_option maxHeartbeats 4000000 in
theorem preg_4 (cs : List Cl) (ms : List Me) (A B : Option Addr) (x y : Nat) (m : Me) (P C K : Option Addr) (p c k : Nat) (a b d n : Int) (args : List Int) (Q : Option Addr) (q : Nat) (w : World) (h1 : 1 ≤ m.regs) (h2 : m.regs ≤ 90) (hi : (In.mk 4 a b d n args).ok) :
    Calls Try.prog 48 #[rmV m P C K p c k cs.length ms.length A B x y, riV ⟨4, a, b, d, n, args⟩ Q q] w fun e w' => e = .returned (.bool (pregB cs ms m.regs m.ret.kind ⟨4, a, b, d, n, args⟩)) ∧ Bl w w' := by
  obtain ⟨-, ia, ib, id, -⟩ := hi
  dsimp only at ia ib id
  have HIA := hidp ia
  have HIB := hidp ib
  have HID := hidp id
  clear ia ib id
  have HAL : Hid (Bl w (rmiW w m P C K p c k cs.length ms.length A B x y ⟨4, a, b, d, n, args⟩ Q q)) := ((Bl.refl _).alloc _).alloc _
  have HM := hidp (rmi_m w m P C K p c k cs.length ms.length A B x y ⟨4, a, b, d, n, args⟩ Q q)
  have HI := hidp (rmi_i w m P C K p c k cs.length ms.length A B x y ⟨4, a, b, d, n, args⟩ Q q)
  have hb : pregB cs ms m.regs m.ret.kind ⟨4, a, b, d, n, args⟩ = phldB m.regs (d) [a, b] := rfl
  rw [hb]
  obtain ⟨R, hR⟩ : ∃ R, phldB m.regs (d) [a, b] = R := ⟨_, rfl⟩
  rw [hR]
  clear hb
  go_enter Try.func48, Try.ntmps48
  go_wp2_with (go_at_call 54; refine (fholds_any m _ _ _ _ _ _ _ _ _ _ _ _ _ _ _ [a, b] _ h1 h2 (ints_two (by simp [World.size_alloc]) HIA.out HIB.out)).mono ?_; rintro e w1 ⟨he, g1⟩; rw [hR] at he; subst he)
  go_ret
  exact ⟨rfl, (HAL.out.alloc _).trans g1⟩

end Go.Proofs.Ytgiiapenmjollac
