import Derived.Test.YtgiiapenmjollabGreatRlbg
import Derived.Test.YtgiiapenmjollabGreatRlbh
namespace Go.Proofs.YtgiiapenmjollabGreat
set_option linter.all false
set_option maxHeartbeats 40000000
set_option maxRecDepth 100000
open Go.RowKit
theorem narrow_eq (n:Int):(n==wrap32 n)=decide (-2147483648≤n∧n≤2147483647):=by
 rw [Bool.eq_iff_iff];simp;unfold wrap32;omega
abbrev inO (i:In) (Q:Option Addr) (q:Nat):Obj:=.cells #[.int .i64 i.op,.int .i64 i.a,.int .i64 i.b,.int .i64 i.c,.int .i64 i.n,.slice Q i.args.length q] 58
abbrev fiO (nc nm:Nat) (A B:Option Addr) (x y:Nat):Obj:=.cells #[.slice A nc x,.slice B nm y] 25
theorem pnum_any (i:In) (nc nm:Nat) (A B:Option Addr) (x y:Nat) (m:Me) (P C K:Option Addr) (p c k:Nat) (Q:Option Addr) (q:Nat) (w:World) (hnc:nc≤maxLen) (hcode:m.code.length≤maxLen) :
  Calls Tryz.prog 196 #[rmV m P C K p c k nc nm A B x y,riV i Q q] w fun e w'=>e=.returned (.bool (pnumB nc m.code.length i))∧Bl w w':=by
 obtain ⟨op,a,b,d,n,args⟩:=i
 unfold maxLen at hnc hcode
 have HAL:Hid (∀o o',Bl w ((w.alloc o).alloc o')):=fun o o'=>((Bl.refl _).alloc _).alloc _
 have hop:op=1∨op=5∨op=6∨op=10∨op=12∨op=11∨op=13∨op=16∨op=17∨op=23∨(op≠1∧op≠5∧op≠6∧op≠10∧op≠12∧op≠11∧op≠13∧op≠16∧op≠17∧op≠23):=by omega
 rcases hop with rfl|rfl|rfl|rfl|rfl|rfl|rfl|rfl|rfl|rfl|hop
 ·have hb:pnumB nc m.code.length ⟨1,a,b,d,n,args⟩=(n==wrap32 n):=by rw [narrow_eq];rfl
  have y4:=fut_cell (rmi_i w m P C K p c k nc nm A B x y ⟨1,a,b,d,n,args⟩ Q q).i4
  dsimp only at y4
  rw [hb]
  obtain ⟨N,hN⟩:∃N,wrap32 n=N:=⟨_,rfl⟩
  rw [hN]
  clear hb
  go_enter Tryz.func196,Tryz.ntmps196
  go_wp2
  refine wp_region_fut (by kernel_rfl) (by kernel_rfl) fun hne=>?_
  repeat (go_big_quiet_step ((go_at_call 149;exact Calls.fut_same_eq _ (narrow_any _ _) (congrArg (Value.int .i64) hN))))
  refine wpQuiet_nil ?_
  rintro _ ⟨⟨w2,hw2⟩,rfl⟩
  go_wp2
  go_ret
  exact ⟨ret_bool rfl,(HAL.out _ _).trans hw2⟩
 ·go_enter Tryz.func196,Tryz.ntmps196
  go_wp2_with (first
   | (go_at_call 256;refine (spanL_any _ _ _ _).mono ?_;rintro e w1 ⟨rfl,rfl⟩)
   | (go_at_call 63;refine (span_any _ _ _ _).mono ?_;rintro e w1 ⟨rfl,rfl⟩)
   | (go_at_call 144;refine (numbers_any _ _ _).mono ?_;rintro e w1 ⟨rfl,rfl⟩))
  go_ret
  exact ⟨ret_bool (by simp [pnumB]),HAL.out _ _⟩
 ·go_enter Tryz.func196,Tryz.ntmps196
  go_wp2_with (first
   | (go_at_call 256;refine (spanL_any _ _ _ _).mono ?_;rintro e w1 ⟨rfl,rfl⟩)
   | (go_at_call 63;refine (span_any _ _ _ _).mono ?_;rintro e w1 ⟨rfl,rfl⟩)
   | (go_at_call 144;refine (numbers_any _ _ _).mono ?_;rintro e w1 ⟨rfl,rfl⟩))
  go_ret
  exact ⟨ret_bool (by simp [pnumB]),HAL.out _ _⟩
 ·go_enter Tryz.func196,Tryz.ntmps196
  go_wp2_with (first
   | (go_at_call 256;refine (spanL_any _ _ _ _).mono ?_;rintro e w1 ⟨rfl,rfl⟩)
   | (go_at_call 63;refine (span_any _ _ _ _).mono ?_;rintro e w1 ⟨rfl,rfl⟩)
   | (go_at_call 144;refine (numbers_any _ _ _).mono ?_;rintro e w1 ⟨rfl,rfl⟩))
  go_ret
  exact ⟨ret_bool (by simp [pnumB]),HAL.out _ _⟩
 ·go_enter Tryz.func196,Tryz.ntmps196
  go_wp2_with (first
   | (go_at_call 256;refine (spanL_any _ _ _ _).mono ?_;rintro e w1 ⟨rfl,rfl⟩)
   | (go_at_call 63;refine (span_any _ _ _ _).mono ?_;rintro e w1 ⟨rfl,rfl⟩)
   | (go_at_call 144;refine (numbers_any _ _ _).mono ?_;rintro e w1 ⟨rfl,rfl⟩))
  go_ret
  exact ⟨ret_bool (by simp [pnumB]),HAL.out _ _⟩
 ·have hb:pnumB nc m.code.length ⟨11,a,b,d,n,args⟩=(decide (0≤a∧a<(m.code.length:Int))&&decide (1≤b∧b≤4)):=rfl
  rw [hb]
  obtain ⟨R,hR⟩:∃R,decide (0≤a∧a<(m.code.length:Int))=R:=⟨_,rfl⟩
  obtain ⟨S,hS⟩:∃S,decide (1≤b∧b≤4)=S:=⟨_,rfl⟩
  rw [hR,hS]
  clear hb
  cases R
  all_goals
   go_enter Tryz.func196,Tryz.ntmps196
   go_wp2_with (first
    | (go_at_call 63;refine (span_any _ _ _ _).mono ?_;rintro e w1 ⟨he,hw1⟩;rw [hS] at he;subst he;rw [hw1];clear hw1 w1)
    | (go_at_call 144;refine (numbers_any _ _ _).mono ?_;rintro e w1 ⟨he,hw1⟩;rw [hR] at he;subst he;rw [hw1];clear hw1 w1))
   go_ret
   exact ⟨rfl,HAL.out _ _⟩
 ·go_enter Tryz.func196,Tryz.ntmps196
  go_wp2_with (first
   | (go_at_call 256;refine (spanL_any _ _ _ _).mono ?_;rintro e w1 ⟨rfl,rfl⟩)
   | (go_at_call 63;refine (span_any _ _ _ _).mono ?_;rintro e w1 ⟨rfl,rfl⟩)
   | (go_at_call 144;refine (numbers_any _ _ _).mono ?_;rintro e w1 ⟨rfl,rfl⟩))
  go_ret
  exact ⟨ret_bool (by simp [pnumB]),HAL.out _ _⟩
 ·go_enter Tryz.func196,Tryz.ntmps196
  go_wp2_with (first
   | (go_at_call 256;refine (spanL_any _ _ _ _).mono ?_;rintro e w1 ⟨rfl,rfl⟩)
   | (go_at_call 63;refine (span_any _ _ _ _).mono ?_;rintro e w1 ⟨rfl,rfl⟩)
   | (go_at_call 144;refine (numbers_any _ _ _).mono ?_;rintro e w1 ⟨rfl,rfl⟩))
  go_ret
  exact ⟨ret_bool (by simp [pnumB]),HAL.out _ _⟩
 ·go_enter Tryz.func196,Tryz.ntmps196
  go_wp2_with (first
   | (go_at_call 256;refine (spanL_any _ _ _ _).mono ?_;rintro e w1 ⟨rfl,rfl⟩)
   | (go_at_call 63;refine (span_any _ _ _ _).mono ?_;rintro e w1 ⟨rfl,rfl⟩)
   | (go_at_call 144;refine (numbers_any _ _ _).mono ?_;rintro e w1 ⟨rfl,rfl⟩))
  go_ret
  exact ⟨ret_bool (by simp [pnumB]),HAL.out _ _⟩
 ·have hb:pnumB nc m.code.length ⟨23,a,b,d,n,args⟩=(b !=3):=by unfold pnumB;rw [Bool.eq_iff_iff];simp
  rw [hb]
  clear hb
  go_enter Tryz.func196,Tryz.ntmps196
  go_wp2
  all_goals
   go_ret
   exact ⟨ret_bool (by simp [*]),HAL.out _ _⟩
 ·obtain ⟨h1,h5,h6,h10,h12,h11,h13,h16,h17,h23⟩:=hop
  have z1:(op==1)=false:=by simp;omega
  have z5:(op==5)=false:=by simp;omega
  have z6:(op==6)=false:=by simp;omega
  have z10:(op==10)=false:=by simp;omega
  have z12:(op==12)=false:=by simp;omega
  have z11:(op==11)=false:=by simp;omega
  have z13:(op==13)=false:=by simp;omega
  have z16:(op==16)=false:=by simp;omega
  have z17:(op==17)=false:=by simp;omega
  have z23:(op==23)=false:=by simp;omega
  have hb:pnumB nc m.code.length ⟨op,a,b,d,n,args⟩=true:=by
   unfold pnumB;dsimp only;rw [if_neg (by omega),if_neg (by omega),if_neg (by omega),if_neg (by omega),if_neg (by omega),if_neg (by omega),if_neg (by omega)]
  rw [hb]
  clear hb h1 h5 h6 h10 h12 h11 h13 h16 h17 h23
  go_enter Tryz.func196,Tryz.ntmps196
  go_wp2
  go_ret
  exact ⟨rfl,HAL.out _ _⟩
theorem preg_1 (cs:List Cl) (ms:List Me) (A B:Option Addr) (x y:Nat) (m:Me) (P C K:Option Addr) (p c k:Nat) (a b d n:Int) (args:List Int) (Q:Option Addr) (q:Nat) (w:World) (h1:1≤m.regs) (h2:m.regs≤90) (hi:(In.mk 1 a b d n args).ok) :
  Calls Tryz.prog 195 #[rmV m P C K p c k cs.length ms.length A B x y,riV ⟨1,a,b,d,n,args⟩ Q q] w fun e w'=>e=.returned (.bool (pregB cs ms m.regs m.ret.kind ⟨1,a,b,d,n,args⟩))∧Bl w w':=by
 obtain ⟨-,ia,ib,id,-⟩:=hi
 dsimp only at ia ib id
 have HIA:=hidp ia
 have HIB:=hidp ib
 have HID:=hidp id
 clear ia ib id
 have HAL:Hid (Bl w (rmiW w m P C K p c k cs.length ms.length A B x y ⟨1,a,b,d,n,args⟩ Q q)):=((Bl.refl _).alloc _).alloc _
 have HM:=hidp (rmi_m w m P C K p c k cs.length ms.length A B x y ⟨1,a,b,d,n,args⟩ Q q)
 have HI:=hidp (rmi_i w m P C K p c k cs.length ms.length A B x y ⟨1,a,b,d,n,args⟩ Q q)
 have hb:pregB cs ms m.regs m.ret.kind ⟨1,a,b,d,n,args⟩=phldB m.regs (1) [a]:=rfl
 rw [hb]
 obtain ⟨R,hR⟩:∃R,phldB m.regs (1) [a]=R:=⟨_,rfl⟩
 rw [hR]
 clear hb
 go_enter Tryz.func195,Tryz.ntmps195
 go_wp2_with (go_at_call 252;refine (fholds_any m _ _ _ _ _ _ _ _ _ _ _ _ _ _ _ [a] _ h1 h2 (ints_one (by simp [World.size_alloc]) HIA.out)).mono ?_;rintro e w1 ⟨he,g1⟩;rw [hR] at he;subst he)
 go_ret
 exact ⟨rfl,(HAL.out.alloc _).trans g1⟩
theorem preg_3 (cs:List Cl) (ms:List Me) (A B:Option Addr) (x y:Nat) (m:Me) (P C K:Option Addr) (p c k:Nat) (a b d n:Int) (args:List Int) (Q:Option Addr) (q:Nat) (w:World) (h1:1≤m.regs) (h2:m.regs≤90) (hi:(In.mk 3 a b d n args).ok) :
  Calls Tryz.prog 195 #[rmV m P C K p c k cs.length ms.length A B x y,riV ⟨3,a,b,d,n,args⟩ Q q] w fun e w'=>e=.returned (.bool (pregB cs ms m.regs m.ret.kind ⟨3,a,b,d,n,args⟩))∧Bl w w':=by
 obtain ⟨-,ia,ib,id,-⟩:=hi
 dsimp only at ia ib id
 have HIA:=hidp ia
 have HIB:=hidp ib
 have HID:=hidp id
 clear ia ib id
 have HAL:Hid (Bl w (rmiW w m P C K p c k cs.length ms.length A B x y ⟨3,a,b,d,n,args⟩ Q q)):=((Bl.refl _).alloc _).alloc _
 have HM:=hidp (rmi_m w m P C K p c k cs.length ms.length A B x y ⟨3,a,b,d,n,args⟩ Q q)
 have HI:=hidp (rmi_i w m P C K p c k cs.length ms.length A B x y ⟨3,a,b,d,n,args⟩ Q q)
 have hb:pregB cs ms m.regs m.ret.kind ⟨3,a,b,d,n,args⟩=phldB m.regs (1) [a]:=rfl
 rw [hb]
 obtain ⟨R,hR⟩:∃R,phldB m.regs (1) [a]=R:=⟨_,rfl⟩
 rw [hR]
 clear hb
 go_enter Tryz.func195,Tryz.ntmps195
 go_wp2_with (go_at_call 252;refine (fholds_any m _ _ _ _ _ _ _ _ _ _ _ _ _ _ _ [a] _ h1 h2 (ints_one (by simp [World.size_alloc]) HIA.out)).mono ?_;rintro e w1 ⟨he,g1⟩;rw [hR] at he;subst he)
 go_ret
 exact ⟨rfl,(HAL.out.alloc _).trans g1⟩
theorem preg_13 (cs:List Cl) (ms:List Me) (A B:Option Addr) (x y:Nat) (m:Me) (P C K:Option Addr) (p c k:Nat) (a b d n:Int) (args:List Int) (Q:Option Addr) (q:Nat) (w:World) (h1:1≤m.regs) (h2:m.regs≤90) (hi:(In.mk 13 a b d n args).ok) :
  Calls Tryz.prog 195 #[rmV m P C K p c k cs.length ms.length A B x y,riV ⟨13,a,b,d,n,args⟩ Q q] w fun e w'=>e=.returned (.bool (pregB cs ms m.regs m.ret.kind ⟨13,a,b,d,n,args⟩))∧Bl w w':=by
 obtain ⟨-,ia,ib,id,-⟩:=hi
 dsimp only at ia ib id
 have HIA:=hidp ia
 have HIB:=hidp ib
 have HID:=hidp id
 clear ia ib id
 have HAL:Hid (Bl w (rmiW w m P C K p c k cs.length ms.length A B x y ⟨13,a,b,d,n,args⟩ Q q)):=((Bl.refl _).alloc _).alloc _
 have HM:=hidp (rmi_m w m P C K p c k cs.length ms.length A B x y ⟨13,a,b,d,n,args⟩ Q q)
 have HI:=hidp (rmi_i w m P C K p c k cs.length ms.length A B x y ⟨13,a,b,d,n,args⟩ Q q)
 have hb:pregB cs ms m.regs m.ret.kind ⟨13,a,b,d,n,args⟩=phldB m.regs (1) [a]:=rfl
 rw [hb]
 obtain ⟨R,hR⟩:∃R,phldB m.regs (1) [a]=R:=⟨_,rfl⟩
 rw [hR]
 clear hb
 go_enter Tryz.func195,Tryz.ntmps195
 go_wp2_with (go_at_call 252;refine (fholds_any m _ _ _ _ _ _ _ _ _ _ _ _ _ _ _ [a] _ h1 h2 (ints_one (by simp [World.size_alloc]) HIA.out)).mono ?_;rintro e w1 ⟨he,g1⟩;rw [hR] at he;subst he)
 go_ret
 exact ⟨rfl,(HAL.out.alloc _).trans g1⟩
theorem preg_16 (cs:List Cl) (ms:List Me) (A B:Option Addr) (x y:Nat) (m:Me) (P C K:Option Addr) (p c k:Nat) (a b d n:Int) (args:List Int) (Q:Option Addr) (q:Nat) (w:World) (h1:1≤m.regs) (h2:m.regs≤90) (hi:(In.mk 16 a b d n args).ok) :
  Calls Tryz.prog 195 #[rmV m P C K p c k cs.length ms.length A B x y,riV ⟨16,a,b,d,n,args⟩ Q q] w fun e w'=>e=.returned (.bool (pregB cs ms m.regs m.ret.kind ⟨16,a,b,d,n,args⟩))∧Bl w w':=by
 obtain ⟨-,ia,ib,id,-⟩:=hi
 dsimp only at ia ib id
 have HIA:=hidp ia
 have HIB:=hidp ib
 have HID:=hidp id
 clear ia ib id
 have HAL:Hid (Bl w (rmiW w m P C K p c k cs.length ms.length A B x y ⟨16,a,b,d,n,args⟩ Q q)):=((Bl.refl _).alloc _).alloc _
 have HM:=hidp (rmi_m w m P C K p c k cs.length ms.length A B x y ⟨16,a,b,d,n,args⟩ Q q)
 have HI:=hidp (rmi_i w m P C K p c k cs.length ms.length A B x y ⟨16,a,b,d,n,args⟩ Q q)
 have hb:pregB cs ms m.regs m.ret.kind ⟨16,a,b,d,n,args⟩=phldB m.regs (1) [a]:=rfl
 rw [hb]
 obtain ⟨R,hR⟩:∃R,phldB m.regs (1) [a]=R:=⟨_,rfl⟩
 rw [hR]
 clear hb
 go_enter Tryz.func195,Tryz.ntmps195
 go_wp2_with (go_at_call 252;refine (fholds_any m _ _ _ _ _ _ _ _ _ _ _ _ _ _ _ [a] _ h1 h2 (ints_one (by simp [World.size_alloc]) HIA.out)).mono ?_;rintro e w1 ⟨he,g1⟩;rw [hR] at he;subst he)
 go_ret
 exact ⟨rfl,(HAL.out.alloc _).trans g1⟩
theorem preg_21 (cs:List Cl) (ms:List Me) (A B:Option Addr) (x y:Nat) (m:Me) (P C K:Option Addr) (p c k:Nat) (a b d n:Int) (args:List Int) (Q:Option Addr) (q:Nat) (w:World) (h1:1≤m.regs) (h2:m.regs≤90) (hi:(In.mk 21 a b d n args).ok) :
  Calls Tryz.prog 195 #[rmV m P C K p c k cs.length ms.length A B x y,riV ⟨21,a,b,d,n,args⟩ Q q] w fun e w'=>e=.returned (.bool (pregB cs ms m.regs m.ret.kind ⟨21,a,b,d,n,args⟩))∧Bl w w':=by
 obtain ⟨-,ia,ib,id,-⟩:=hi
 dsimp only at ia ib id
 have HIA:=hidp ia
 have HIB:=hidp ib
 have HID:=hidp id
 clear ia ib id
 have HAL:Hid (Bl w (rmiW w m P C K p c k cs.length ms.length A B x y ⟨21,a,b,d,n,args⟩ Q q)):=((Bl.refl _).alloc _).alloc _
 have HM:=hidp (rmi_m w m P C K p c k cs.length ms.length A B x y ⟨21,a,b,d,n,args⟩ Q q)
 have HI:=hidp (rmi_i w m P C K p c k cs.length ms.length A B x y ⟨21,a,b,d,n,args⟩ Q q)
 have hb:pregB cs ms m.regs m.ret.kind ⟨21,a,b,d,n,args⟩=phldB m.regs (1) [a]:=rfl
 rw [hb]
 obtain ⟨R,hR⟩:∃R,phldB m.regs (1) [a]=R:=⟨_,rfl⟩
 rw [hR]
 clear hb
 go_enter Tryz.func195,Tryz.ntmps195
 go_wp2_with (go_at_call 252;refine (fholds_any m _ _ _ _ _ _ _ _ _ _ _ _ _ _ _ [a] _ h1 h2 (ints_one (by simp [World.size_alloc]) HIA.out)).mono ?_;rintro e w1 ⟨he,g1⟩;rw [hR] at he;subst he)
 go_ret
 exact ⟨rfl,(HAL.out.alloc _).trans g1⟩
theorem preg_22 (cs:List Cl) (ms:List Me) (A B:Option Addr) (x y:Nat) (m:Me) (P C K:Option Addr) (p c k:Nat) (a b d n:Int) (args:List Int) (Q:Option Addr) (q:Nat) (w:World) (h1:1≤m.regs) (h2:m.regs≤90) (hi:(In.mk 22 a b d n args).ok) :
  Calls Tryz.prog 195 #[rmV m P C K p c k cs.length ms.length A B x y,riV ⟨22,a,b,d,n,args⟩ Q q] w fun e w'=>e=.returned (.bool (pregB cs ms m.regs m.ret.kind ⟨22,a,b,d,n,args⟩))∧Bl w w':=by
 obtain ⟨-,ia,ib,id,-⟩:=hi
 dsimp only at ia ib id
 have HIA:=hidp ia
 have HIB:=hidp ib
 have HID:=hidp id
 clear ia ib id
 have HAL:Hid (Bl w (rmiW w m P C K p c k cs.length ms.length A B x y ⟨22,a,b,d,n,args⟩ Q q)):=((Bl.refl _).alloc _).alloc _
 have HM:=hidp (rmi_m w m P C K p c k cs.length ms.length A B x y ⟨22,a,b,d,n,args⟩ Q q)
 have HI:=hidp (rmi_i w m P C K p c k cs.length ms.length A B x y ⟨22,a,b,d,n,args⟩ Q q)
 have hb:pregB cs ms m.regs m.ret.kind ⟨22,a,b,d,n,args⟩=phldB m.regs (1) [a]:=rfl
 rw [hb]
 obtain ⟨R,hR⟩:∃R,phldB m.regs (1) [a]=R:=⟨_,rfl⟩
 rw [hR]
 clear hb
 go_enter Tryz.func195,Tryz.ntmps195
 go_wp2_with (go_at_call 252;refine (fholds_any m _ _ _ _ _ _ _ _ _ _ _ _ _ _ _ [a] _ h1 h2 (ints_one (by simp [World.size_alloc]) HIA.out)).mono ?_;rintro e w1 ⟨he,g1⟩;rw [hR] at he;subst he)
 go_ret
 exact ⟨rfl,(HAL.out.alloc _).trans g1⟩
theorem preg_2 (cs:List Cl) (ms:List Me) (A B:Option Addr) (x y:Nat) (m:Me) (P C K:Option Addr) (p c k:Nat) (a b d n:Int) (args:List Int) (Q:Option Addr) (q:Nat) (w:World) (h1:1≤m.regs) (h2:m.regs≤90) (hi:(In.mk 2 a b d n args).ok) :
  Calls Tryz.prog 195 #[rmV m P C K p c k cs.length ms.length A B x y,riV ⟨2,a,b,d,n,args⟩ Q q] w fun e w'=>e=.returned (.bool (pregB cs ms m.regs m.ret.kind ⟨2,a,b,d,n,args⟩))∧Bl w w':=by
 obtain ⟨-,ia,ib,id,-⟩:=hi
 dsimp only at ia ib id
 have HIA:=hidp ia
 have HIB:=hidp ib
 have HID:=hidp id
 clear ia ib id
 have HAL:Hid (Bl w (rmiW w m P C K p c k cs.length ms.length A B x y ⟨2,a,b,d,n,args⟩ Q q)):=((Bl.refl _).alloc _).alloc _
 have HM:=hidp (rmi_m w m P C K p c k cs.length ms.length A B x y ⟨2,a,b,d,n,args⟩ Q q)
 have HI:=hidp (rmi_i w m P C K p c k cs.length ms.length A B x y ⟨2,a,b,d,n,args⟩ Q q)
 have hb:pregB cs ms m.regs m.ret.kind ⟨2,a,b,d,n,args⟩=phldB m.regs (2) [a]:=rfl
 rw [hb]
 obtain ⟨R,hR⟩:∃R,phldB m.regs (2) [a]=R:=⟨_,rfl⟩
 rw [hR]
 clear hb
 go_enter Tryz.func195,Tryz.ntmps195
 go_wp2_with (go_at_call 252;refine (fholds_any m _ _ _ _ _ _ _ _ _ _ _ _ _ _ _ [a] _ h1 h2 (ints_one (by simp [World.size_alloc]) HIA.out)).mono ?_;rintro e w1 ⟨he,g1⟩;rw [hR] at he;subst he)
 go_ret
 exact ⟨rfl,(HAL.out.alloc _).trans g1⟩
theorem preg_24 (cs:List Cl) (ms:List Me) (A B:Option Addr) (x y:Nat) (m:Me) (P C K:Option Addr) (p c k:Nat) (a b d n:Int) (args:List Int) (Q:Option Addr) (q:Nat) (w:World) (h1:1≤m.regs) (h2:m.regs≤90) (hi:(In.mk 24 a b d n args).ok) :
  Calls Tryz.prog 195 #[rmV m P C K p c k cs.length ms.length A B x y,riV ⟨24,a,b,d,n,args⟩ Q q] w fun e w'=>e=.returned (.bool (pregB cs ms m.regs m.ret.kind ⟨24,a,b,d,n,args⟩))∧Bl w w':=by
 obtain ⟨-,ia,ib,id,-⟩:=hi
 dsimp only at ia ib id
 have HIA:=hidp ia
 have HIB:=hidp ib
 have HID:=hidp id
 clear ia ib id
 have HAL:Hid (Bl w (rmiW w m P C K p c k cs.length ms.length A B x y ⟨24,a,b,d,n,args⟩ Q q)):=((Bl.refl _).alloc _).alloc _
 have HM:=hidp (rmi_m w m P C K p c k cs.length ms.length A B x y ⟨24,a,b,d,n,args⟩ Q q)
 have HI:=hidp (rmi_i w m P C K p c k cs.length ms.length A B x y ⟨24,a,b,d,n,args⟩ Q q)
 have hb:pregB cs ms m.regs m.ret.kind ⟨24,a,b,d,n,args⟩=phldB m.regs (2) [a]:=rfl
 rw [hb]
 obtain ⟨R,hR⟩:∃R,phldB m.regs (2) [a]=R:=⟨_,rfl⟩
 rw [hR]
 clear hb
 go_enter Tryz.func195,Tryz.ntmps195
 go_wp2_with (go_at_call 252;refine (fholds_any m _ _ _ _ _ _ _ _ _ _ _ _ _ _ _ [a] _ h1 h2 (ints_one (by simp [World.size_alloc]) HIA.out)).mono ?_;rintro e w1 ⟨he,g1⟩;rw [hR] at he;subst he)
 go_ret
 exact ⟨rfl,(HAL.out.alloc _).trans g1⟩
theorem preg_4 (cs:List Cl) (ms:List Me) (A B:Option Addr) (x y:Nat) (m:Me) (P C K:Option Addr) (p c k:Nat) (a b d n:Int) (args:List Int) (Q:Option Addr) (q:Nat) (w:World) (h1:1≤m.regs) (h2:m.regs≤90) (hi:(In.mk 4 a b d n args).ok) :
  Calls Tryz.prog 195 #[rmV m P C K p c k cs.length ms.length A B x y,riV ⟨4,a,b,d,n,args⟩ Q q] w fun e w'=>e=.returned (.bool (pregB cs ms m.regs m.ret.kind ⟨4,a,b,d,n,args⟩))∧Bl w w':=by
 obtain ⟨-,ia,ib,id,-⟩:=hi
 dsimp only at ia ib id
 have HIA:=hidp ia
 have HIB:=hidp ib
 have HID:=hidp id
 clear ia ib id
 have HAL:Hid (Bl w (rmiW w m P C K p c k cs.length ms.length A B x y ⟨4,a,b,d,n,args⟩ Q q)):=((Bl.refl _).alloc _).alloc _
 have HM:=hidp (rmi_m w m P C K p c k cs.length ms.length A B x y ⟨4,a,b,d,n,args⟩ Q q)
 have HI:=hidp (rmi_i w m P C K p c k cs.length ms.length A B x y ⟨4,a,b,d,n,args⟩ Q q)
 have hb:pregB cs ms m.regs m.ret.kind ⟨4,a,b,d,n,args⟩=phldB m.regs (d) [a,b]:=rfl
 rw [hb]
 obtain ⟨R,hR⟩:∃R,phldB m.regs (d) [a,b]=R:=⟨_,rfl⟩
 rw [hR]
 clear hb
 go_enter Tryz.func195,Tryz.ntmps195
 go_wp2_with (go_at_call 252;refine (fholds_any m _ _ _ _ _ _ _ _ _ _ _ _ _ _ _ [a,b] _ h1 h2 (ints_two (by simp [World.size_alloc]) HIA.out HIB.out)).mono ?_;rintro e w1 ⟨he,g1⟩;rw [hR] at he;subst he)
 go_ret
 exact ⟨rfl,(HAL.out.alloc _).trans g1⟩
theorem preg_5 (cs:List Cl) (ms:List Me) (A B:Option Addr) (x y:Nat) (m:Me) (P C K:Option Addr) (p c k:Nat) (a b d n:Int) (args:List Int) (Q:Option Addr) (q:Nat) (w:World) (h1:1≤m.regs) (h2:m.regs≤90) (hi:(In.mk 5 a b d n args).ok) :
  Calls Tryz.prog 195 #[rmV m P C K p c k cs.length ms.length A B x y,riV ⟨5,a,b,d,n,args⟩ Q q] w fun e w'=>e=.returned (.bool (pregB cs ms m.regs m.ret.kind ⟨5,a,b,d,n,args⟩))∧Bl w w':=by
 obtain ⟨-,ia,ib,id,-⟩:=hi
 dsimp only at ia ib id
 have HIA:=hidp ia
 have HIB:=hidp ib
 have HID:=hidp id
 clear ia ib id
 have HAL:Hid (Bl w (rmiW w m P C K p c k cs.length ms.length A B x y ⟨5,a,b,d,n,args⟩ Q q)):=((Bl.refl _).alloc _).alloc _
 have HM:=hidp (rmi_m w m P C K p c k cs.length ms.length A B x y ⟨5,a,b,d,n,args⟩ Q q)
 have HI:=hidp (rmi_i w m P C K p c k cs.length ms.length A B x y ⟨5,a,b,d,n,args⟩ Q q)
 have hb:pregB cs ms m.regs m.ret.kind ⟨5,a,b,d,n,args⟩=phldB m.regs (1) [a,b,d]:=rfl
 rw [hb]
 obtain ⟨R,hR⟩:∃R,phldB m.regs (1) [a,b,d]=R:=⟨_,rfl⟩
 rw [hR]
 clear hb
 go_enter Tryz.func195,Tryz.ntmps195
 go_wp2_with (go_at_call 252;refine (fholds_any m _ _ _ _ _ _ _ _ _ _ _ _ _ _ _ [a,b,d] _ h1 h2 (ints_three (by simp [World.size_alloc]) HIA.out HIB.out HID.out)).mono ?_;rintro e w1 ⟨he,g1⟩;rw [hR] at he;subst he)
 go_ret
 exact ⟨rfl,(HAL.out.alloc _).trans g1⟩
theorem preg_6 (cs:List Cl) (ms:List Me) (A B:Option Addr) (x y:Nat) (m:Me) (P C K:Option Addr) (p c k:Nat) (a b d n:Int) (args:List Int) (Q:Option Addr) (q:Nat) (w:World) (h1:1≤m.regs) (h2:m.regs≤90) (hi:(In.mk 6 a b d n args).ok) :
  Calls Tryz.prog 195 #[rmV m P C K p c k cs.length ms.length A B x y,riV ⟨6,a,b,d,n,args⟩ Q q] w fun e w'=>e=.returned (.bool (pregB cs ms m.regs m.ret.kind ⟨6,a,b,d,n,args⟩))∧Bl w w':=by
 obtain ⟨-,ia,ib,id,-⟩:=hi
 dsimp only at ia ib id
 have HIA:=hidp ia
 have HIB:=hidp ib
 have HID:=hidp id
 clear ia ib id
 have HAL:Hid (Bl w (rmiW w m P C K p c k cs.length ms.length A B x y ⟨6,a,b,d,n,args⟩ Q q)):=((Bl.refl _).alloc _).alloc _
 have HM:=hidp (rmi_m w m P C K p c k cs.length ms.length A B x y ⟨6,a,b,d,n,args⟩ Q q)
 have HI:=hidp (rmi_i w m P C K p c k cs.length ms.length A B x y ⟨6,a,b,d,n,args⟩ Q q)
 have hb:pregB cs ms m.regs m.ret.kind ⟨6,a,b,d,n,args⟩=phldB m.regs (2) [a,b,d]:=rfl
 rw [hb]
 obtain ⟨R,hR⟩:∃R,phldB m.regs (2) [a,b,d]=R:=⟨_,rfl⟩
 rw [hR]
 clear hb
 go_enter Tryz.func195,Tryz.ntmps195
 go_wp2_with (go_at_call 252;refine (fholds_any m _ _ _ _ _ _ _ _ _ _ _ _ _ _ _ [a,b,d] _ h1 h2 (ints_three (by simp [World.size_alloc]) HIA.out HIB.out HID.out)).mono ?_;rintro e w1 ⟨he,g1⟩;rw [hR] at he;subst he)
 go_ret
 exact ⟨rfl,(HAL.out.alloc _).trans g1⟩
theorem preg_11 (cs:List Cl) (ms:List Me) (A B:Option Addr) (x y:Nat) (m:Me) (P C K:Option Addr) (p c k:Nat) (a b d n:Int) (args:List Int) (Q:Option Addr) (q:Nat) (w:World) (h1:1≤m.regs) (h2:m.regs≤90) (hi:(In.mk 11 a b d n args).ok) :
  Calls Tryz.prog 195 #[rmV m P C K p c k cs.length ms.length A B x y,riV ⟨11,a,b,d,n,args⟩ Q q] w fun e w'=>e=.returned (.bool (pregB cs ms m.regs m.ret.kind ⟨11,a,b,d,n,args⟩))∧Bl w w':=by
 obtain ⟨-,ia,ib,id,-⟩:=hi
 dsimp only at ia ib id
 have HIA:=hidp ia
 have HIB:=hidp ib
 have HID:=hidp id
 clear ia ib id
 have HAL:Hid (Bl w (rmiW w m P C K p c k cs.length ms.length A B x y ⟨11,a,b,d,n,args⟩ Q q)):=((Bl.refl _).alloc _).alloc _
 have HM:=hidp (rmi_m w m P C K p c k cs.length ms.length A B x y ⟨11,a,b,d,n,args⟩ Q q)
 have HI:=hidp (rmi_i w m P C K p c k cs.length ms.length A B x y ⟨11,a,b,d,n,args⟩ Q q)
 have hb:pregB cs ms m.regs m.ret.kind ⟨11,a,b,d,n,args⟩=phldB m.regs (1) [d]:=rfl
 rw [hb]
 obtain ⟨R,hR⟩:∃R,phldB m.regs (1) [d]=R:=⟨_,rfl⟩
 rw [hR]
 clear hb
 go_enter Tryz.func195,Tryz.ntmps195
 go_wp2_with (go_at_call 252;refine (fholds_any m _ _ _ _ _ _ _ _ _ _ _ _ _ _ _ [d] _ h1 h2 (ints_one (by simp [World.size_alloc]) HID.out)).mono ?_;rintro e w1 ⟨he,g1⟩;rw [hR] at he;subst he)
 go_ret
 exact ⟨rfl,(HAL.out.alloc _).trans g1⟩
theorem preg_12 (cs:List Cl) (ms:List Me) (A B:Option Addr) (x y:Nat) (m:Me) (P C K:Option Addr) (p c k:Nat) (a b d n:Int) (args:List Int) (Q:Option Addr) (q:Nat) (w:World) (h1:1≤m.regs) (h2:m.regs≤90) (hi:(In.mk 12 a b d n args).ok) :
  Calls Tryz.prog 195 #[rmV m P C K p c k cs.length ms.length A B x y,riV ⟨12,a,b,d,n,args⟩ Q q] w fun e w'=>e=.returned (.bool (pregB cs ms m.regs m.ret.kind ⟨12,a,b,d,n,args⟩))∧Bl w w':=by
 obtain ⟨-,ia,ib,id,-⟩:=hi
 dsimp only at ia ib id
 have HIA:=hidp ia
 have HIB:=hidp ib
 have HID:=hidp id
 clear ia ib id
 have HAL:Hid (Bl w (rmiW w m P C K p c k cs.length ms.length A B x y ⟨12,a,b,d,n,args⟩ Q q)):=((Bl.refl _).alloc _).alloc _
 have HM:=hidp (rmi_m w m P C K p c k cs.length ms.length A B x y ⟨12,a,b,d,n,args⟩ Q q)
 have HI:=hidp (rmi_i w m P C K p c k cs.length ms.length A B x y ⟨12,a,b,d,n,args⟩ Q q)
 have hb:pregB cs ms m.regs m.ret.kind ⟨12,a,b,d,n,args⟩=phldB m.regs (1) [d]:=rfl
 rw [hb]
 obtain ⟨R,hR⟩:∃R,phldB m.regs (1) [d]=R:=⟨_,rfl⟩
 rw [hR]
 clear hb
 go_enter Tryz.func195,Tryz.ntmps195
 go_wp2_with (go_at_call 252;refine (fholds_any m _ _ _ _ _ _ _ _ _ _ _ _ _ _ _ [d] _ h1 h2 (ints_one (by simp [World.size_alloc]) HID.out)).mono ?_;rintro e w1 ⟨he,g1⟩;rw [hR] at he;subst he)
 go_ret
 exact ⟨rfl,(HAL.out.alloc _).trans g1⟩
theorem preg_17 (cs:List Cl) (ms:List Me) (A B:Option Addr) (x y:Nat) (m:Me) (P C K:Option Addr) (p c k:Nat) (a b d n:Int) (args:List Int) (Q:Option Addr) (q:Nat) (w:World) (h1:1≤m.regs) (h2:m.regs≤90) (hi:(In.mk 17 a b d n args).ok) :
  Calls Tryz.prog 195 #[rmV m P C K p c k cs.length ms.length A B x y,riV ⟨17,a,b,d,n,args⟩ Q q] w fun e w'=>e=.returned (.bool (pregB cs ms m.regs m.ret.kind ⟨17,a,b,d,n,args⟩))∧Bl w w':=by
 obtain ⟨-,ia,ib,id,-⟩:=hi
 dsimp only at ia ib id
 have HIA:=hidp ia
 have HIB:=hidp ib
 have HID:=hidp id
 clear ia ib id
 have HAL:Hid (Bl w (rmiW w m P C K p c k cs.length ms.length A B x y ⟨17,a,b,d,n,args⟩ Q q)):=((Bl.refl _).alloc _).alloc _
 have HM:=hidp (rmi_m w m P C K p c k cs.length ms.length A B x y ⟨17,a,b,d,n,args⟩ Q q)
 have HI:=hidp (rmi_i w m P C K p c k cs.length ms.length A B x y ⟨17,a,b,d,n,args⟩ Q q)
 have hb:pregB cs ms m.regs m.ret.kind ⟨17,a,b,d,n,args⟩=phldB m.regs (1) [a,b]:=rfl
 rw [hb]
 obtain ⟨R,hR⟩:∃R,phldB m.regs (1) [a,b]=R:=⟨_,rfl⟩
 rw [hR]
 clear hb
 go_enter Tryz.func195,Tryz.ntmps195
 go_wp2_with (go_at_call 252;refine (fholds_any m _ _ _ _ _ _ _ _ _ _ _ _ _ _ _ [a,b] _ h1 h2 (ints_two (by simp [World.size_alloc]) HIA.out HIB.out)).mono ?_;rintro e w1 ⟨he,g1⟩;rw [hR] at he;subst he)
 go_ret
 exact ⟨rfl,(HAL.out.alloc _).trans g1⟩
theorem preg_19 (cs:List Cl) (ms:List Me) (A B:Option Addr) (x y:Nat) (m:Me) (P C K:Option Addr) (p c k:Nat) (a b d n:Int) (args:List Int) (Q:Option Addr) (q:Nat) (w:World) (h1:1≤m.regs) (h2:m.regs≤90) (hi:(In.mk 19 a b d n args).ok) :
  Calls Tryz.prog 195 #[rmV m P C K p c k cs.length ms.length A B x y,riV ⟨19,a,b,d,n,args⟩ Q q] w fun e w'=>e=.returned (.bool (pregB cs ms m.regs m.ret.kind ⟨19,a,b,d,n,args⟩))∧Bl w w':=by
 obtain ⟨-,ia,ib,id,-⟩:=hi
 dsimp only at ia ib id
 have HIA:=hidp ia
 have HIB:=hidp ib
 have HID:=hidp id
 clear ia ib id
 have HAL:Hid (Bl w (rmiW w m P C K p c k cs.length ms.length A B x y ⟨19,a,b,d,n,args⟩ Q q)):=((Bl.refl _).alloc _).alloc _
 have HM:=hidp (rmi_m w m P C K p c k cs.length ms.length A B x y ⟨19,a,b,d,n,args⟩ Q q)
 have HI:=hidp (rmi_i w m P C K p c k cs.length ms.length A B x y ⟨19,a,b,d,n,args⟩ Q q)
 have hb:pregB cs ms m.regs m.ret.kind ⟨19,a,b,d,n,args⟩=phldB m.regs (b) [a]:=rfl
 rw [hb]
 obtain ⟨R,hR⟩:∃R,phldB m.regs (b) [a]=R:=⟨_,rfl⟩
 rw [hR]
 clear hb
 go_enter Tryz.func195,Tryz.ntmps195
 go_wp2_with (go_at_call 252;refine (fholds_any m _ _ _ _ _ _ _ _ _ _ _ _ _ _ _ [a] _ h1 h2 (ints_one (by simp [World.size_alloc]) HIA.out)).mono ?_;rintro e w1 ⟨he,g1⟩;rw [hR] at he;subst he)
 go_ret
 exact ⟨rfl,(HAL.out.alloc _).trans g1⟩
theorem preg_23 (cs:List Cl) (ms:List Me) (A B:Option Addr) (x y:Nat) (m:Me) (P C K:Option Addr) (p c k:Nat) (a b d n:Int) (args:List Int) (Q:Option Addr) (q:Nat) (w:World) (h1:1≤m.regs) (h2:m.regs≤90) (hi:(In.mk 23 a b d n args).ok) :
  Calls Tryz.prog 195 #[rmV m P C K p c k cs.length ms.length A B x y,riV ⟨23,a,b,d,n,args⟩ Q q] w fun e w'=>e=.returned (.bool (pregB cs ms m.regs m.ret.kind ⟨23,a,b,d,n,args⟩))∧Bl w w':=by
 obtain ⟨-,ia,ib,id,-⟩:=hi
 dsimp only at ia ib id
 have HIA:=hidp ia
 have HIB:=hidp ib
 have HID:=hidp id
 clear ia ib id
 have HAL:Hid (Bl w (rmiW w m P C K p c k cs.length ms.length A B x y ⟨23,a,b,d,n,args⟩ Q q)):=((Bl.refl _).alloc _).alloc _
 have HM:=hidp (rmi_m w m P C K p c k cs.length ms.length A B x y ⟨23,a,b,d,n,args⟩ Q q)
 have HI:=hidp (rmi_i w m P C K p c k cs.length ms.length A B x y ⟨23,a,b,d,n,args⟩ Q q)
 have hb:pregB cs ms m.regs m.ret.kind ⟨23,a,b,d,n,args⟩=phldB m.regs (b) [a]:=rfl
 rw [hb]
 obtain ⟨R,hR⟩:∃R,phldB m.regs (b) [a]=R:=⟨_,rfl⟩
 rw [hR]
 clear hb
 go_enter Tryz.func195,Tryz.ntmps195
 go_wp2_with (go_at_call 252;refine (fholds_any m _ _ _ _ _ _ _ _ _ _ _ _ _ _ _ [a] _ h1 h2 (ints_one (by simp [World.size_alloc]) HIA.out)).mono ?_;rintro e w1 ⟨he,g1⟩;rw [hR] at he;subst he)
 go_ret
 exact ⟨rfl,(HAL.out.alloc _).trans g1⟩
end Go.Proofs.YtgiiapenmjollabGreat
