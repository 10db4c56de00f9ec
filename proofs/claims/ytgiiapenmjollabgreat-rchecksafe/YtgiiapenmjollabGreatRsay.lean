import Derived.Test.YtgiiapenmjollabGreatRsau
import Derived.Test.YtgiiapenmjollabGreatRsaw
import Derived.Test.YtgiiapenmjollabGreatRsax
namespace Go.Proofs.YtgiiapenmjollabGreat
set_option linter.all false
set_option maxHeartbeats 40000000
set_option maxRecDepth 100000
open Go.RowKit
theorem preg_any (i:In) (cs:List Cl) (ms:List Me) (A B:Option Addr) (x y:Nat) (m:Me) (P C K:Option Addr) (p c k:Nat) (Q:Option Addr) (q:Nat) (w:World) (h1:1≤m.regs) (h2:m.regs≤90) (hi:i.ok) (hA:ClsAt w A cs) (hB:MesAt w B ms) (hQ:IntsAt w Q i.args) :
  Calls Tryz.prog 195 #[rmV m P C K p c k cs.length ms.length A B x y,riV i Q q] w fun e w'=>e=.returned (.bool (pregB cs ms m.regs m.ret.kind i))∧Bl w w':=by
 obtain ⟨op,a,b,d,n,args⟩:=i
 have hop:op=1∨op=3∨op=13∨op=16∨op=21∨op=22∨op=2∨op=24∨op=4∨op=5∨op=6∨op=7∨op=8∨op=9∨op=11∨op=12∨op=14∨op=15∨op=17∨op=18∨op=19∨op=23∨op=20∨(op≠1∧op≠3∧op≠13∧op≠16∧op≠21∧op≠22∧op≠2∧op≠24∧op≠4∧op≠5∧op≠6∧op≠7∧op≠8∧op≠9∧op≠11∧op≠12∧op≠14∧op≠15∧op≠17∧op≠18∧op≠19∧op≠23∧op≠20):=by omega
 rcases hop with rfl|rfl|rfl|rfl|rfl|rfl|rfl|rfl|rfl|rfl|rfl|rfl|rfl|rfl|rfl|rfl|rfl|rfl|rfl|rfl|rfl|rfl|rfl|hop
 ·exact preg_1 cs ms A B x y m P C K p c k a b d n args Q q w h1 h2 hi
 ·exact preg_3 cs ms A B x y m P C K p c k a b d n args Q q w h1 h2 hi
 ·exact preg_13 cs ms A B x y m P C K p c k a b d n args Q q w h1 h2 hi
 ·exact preg_16 cs ms A B x y m P C K p c k a b d n args Q q w h1 h2 hi
 ·exact preg_21 cs ms A B x y m P C K p c k a b d n args Q q w h1 h2 hi
 ·exact preg_22 cs ms A B x y m P C K p c k a b d n args Q q w h1 h2 hi
 ·exact preg_2 cs ms A B x y m P C K p c k a b d n args Q q w h1 h2 hi
 ·exact preg_24 cs ms A B x y m P C K p c k a b d n args Q q w h1 h2 hi
 ·exact preg_4 cs ms A B x y m P C K p c k a b d n args Q q w h1 h2 hi
 ·exact preg_5 cs ms A B x y m P C K p c k a b d n args Q q w h1 h2 hi
 ·exact preg_6 cs ms A B x y m P C K p c k a b d n args Q q w h1 h2 hi
 ·exact preg_7 cs ms A B x y m P C K p c k a b d n args Q q w h1 h2 hi
 ·exact preg_8 cs ms A B x y m P C K p c k a b d n args Q q w h1 h2 hi
 ·exact preg_9 cs ms A B x y m P C K p c k a b d n args Q q w h1 h2 hi
 ·exact preg_11 cs ms A B x y m P C K p c k a b d n args Q q w h1 h2 hi
 ·exact preg_12 cs ms A B x y m P C K p c k a b d n args Q q w h1 h2 hi
 ·exact preg_14 cs ms A B x y m P C K p c k a b d n args Q q w h1 h2 hA hi
 ·exact preg_15 cs ms A B x y m P C K p c k a b d n args Q q w h1 h2 hA hi
 ·exact preg_17 cs ms A B x y m P C K p c k a b d n args Q q w h1 h2 hi
 ·have hb:pregB cs ms m.regs m.ret.kind ⟨18,a,b,d,n,args⟩=pargsB ms m.regs ⟨18,a,b,d,n,args⟩:=rfl
  rw [hb]
  obtain ⟨R,hR⟩:∃R,pargsB ms m.regs ⟨18,a,b,d,n,args⟩=R:=⟨_,rfl⟩
  rw [hR]
  have HAL:Hid (Bl w (rmiW w m P C K p c k cs.length ms.length A B x y ⟨18,a,b,d,n,args⟩ Q q)):=((Bl.refl _).alloc _).alloc _
  have HB:Hid (MesAt w B ms):=hB
  have HQ:Hid (IntsAt w Q args):=hQ
  clear hb hA hB hQ hi
  go_enter Tryz.func195,Tryz.ntmps195
  go_wp2_with (go_at_call 254;refine (pargs_any m _ _ _ _ _ _ _ ms _ _ _ _ ⟨18,a,b,d,n,args⟩ _ _ _ h1 h2 (HB.out.bl HAL.out) (HQ.out.bl HAL.out)).mono ?_;rintro e w1 ⟨he,g1⟩;rw [hR] at he;subst he)
  go_ret
  exact ⟨rfl,HAL.out.trans g1⟩
 ·exact preg_19 cs ms A B x y m P C K p c k a b d n args Q q w h1 h2 hi
 ·exact preg_23 cs ms A B x y m P C K p c k a b d n args Q q w h1 h2 hi
 ·have hb:pregB cs ms m.regs m.ret.kind ⟨20,a,b,d,n,args⟩=pretB m.regs m.ret.kind a:=rfl
  rw [hb]
  obtain ⟨R,hR⟩:∃R,pretB m.regs m.ret.kind a=R:=⟨_,rfl⟩
  rw [hR]
  have HAL:Hid (Bl w (rmiW w m P C K p c k cs.length ms.length A B x y ⟨20,a,b,d,n,args⟩ Q q)):=((Bl.refl _).alloc _).alloc _
  have HIK:=hidp hi
  clear hb hA hB hQ hi
  go_enter Tryz.func195,Tryz.ntmps195
  go_wp2_with (go_at_call 255;refine (pret_any m _ _ _ _ _ _ _ _ _ _ _ _ ⟨20,a,b,d,n,args⟩ _ _ _ h1 h2 HIK.out).mono ?_;rintro e w1 ⟨he,g1⟩;rw [hR] at he;subst he)
  go_ret
  exact ⟨rfl,HAL.out.trans g1⟩
 ·obtain ⟨h1,h3,h13,h16,h21,h22,h2,h24,h4,h5,h6,h7,h8,h9,h11,h12,h14,h15,h17,h18,h19,h23,h20⟩:=hop
  have z1:(op==1)=false:=by simp;omega
  have z3:(op==3)=false:=by simp;omega
  have z13:(op==13)=false:=by simp;omega
  have z16:(op==16)=false:=by simp;omega
  have z21:(op==21)=false:=by simp;omega
  have z22:(op==22)=false:=by simp;omega
  have z2:(op==2)=false:=by simp;omega
  have z24:(op==24)=false:=by simp;omega
  have z4:(op==4)=false:=by simp;omega
  have z5:(op==5)=false:=by simp;omega
  have z6:(op==6)=false:=by simp;omega
  have z7:(op==7)=false:=by simp;omega
  have z8:(op==8)=false:=by simp;omega
  have z9:(op==9)=false:=by simp;omega
  have z11:(op==11)=false:=by simp;omega
  have z12:(op==12)=false:=by simp;omega
  have z14:(op==14)=false:=by simp;omega
  have z15:(op==15)=false:=by simp;omega
  have z17:(op==17)=false:=by simp;omega
  have z18:(op==18)=false:=by simp;omega
  have z19:(op==19)=false:=by simp;omega
  have z23:(op==23)=false:=by simp;omega
  have z20:(op==20)=false:=by simp;omega
  have hb:pregB cs ms m.regs m.ret.kind ⟨op,a,b,d,n,args⟩=true:=by
   unfold pregB;dsimp only
   repeat rw [if_neg (by omega)]
  rw [hb]
  clear hb hA hB hQ hi h1 h3 h13 h16 h21 h22 h2 h24 h4 h5 h6 h7 h8 h9 h11 h12 h14 h15 h17 h18 h19 h23 h20
  go_enter Tryz.func195,Tryz.ntmps195
  go_wp2
  go_ret
  exact ⟨rfl,((Bl.refl _).alloc _).alloc _⟩

end Go.Proofs.YtgiiapenmjollabGreat
