import Derived.Test.YtgiiapenmjollaaGreatRrar
namespace Go.Proofs.YtgiiapenmjollaaGreat
set_option linter.all false
set_option maxHeartbeats 40000000
set_option maxRecDepth 100000
open Go.RowKit
open Tryz
theorem sn (i:In) (nc nm:Nat) (A B:Option Addr) (x y:Nat) (m:Me) (P C K:Option Addr) (p c k:Nat) (Q:Option Addr) (q:Nat) (w:World) (mE:nc<=maxLen) (eG:m.code.length<=maxLen) :
  χ 181 #[n8 m P C K p c k nc nm A B x y,pg i Q q] w fun e w'=>e=.returned (.bool (gK nc m.code.length i))/\Bl w w':=by
 obtain ⟨op,a,b,d,n,args⟩:=i
 unfold maxLen at mE eG
 have bM:Θ (∀o o',Bl w ((w.alloc o).alloc o')):=fun o o'=>((Bl.refl _).alloc _).alloc _
 have hop:op=1∨op=5∨op=6∨op=10∨op=12∨op=11∨op=13∨op=16∨op=17∨op=23∨(op≠1/\op≠5/\op≠6/\op≠10/\op≠12/\op≠11/\op≠13/\op≠16/\op≠17/\op≠23):=by omega
 rcases hop with rfl|rfl|rfl|rfl|rfl|rfl|rfl|rfl|rfl|rfl|hop
 ·have hb:gK nc m.code.length ⟨1,a,b,d,n,args⟩=(n==wrap32 n):=by rw [D7];rfl
  have y4:=aj (fp w m P C K p c k nc nm A B x y ⟨1,a,b,d,n,args⟩ Q q).i4
  dsimp only at y4
  rw [hb]
  obtain ⟨N,hN⟩:∃N,wrap32 n=N:=⟨_,rfl⟩
  rw [hN]
  clear hb
  go_enter func181,ntmps181
  go_wp2
  refine az (by kernel_rfl) (by kernel_rfl) fun hne=>?_
  repeat (go_big_quiet_step ((go_at_call 102;exact Calls.fut_same_eq _ (kG _ _) (congrArg (Value.int .i64) hN))))
  refine wpQuiet_nil ?_
  rintro _ ⟨⟨w2,bX⟩,rfl⟩
  go_wp2
  go_ret
  exact ⟨ag rfl,(bM.o _ _).trans bX⟩
 ·go_enter func181,ntmps181
  go_wp2_with (first
   | (go_at_call 225;refine (gY _ _ _ _).mono ?_;rintro e w1 ⟨rfl,rfl⟩)
   | (go_at_call 35;refine (bP _ _ _ _).mono ?_;rintro e w1 ⟨rfl,rfl⟩)
   | (go_at_call 97;refine (bk _ _ _).mono ?_;rintro e w1 ⟨rfl,rfl⟩))
  go_ret
  exact ⟨ag (by simp [gK]),bM.o _ _⟩
 ·go_enter func181,ntmps181
  go_wp2_with (first
   | (go_at_call 225;refine (gY _ _ _ _).mono ?_;rintro e w1 ⟨rfl,rfl⟩)
   | (go_at_call 35;refine (bP _ _ _ _).mono ?_;rintro e w1 ⟨rfl,rfl⟩)
   | (go_at_call 97;refine (bk _ _ _).mono ?_;rintro e w1 ⟨rfl,rfl⟩))
  go_ret
  exact ⟨ag (by simp [gK]),bM.o _ _⟩
 ·go_enter func181,ntmps181
  go_wp2_with (first
   | (go_at_call 225;refine (gY _ _ _ _).mono ?_;rintro e w1 ⟨rfl,rfl⟩)
   | (go_at_call 35;refine (bP _ _ _ _).mono ?_;rintro e w1 ⟨rfl,rfl⟩)
   | (go_at_call 97;refine (bk _ _ _).mono ?_;rintro e w1 ⟨rfl,rfl⟩))
  go_ret
  exact ⟨ag (by simp [gK]),bM.o _ _⟩
 ·go_enter func181,ntmps181
  go_wp2_with (first
   | (go_at_call 225;refine (gY _ _ _ _).mono ?_;rintro e w1 ⟨rfl,rfl⟩)
   | (go_at_call 35;refine (bP _ _ _ _).mono ?_;rintro e w1 ⟨rfl,rfl⟩)
   | (go_at_call 97;refine (bk _ _ _).mono ?_;rintro e w1 ⟨rfl,rfl⟩))
  go_ret
  exact ⟨ag (by simp [gK]),bM.o _ _⟩
 ·have hb:gK nc m.code.length ⟨11,a,b,d,n,args⟩=(decide (0<=a/\a<(m.code.length:Int))&&decide (1<=b/\b<=4)):=rfl
  rw [hb]
  obtain ⟨R,hR⟩:∃R,decide (0<=a/\a<(m.code.length:Int))=R:=⟨_,rfl⟩
  obtain ⟨S,hS⟩:∃S,decide (1<=b/\b<=4)=S:=⟨_,rfl⟩
  rw [hR,hS]
  clear hb
  cases R
  all_goals
   go_enter func181,ntmps181
   go_wp2_with (first
    | (go_at_call 35;refine (bP _ _ _ _).mono ?_;rintro e w1 ⟨he,hw1⟩;rw [hS] at he;subst he;rw [hw1];clear hw1 w1)
    | (go_at_call 97;refine (bk _ _ _).mono ?_;rintro e w1 ⟨he,hw1⟩;rw [hR] at he;subst he;rw [hw1];clear hw1 w1))
   go_ret
   exact ⟨rfl,bM.o _ _⟩
 ·go_enter func181,ntmps181
  go_wp2_with (first
   | (go_at_call 225;refine (gY _ _ _ _).mono ?_;rintro e w1 ⟨rfl,rfl⟩)
   | (go_at_call 35;refine (bP _ _ _ _).mono ?_;rintro e w1 ⟨rfl,rfl⟩)
   | (go_at_call 97;refine (bk _ _ _).mono ?_;rintro e w1 ⟨rfl,rfl⟩))
  go_ret
  exact ⟨ag (by simp [gK]),bM.o _ _⟩
 ·go_enter func181,ntmps181
  go_wp2_with (first
   | (go_at_call 225;refine (gY _ _ _ _).mono ?_;rintro e w1 ⟨rfl,rfl⟩)
   | (go_at_call 35;refine (bP _ _ _ _).mono ?_;rintro e w1 ⟨rfl,rfl⟩)
   | (go_at_call 97;refine (bk _ _ _).mono ?_;rintro e w1 ⟨rfl,rfl⟩))
  go_ret
  exact ⟨ag (by simp [gK]),bM.o _ _⟩
 ·go_enter func181,ntmps181
  go_wp2_with (first
   | (go_at_call 225;refine (gY _ _ _ _).mono ?_;rintro e w1 ⟨rfl,rfl⟩)
   | (go_at_call 35;refine (bP _ _ _ _).mono ?_;rintro e w1 ⟨rfl,rfl⟩)
   | (go_at_call 97;refine (bk _ _ _).mono ?_;rintro e w1 ⟨rfl,rfl⟩))
  go_ret
  exact ⟨ag (by simp [gK]),bM.o _ _⟩
 ·have hb:gK nc m.code.length ⟨23,a,b,d,n,args⟩=(b !=3):=by unfold gK;rw [Bool.eq_iff_iff];simp
  rw [hb]
  clear hb
  go_enter func181,ntmps181
  go_wp2
  all_goals
   go_ret
   exact ⟨ag (by simp [*]),bM.o _ _⟩
 ·obtain ⟨h1,h5,h6,rZ,jU,lP,qx,Nb,P0,Nc⟩:=hop
  have z1:(op==1)=false:=by simp;omega
  have z5:(op==5)=false:=by simp;omega
  have z6:(op==6)=false:=by simp;omega
  have Zh:(op==10)=false:=by simp;omega
  have z12:(op==12)=false:=by simp;omega
  have WZ:(op==11)=false:=by simp;omega
  have UB:(op==13)=false:=by simp;omega
  have Wu:(op==16)=false:=by simp;omega
  have W1:(op==17)=false:=by simp;omega
  have W5:(op==23)=false:=by simp;omega
  have hb:gK nc m.code.length ⟨op,a,b,d,n,args⟩=true:=by
   unfold gK;dsimp only;rw [if_neg (by omega),if_neg (by omega),if_neg (by omega),if_neg (by omega),if_neg (by omega),if_neg (by omega),if_neg (by omega)]
  rw [hb]
  clear hb h1 h5 h6 rZ jU lP qx Nb P0 Nc
  go_enter func181,ntmps181
  go_wp2
  go_ret
  exact ⟨rfl,bM.o _ _⟩
section
variable (cs:List Cl) (ms:List Me) (A B:Option Addr) (x y:Nat) (m:Me) (P C K:Option Addr) (p c k:Nat) (a b d n:Int) (args:List Int) (Q:Option Addr) (q:Nat) (w:World)
theorem OV (h1:1<=m.regs) (h2:m.regs<=90) (hi:(In.mk 1 a b d n args).ok) :
  χ 180 #[n8 m P C K p c k cs.length ms.length A B x y,pg ⟨1,a,b,d,n,args⟩ Q q] w fun e w'=>e=.returned (.bool (cA cs ms m.regs m.ret.kind ⟨1,a,b,d,n,args⟩))/\Bl w w':=by
 obtain ⟨-,ia,ib,id,-⟩:=hi
 dsimp only at ia ib id
 have il:=bj ia
 have ng:=bj ib
 have pX:=bj id
 clear ia ib id
 have bM:Θ (Bl w (eW w m P C K p c k cs.length ms.length A B x y ⟨1,a,b,d,n,args⟩ Q q)):=((Bl.refl _).alloc _).alloc _
 have HM:=bj (fF w m P C K p c k cs.length ms.length A B x y ⟨1,a,b,d,n,args⟩ Q q)
 have HI:=bj (fp w m P C K p c k cs.length ms.length A B x y ⟨1,a,b,d,n,args⟩ Q q)
 have hb:cA cs ms m.regs m.ret.kind ⟨1,a,b,d,n,args⟩=aQ m.regs (1) [a]:=rfl
 rw [hb]
 obtain ⟨R,hR⟩:∃R,aQ m.regs (1) [a]=R:=⟨_,rfl⟩
 rw [hR]
 clear hb
 go_enter func180,ntmps180
 go_wp2_with (go_at_call 221;refine (aP m _ _ _ _ _ _ _ _ _ _ _ _ _ _ _ [a] _ h1 h2 (bz (by simp [World.size_alloc]) il.o)).mono ?_;rintro e w1 ⟨he,g1⟩;rw [hR] at he;subst he)
 go_ret
 exact ⟨rfl,(bM.o.alloc _).trans g1⟩
theorem OX (h1:1<=m.regs) (h2:m.regs<=90) (hi:(In.mk 3 a b d n args).ok) :
  χ 180 #[n8 m P C K p c k cs.length ms.length A B x y,pg ⟨3,a,b,d,n,args⟩ Q q] w fun e w'=>e=.returned (.bool (cA cs ms m.regs m.ret.kind ⟨3,a,b,d,n,args⟩))/\Bl w w':=by
 obtain ⟨-,ia,ib,id,-⟩:=hi
 dsimp only at ia ib id
 have il:=bj ia
 have ng:=bj ib
 have pX:=bj id
 clear ia ib id
 have bM:Θ (Bl w (eW w m P C K p c k cs.length ms.length A B x y ⟨3,a,b,d,n,args⟩ Q q)):=((Bl.refl _).alloc _).alloc _
 have HM:=bj (fF w m P C K p c k cs.length ms.length A B x y ⟨3,a,b,d,n,args⟩ Q q)
 have HI:=bj (fp w m P C K p c k cs.length ms.length A B x y ⟨3,a,b,d,n,args⟩ Q q)
 have hb:cA cs ms m.regs m.ret.kind ⟨3,a,b,d,n,args⟩=aQ m.regs (1) [a]:=rfl
 rw [hb]
 obtain ⟨R,hR⟩:∃R,aQ m.regs (1) [a]=R:=⟨_,rfl⟩
 rw [hR]
 clear hb
 go_enter func180,ntmps180
 go_wp2_with (go_at_call 221;refine (aP m _ _ _ _ _ _ _ _ _ _ _ _ _ _ _ [a] _ h1 h2 (bz (by simp [World.size_alloc]) il.o)).mono ?_;rintro e w1 ⟨he,g1⟩;rw [hR] at he;subst he)
 go_ret
 exact ⟨rfl,(bM.o.alloc _).trans g1⟩
theorem Lw (h1:1<=m.regs) (h2:m.regs<=90) (hi:(In.mk 13 a b d n args).ok) :
  χ 180 #[n8 m P C K p c k cs.length ms.length A B x y,pg ⟨13,a,b,d,n,args⟩ Q q] w fun e w'=>e=.returned (.bool (cA cs ms m.regs m.ret.kind ⟨13,a,b,d,n,args⟩))/\Bl w w':=by
 obtain ⟨-,ia,ib,id,-⟩:=hi
 dsimp only at ia ib id
 have il:=bj ia
 have ng:=bj ib
 have pX:=bj id
 clear ia ib id
 have bM:Θ (Bl w (eW w m P C K p c k cs.length ms.length A B x y ⟨13,a,b,d,n,args⟩ Q q)):=((Bl.refl _).alloc _).alloc _
 have HM:=bj (fF w m P C K p c k cs.length ms.length A B x y ⟨13,a,b,d,n,args⟩ Q q)
 have HI:=bj (fp w m P C K p c k cs.length ms.length A B x y ⟨13,a,b,d,n,args⟩ Q q)
 have hb:cA cs ms m.regs m.ret.kind ⟨13,a,b,d,n,args⟩=aQ m.regs (1) [a]:=rfl
 rw [hb]
 obtain ⟨R,hR⟩:∃R,aQ m.regs (1) [a]=R:=⟨_,rfl⟩
 rw [hR]
 clear hb
 go_enter func180,ntmps180
 go_wp2_with (go_at_call 221;refine (aP m _ _ _ _ _ _ _ _ _ _ _ _ _ _ _ [a] _ h1 h2 (bz (by simp [World.size_alloc]) il.o)).mono ?_;rintro e w1 ⟨he,g1⟩;rw [hR] at he;subst he)
 go_ret
 exact ⟨rfl,(bM.o.alloc _).trans g1⟩
theorem Lx (h1:1<=m.regs) (h2:m.regs<=90) (hi:(In.mk 16 a b d n args).ok) :
  χ 180 #[n8 m P C K p c k cs.length ms.length A B x y,pg ⟨16,a,b,d,n,args⟩ Q q] w fun e w'=>e=.returned (.bool (cA cs ms m.regs m.ret.kind ⟨16,a,b,d,n,args⟩))/\Bl w w':=by
 obtain ⟨-,ia,ib,id,-⟩:=hi
 dsimp only at ia ib id
 have il:=bj ia
 have ng:=bj ib
 have pX:=bj id
 clear ia ib id
 have bM:Θ (Bl w (eW w m P C K p c k cs.length ms.length A B x y ⟨16,a,b,d,n,args⟩ Q q)):=((Bl.refl _).alloc _).alloc _
 have HM:=bj (fF w m P C K p c k cs.length ms.length A B x y ⟨16,a,b,d,n,args⟩ Q q)
 have HI:=bj (fp w m P C K p c k cs.length ms.length A B x y ⟨16,a,b,d,n,args⟩ Q q)
 have hb:cA cs ms m.regs m.ret.kind ⟨16,a,b,d,n,args⟩=aQ m.regs (1) [a]:=rfl
 rw [hb]
 obtain ⟨R,hR⟩:∃R,aQ m.regs (1) [a]=R:=⟨_,rfl⟩
 rw [hR]
 clear hb
 go_enter func180,ntmps180
 go_wp2_with (go_at_call 221;refine (aP m _ _ _ _ _ _ _ _ _ _ _ _ _ _ _ [a] _ h1 h2 (bz (by simp [World.size_alloc]) il.o)).mono ?_;rintro e w1 ⟨he,g1⟩;rw [hR] at he;subst he)
 go_ret
 exact ⟨rfl,(bM.o.alloc _).trans g1⟩
theorem Ly (h1:1<=m.regs) (h2:m.regs<=90) (hi:(In.mk 21 a b d n args).ok) :
  χ 180 #[n8 m P C K p c k cs.length ms.length A B x y,pg ⟨21,a,b,d,n,args⟩ Q q] w fun e w'=>e=.returned (.bool (cA cs ms m.regs m.ret.kind ⟨21,a,b,d,n,args⟩))/\Bl w w':=by
 obtain ⟨-,ia,ib,id,-⟩:=hi
 dsimp only at ia ib id
 have il:=bj ia
 have ng:=bj ib
 have pX:=bj id
 clear ia ib id
 have bM:Θ (Bl w (eW w m P C K p c k cs.length ms.length A B x y ⟨21,a,b,d,n,args⟩ Q q)):=((Bl.refl _).alloc _).alloc _
 have HM:=bj (fF w m P C K p c k cs.length ms.length A B x y ⟨21,a,b,d,n,args⟩ Q q)
 have HI:=bj (fp w m P C K p c k cs.length ms.length A B x y ⟨21,a,b,d,n,args⟩ Q q)
 have hb:cA cs ms m.regs m.ret.kind ⟨21,a,b,d,n,args⟩=aQ m.regs (1) [a]:=rfl
 rw [hb]
 obtain ⟨R,hR⟩:∃R,aQ m.regs (1) [a]=R:=⟨_,rfl⟩
 rw [hR]
 clear hb
 go_enter func180,ntmps180
 go_wp2_with (go_at_call 221;refine (aP m _ _ _ _ _ _ _ _ _ _ _ _ _ _ _ [a] _ h1 h2 (bz (by simp [World.size_alloc]) il.o)).mono ?_;rintro e w1 ⟨he,g1⟩;rw [hR] at he;subst he)
 go_ret
 exact ⟨rfl,(bM.o.alloc _).trans g1⟩
theorem LA (h1:1<=m.regs) (h2:m.regs<=90) (hi:(In.mk 22 a b d n args).ok) :
  χ 180 #[n8 m P C K p c k cs.length ms.length A B x y,pg ⟨22,a,b,d,n,args⟩ Q q] w fun e w'=>e=.returned (.bool (cA cs ms m.regs m.ret.kind ⟨22,a,b,d,n,args⟩))/\Bl w w':=by
 obtain ⟨-,ia,ib,id,-⟩:=hi
 dsimp only at ia ib id
 have il:=bj ia
 have ng:=bj ib
 have pX:=bj id
 clear ia ib id
 have bM:Θ (Bl w (eW w m P C K p c k cs.length ms.length A B x y ⟨22,a,b,d,n,args⟩ Q q)):=((Bl.refl _).alloc _).alloc _
 have HM:=bj (fF w m P C K p c k cs.length ms.length A B x y ⟨22,a,b,d,n,args⟩ Q q)
 have HI:=bj (fp w m P C K p c k cs.length ms.length A B x y ⟨22,a,b,d,n,args⟩ Q q)
 have hb:cA cs ms m.regs m.ret.kind ⟨22,a,b,d,n,args⟩=aQ m.regs (1) [a]:=rfl
 rw [hb]
 obtain ⟨R,hR⟩:∃R,aQ m.regs (1) [a]=R:=⟨_,rfl⟩
 rw [hR]
 clear hb
 go_enter func180,ntmps180
 go_wp2_with (go_at_call 221;refine (aP m _ _ _ _ _ _ _ _ _ _ _ _ _ _ _ [a] _ h1 h2 (bz (by simp [World.size_alloc]) il.o)).mono ?_;rintro e w1 ⟨he,g1⟩;rw [hR] at he;subst he)
 go_ret
 exact ⟨rfl,(bM.o.alloc _).trans g1⟩
theorem OY (h1:1<=m.regs) (h2:m.regs<=90) (hi:(In.mk 2 a b d n args).ok) :
  χ 180 #[n8 m P C K p c k cs.length ms.length A B x y,pg ⟨2,a,b,d,n,args⟩ Q q] w fun e w'=>e=.returned (.bool (cA cs ms m.regs m.ret.kind ⟨2,a,b,d,n,args⟩))/\Bl w w':=by
 obtain ⟨-,ia,ib,id,-⟩:=hi
 dsimp only at ia ib id
 have il:=bj ia
 have ng:=bj ib
 have pX:=bj id
 clear ia ib id
 have bM:Θ (Bl w (eW w m P C K p c k cs.length ms.length A B x y ⟨2,a,b,d,n,args⟩ Q q)):=((Bl.refl _).alloc _).alloc _
 have HM:=bj (fF w m P C K p c k cs.length ms.length A B x y ⟨2,a,b,d,n,args⟩ Q q)
 have HI:=bj (fp w m P C K p c k cs.length ms.length A B x y ⟨2,a,b,d,n,args⟩ Q q)
 have hb:cA cs ms m.regs m.ret.kind ⟨2,a,b,d,n,args⟩=aQ m.regs (2) [a]:=rfl
 rw [hb]
 obtain ⟨R,hR⟩:∃R,aQ m.regs (2) [a]=R:=⟨_,rfl⟩
 rw [hR]
 clear hb
 go_enter func180,ntmps180
 go_wp2_with (go_at_call 221;refine (aP m _ _ _ _ _ _ _ _ _ _ _ _ _ _ _ [a] _ h1 h2 (bz (by simp [World.size_alloc]) il.o)).mono ?_;rintro e w1 ⟨he,g1⟩;rw [hR] at he;subst he)
 go_ret
 exact ⟨rfl,(bM.o.alloc _).trans g1⟩
theorem LB (h1:1<=m.regs) (h2:m.regs<=90) (hi:(In.mk 24 a b d n args).ok) :
  χ 180 #[n8 m P C K p c k cs.length ms.length A B x y,pg ⟨24,a,b,d,n,args⟩ Q q] w fun e w'=>e=.returned (.bool (cA cs ms m.regs m.ret.kind ⟨24,a,b,d,n,args⟩))/\Bl w w':=by
 obtain ⟨-,ia,ib,id,-⟩:=hi
 dsimp only at ia ib id
 have il:=bj ia
 have ng:=bj ib
 have pX:=bj id
 clear ia ib id
 have bM:Θ (Bl w (eW w m P C K p c k cs.length ms.length A B x y ⟨24,a,b,d,n,args⟩ Q q)):=((Bl.refl _).alloc _).alloc _
 have HM:=bj (fF w m P C K p c k cs.length ms.length A B x y ⟨24,a,b,d,n,args⟩ Q q)
 have HI:=bj (fp w m P C K p c k cs.length ms.length A B x y ⟨24,a,b,d,n,args⟩ Q q)
 have hb:cA cs ms m.regs m.ret.kind ⟨24,a,b,d,n,args⟩=aQ m.regs (2) [a]:=rfl
 rw [hb]
 obtain ⟨R,hR⟩:∃R,aQ m.regs (2) [a]=R:=⟨_,rfl⟩
 rw [hR]
 clear hb
 go_enter func180,ntmps180
 go_wp2_with (go_at_call 221;refine (aP m _ _ _ _ _ _ _ _ _ _ _ _ _ _ _ [a] _ h1 h2 (bz (by simp [World.size_alloc]) il.o)).mono ?_;rintro e w1 ⟨he,g1⟩;rw [hR] at he;subst he)
 go_ret
 exact ⟨rfl,(bM.o.alloc _).trans g1⟩
theorem OZ (h1:1<=m.regs) (h2:m.regs<=90) (hi:(In.mk 4 a b d n args).ok) :
  χ 180 #[n8 m P C K p c k cs.length ms.length A B x y,pg ⟨4,a,b,d,n,args⟩ Q q] w fun e w'=>e=.returned (.bool (cA cs ms m.regs m.ret.kind ⟨4,a,b,d,n,args⟩))/\Bl w w':=by
 obtain ⟨-,ia,ib,id,-⟩:=hi
 dsimp only at ia ib id
 have il:=bj ia
 have ng:=bj ib
 have pX:=bj id
 clear ia ib id
 have bM:Θ (Bl w (eW w m P C K p c k cs.length ms.length A B x y ⟨4,a,b,d,n,args⟩ Q q)):=((Bl.refl _).alloc _).alloc _
 have HM:=bj (fF w m P C K p c k cs.length ms.length A B x y ⟨4,a,b,d,n,args⟩ Q q)
 have HI:=bj (fp w m P C K p c k cs.length ms.length A B x y ⟨4,a,b,d,n,args⟩ Q q)
 have hb:cA cs ms m.regs m.ret.kind ⟨4,a,b,d,n,args⟩=aQ m.regs (d) [a,b]:=rfl
 rw [hb]
 obtain ⟨R,hR⟩:∃R,aQ m.regs (d) [a,b]=R:=⟨_,rfl⟩
 rw [hR]
 clear hb
 go_enter func180,ntmps180
 go_wp2_with (go_at_call 221;refine (aP m _ _ _ _ _ _ _ _ _ _ _ _ _ _ _ [a,b] _ h1 h2 (sj (by simp [World.size_alloc]) il.o ng.o)).mono ?_;rintro e w1 ⟨he,g1⟩;rw [hR] at he;subst he)
 go_ret
 exact ⟨rfl,(bM.o.alloc _).trans g1⟩
end
section
variable (cs:List Cl) (ms:List Me) (A B:Option Addr) (x y:Nat) (m:Me) (P C K:Option Addr) (p c k:Nat) (a b d n:Int) (args:List Int) (Q:Option Addr) (q:Nat) (w:World)
theorem Ou (h1:1<=m.regs) (h2:m.regs<=90) (hi:(In.mk 5 a b d n args).ok) :
  χ 180 #[n8 m P C K p c k cs.length ms.length A B x y,pg ⟨5,a,b,d,n,args⟩ Q q] w fun e w'=>e=.returned (.bool (cA cs ms m.regs m.ret.kind ⟨5,a,b,d,n,args⟩))/\Bl w w':=by
 obtain ⟨-,ia,ib,id,-⟩:=hi
 dsimp only at ia ib id
 have il:=bj ia
 have ng:=bj ib
 have pX:=bj id
 clear ia ib id
 have bM:Θ (Bl w (eW w m P C K p c k cs.length ms.length A B x y ⟨5,a,b,d,n,args⟩ Q q)):=((Bl.refl _).alloc _).alloc _
 have HM:=bj (fF w m P C K p c k cs.length ms.length A B x y ⟨5,a,b,d,n,args⟩ Q q)
 have HI:=bj (fp w m P C K p c k cs.length ms.length A B x y ⟨5,a,b,d,n,args⟩ Q q)
 have hb:cA cs ms m.regs m.ret.kind ⟨5,a,b,d,n,args⟩=aQ m.regs (1) [a,b,d]:=rfl
 rw [hb]
 obtain ⟨R,hR⟩:∃R,aQ m.regs (1) [a,b,d]=R:=⟨_,rfl⟩
 rw [hR]
 clear hb
 go_enter func180,ntmps180
 go_wp2_with (go_at_call 221;refine (aP m _ _ _ _ _ _ _ _ _ _ _ _ _ _ _ [a,b,d] _ h1 h2 (sk (by simp [World.size_alloc]) il.o ng.o pX.o)).mono ?_;rintro e w1 ⟨he,g1⟩;rw [hR] at he;subst he)
 go_ret
 exact ⟨rfl,(bM.o.alloc _).trans g1⟩
theorem O0 (h1:1<=m.regs) (h2:m.regs<=90) (hi:(In.mk 6 a b d n args).ok) :
  χ 180 #[n8 m P C K p c k cs.length ms.length A B x y,pg ⟨6,a,b,d,n,args⟩ Q q] w fun e w'=>e=.returned (.bool (cA cs ms m.regs m.ret.kind ⟨6,a,b,d,n,args⟩))/\Bl w w':=by
 obtain ⟨-,ia,ib,id,-⟩:=hi
 dsimp only at ia ib id
 have il:=bj ia
 have ng:=bj ib
 have pX:=bj id
 clear ia ib id
 have bM:Θ (Bl w (eW w m P C K p c k cs.length ms.length A B x y ⟨6,a,b,d,n,args⟩ Q q)):=((Bl.refl _).alloc _).alloc _
 have HM:=bj (fF w m P C K p c k cs.length ms.length A B x y ⟨6,a,b,d,n,args⟩ Q q)
 have HI:=bj (fp w m P C K p c k cs.length ms.length A B x y ⟨6,a,b,d,n,args⟩ Q q)
 have hb:cA cs ms m.regs m.ret.kind ⟨6,a,b,d,n,args⟩=aQ m.regs (2) [a,b,d]:=rfl
 rw [hb]
 obtain ⟨R,hR⟩:∃R,aQ m.regs (2) [a,b,d]=R:=⟨_,rfl⟩
 rw [hR]
 clear hb
 go_enter func180,ntmps180
 go_wp2_with (go_at_call 221;refine (aP m _ _ _ _ _ _ _ _ _ _ _ _ _ _ _ [a,b,d] _ h1 h2 (sk (by simp [World.size_alloc]) il.o ng.o pX.o)).mono ?_;rintro e w1 ⟨he,g1⟩;rw [hR] at he;subst he)
 go_ret
 exact ⟨rfl,(bM.o.alloc _).trans g1⟩
theorem LD (h1:1<=m.regs) (h2:m.regs<=90) (hi:(In.mk 11 a b d n args).ok) :
  χ 180 #[n8 m P C K p c k cs.length ms.length A B x y,pg ⟨11,a,b,d,n,args⟩ Q q] w fun e w'=>e=.returned (.bool (cA cs ms m.regs m.ret.kind ⟨11,a,b,d,n,args⟩))/\Bl w w':=by
 obtain ⟨-,ia,ib,id,-⟩:=hi
 dsimp only at ia ib id
 have il:=bj ia
 have ng:=bj ib
 have pX:=bj id
 clear ia ib id
 have bM:Θ (Bl w (eW w m P C K p c k cs.length ms.length A B x y ⟨11,a,b,d,n,args⟩ Q q)):=((Bl.refl _).alloc _).alloc _
 have HM:=bj (fF w m P C K p c k cs.length ms.length A B x y ⟨11,a,b,d,n,args⟩ Q q)
 have HI:=bj (fp w m P C K p c k cs.length ms.length A B x y ⟨11,a,b,d,n,args⟩ Q q)
 have hb:cA cs ms m.regs m.ret.kind ⟨11,a,b,d,n,args⟩=aQ m.regs (1) [d]:=rfl
 rw [hb]
 obtain ⟨R,hR⟩:∃R,aQ m.regs (1) [d]=R:=⟨_,rfl⟩
 rw [hR]
 clear hb
 go_enter func180,ntmps180
 go_wp2_with (go_at_call 221;refine (aP m _ _ _ _ _ _ _ _ _ _ _ _ _ _ _ [d] _ h1 h2 (bz (by simp [World.size_alloc]) pX.o)).mono ?_;rintro e w1 ⟨he,g1⟩;rw [hR] at he;subst he)
 go_ret
 exact ⟨rfl,(bM.o.alloc _).trans g1⟩
theorem LF (h1:1<=m.regs) (h2:m.regs<=90) (hi:(In.mk 12 a b d n args).ok) :
  χ 180 #[n8 m P C K p c k cs.length ms.length A B x y,pg ⟨12,a,b,d,n,args⟩ Q q] w fun e w'=>e=.returned (.bool (cA cs ms m.regs m.ret.kind ⟨12,a,b,d,n,args⟩))/\Bl w w':=by
 obtain ⟨-,ia,ib,id,-⟩:=hi
 dsimp only at ia ib id
 have il:=bj ia
 have ng:=bj ib
 have pX:=bj id
 clear ia ib id
 have bM:Θ (Bl w (eW w m P C K p c k cs.length ms.length A B x y ⟨12,a,b,d,n,args⟩ Q q)):=((Bl.refl _).alloc _).alloc _
 have HM:=bj (fF w m P C K p c k cs.length ms.length A B x y ⟨12,a,b,d,n,args⟩ Q q)
 have HI:=bj (fp w m P C K p c k cs.length ms.length A B x y ⟨12,a,b,d,n,args⟩ Q q)
 have hb:cA cs ms m.regs m.ret.kind ⟨12,a,b,d,n,args⟩=aQ m.regs (1) [d]:=rfl
 rw [hb]
 obtain ⟨R,hR⟩:∃R,aQ m.regs (1) [d]=R:=⟨_,rfl⟩
 rw [hR]
 clear hb
 go_enter func180,ntmps180
 go_wp2_with (go_at_call 221;refine (aP m _ _ _ _ _ _ _ _ _ _ _ _ _ _ _ [d] _ h1 h2 (bz (by simp [World.size_alloc]) pX.o)).mono ?_;rintro e w1 ⟨he,g1⟩;rw [hR] at he;subst he)
 go_ret
 exact ⟨rfl,(bM.o.alloc _).trans g1⟩
theorem LG (h1:1<=m.regs) (h2:m.regs<=90) (hi:(In.mk 17 a b d n args).ok) :
  χ 180 #[n8 m P C K p c k cs.length ms.length A B x y,pg ⟨17,a,b,d,n,args⟩ Q q] w fun e w'=>e=.returned (.bool (cA cs ms m.regs m.ret.kind ⟨17,a,b,d,n,args⟩))/\Bl w w':=by
 obtain ⟨-,ia,ib,id,-⟩:=hi
 dsimp only at ia ib id
 have il:=bj ia
 have ng:=bj ib
 have pX:=bj id
 clear ia ib id
 have bM:Θ (Bl w (eW w m P C K p c k cs.length ms.length A B x y ⟨17,a,b,d,n,args⟩ Q q)):=((Bl.refl _).alloc _).alloc _
 have HM:=bj (fF w m P C K p c k cs.length ms.length A B x y ⟨17,a,b,d,n,args⟩ Q q)
 have HI:=bj (fp w m P C K p c k cs.length ms.length A B x y ⟨17,a,b,d,n,args⟩ Q q)
 have hb:cA cs ms m.regs m.ret.kind ⟨17,a,b,d,n,args⟩=aQ m.regs (1) [a,b]:=rfl
 rw [hb]
 obtain ⟨R,hR⟩:∃R,aQ m.regs (1) [a,b]=R:=⟨_,rfl⟩
 rw [hR]
 clear hb
 go_enter func180,ntmps180
 go_wp2_with (go_at_call 221;refine (aP m _ _ _ _ _ _ _ _ _ _ _ _ _ _ _ [a,b] _ h1 h2 (sj (by simp [World.size_alloc]) il.o ng.o)).mono ?_;rintro e w1 ⟨he,g1⟩;rw [hR] at he;subst he)
 go_ret
 exact ⟨rfl,(bM.o.alloc _).trans g1⟩
theorem LH (h1:1<=m.regs) (h2:m.regs<=90) (hi:(In.mk 19 a b d n args).ok) :
  χ 180 #[n8 m P C K p c k cs.length ms.length A B x y,pg ⟨19,a,b,d,n,args⟩ Q q] w fun e w'=>e=.returned (.bool (cA cs ms m.regs m.ret.kind ⟨19,a,b,d,n,args⟩))/\Bl w w':=by
 obtain ⟨-,ia,ib,id,-⟩:=hi
 dsimp only at ia ib id
 have il:=bj ia
 have ng:=bj ib
 have pX:=bj id
 clear ia ib id
 have bM:Θ (Bl w (eW w m P C K p c k cs.length ms.length A B x y ⟨19,a,b,d,n,args⟩ Q q)):=((Bl.refl _).alloc _).alloc _
 have HM:=bj (fF w m P C K p c k cs.length ms.length A B x y ⟨19,a,b,d,n,args⟩ Q q)
 have HI:=bj (fp w m P C K p c k cs.length ms.length A B x y ⟨19,a,b,d,n,args⟩ Q q)
 have hb:cA cs ms m.regs m.ret.kind ⟨19,a,b,d,n,args⟩=aQ m.regs (b) [a]:=rfl
 rw [hb]
 obtain ⟨R,hR⟩:∃R,aQ m.regs (b) [a]=R:=⟨_,rfl⟩
 rw [hR]
 clear hb
 go_enter func180,ntmps180
 go_wp2_with (go_at_call 221;refine (aP m _ _ _ _ _ _ _ _ _ _ _ _ _ _ _ [a] _ h1 h2 (bz (by simp [World.size_alloc]) il.o)).mono ?_;rintro e w1 ⟨he,g1⟩;rw [hR] at he;subst he)
 go_ret
 exact ⟨rfl,(bM.o.alloc _).trans g1⟩
theorem LI (h1:1<=m.regs) (h2:m.regs<=90) (hi:(In.mk 23 a b d n args).ok) :
  χ 180 #[n8 m P C K p c k cs.length ms.length A B x y,pg ⟨23,a,b,d,n,args⟩ Q q] w fun e w'=>e=.returned (.bool (cA cs ms m.regs m.ret.kind ⟨23,a,b,d,n,args⟩))/\Bl w w':=by
 obtain ⟨-,ia,ib,id,-⟩:=hi
 dsimp only at ia ib id
 have il:=bj ia
 have ng:=bj ib
 have pX:=bj id
 clear ia ib id
 have bM:Θ (Bl w (eW w m P C K p c k cs.length ms.length A B x y ⟨23,a,b,d,n,args⟩ Q q)):=((Bl.refl _).alloc _).alloc _
 have HM:=bj (fF w m P C K p c k cs.length ms.length A B x y ⟨23,a,b,d,n,args⟩ Q q)
 have HI:=bj (fp w m P C K p c k cs.length ms.length A B x y ⟨23,a,b,d,n,args⟩ Q q)
 have hb:cA cs ms m.regs m.ret.kind ⟨23,a,b,d,n,args⟩=aQ m.regs (b) [a]:=rfl
 rw [hb]
 obtain ⟨R,hR⟩:∃R,aQ m.regs (b) [a]=R:=⟨_,rfl⟩
 rw [hR]
 clear hb
 go_enter func180,ntmps180
 go_wp2_with (go_at_call 221;refine (aP m _ _ _ _ _ _ _ _ _ _ _ _ _ _ _ [a] _ h1 h2 (bz (by simp [World.size_alloc]) il.o)).mono ?_;rintro e w1 ⟨he,g1⟩;rw [hR] at he;subst he)
 go_ret
 exact ⟨rfl,(bM.o.alloc _).trans g1⟩
end
section
variable (cs:List Cl) (ms:List Me) (A B:Option Addr) (x y:Nat) (m:Me) (P C K:Option Addr) (p c k:Nat) (a b d n:Int) (args:List Int) (Q:Option Addr) (q:Nat) (w:World)
theorem O3 (h1:1<=m.regs) (h2:m.regs<=90) (hi:(In.mk 7 a b d n args).ok) :
  χ 180 #[n8 m P C K p c k cs.length ms.length A B x y,pg ⟨7,a,b,d,n,args⟩ Q q] w fun e w'=>e=.returned (.bool (cA cs ms m.regs m.ret.kind ⟨7,a,b,d,n,args⟩))/\Bl w w':=by
 obtain ⟨-,ia,ib,id,-⟩:=hi
 dsimp only at ia ib id
 have il:=bj ia
 have ng:=bj ib
 have pX:=bj id
 clear ia ib id
 have bM:Θ (Bl w (eW w m P C K p c k cs.length ms.length A B x y ⟨7,a,b,d,n,args⟩ Q q)):=((Bl.refl _).alloc _).alloc _
 have HM:=bj (fF w m P C K p c k cs.length ms.length A B x y ⟨7,a,b,d,n,args⟩ Q q)
 have HI:=bj (fp w m P C K p c k cs.length ms.length A B x y ⟨7,a,b,d,n,args⟩ Q q)
 have hb:cA cs ms m.regs m.ret.kind ⟨7,a,b,d,n,args⟩=(aQ m.regs 2 [a]&&aQ m.regs 1 [b]):=rfl
 rw [hb]
 obtain ⟨R,hR⟩:∃R,aQ m.regs 2 [a]=R:=⟨_,rfl⟩
 obtain ⟨S,hS⟩:∃S,aQ m.regs 1 [b]=S:=⟨_,rfl⟩
 rw [hR,hS]
 clear hb
 cases R
 ·rw [Bool.false_and]
  go_enter func180,ntmps180
  go_wp2_with (go_at_call 221;refine (aP m _ _ _ _ _ _ _ _ _ _ _ _ _ _ _ [a] _ h1 h2 (bz (by simp [World.size_alloc]) il.o)).mono ?_;rintro e w1 ⟨he,g1⟩;rw [hR] at he;subst he)
  go_ret
  exact ⟨rfl,(bM.o.alloc _).trans g1⟩
 ·rw [Bool.true_and]
  go_enter func180,ntmps180
  go_wp2_with (first
   | (have:=g1;(go_at_call 221;refine (aP m _ _ _ _ _ _ _ _ _ _ _ _ _ _ _ [b] _ h1 h2 (bz (by simp [World.size_alloc]) ng.o)).mono ?_;rintro e w2 ⟨he,g2⟩;rw [hS] at he;subst he))
   | (go_at_call 221;refine (aP m _ _ _ _ _ _ _ _ _ _ _ _ _ _ _ [a] _ h1 h2 (bz (by simp [World.size_alloc]) il.o)).mono ?_;rintro e w1 ⟨he,g1⟩;rw [hR] at he;subst he;obtain ⟨e0,e1,e2,e3,e4,e5,e6,e7,e8,e9⟩:=HM.o.bl (((Bl.refl _).alloc _).trans g1);obtain ⟨f0,f1,f2,f3,f4,f5⟩:=HI.o.bl (((Bl.refl _).alloc _).trans g1);dsimp only at f0 f1 f2 f3 f4 f5))
  go_ret
  exact ⟨rfl,(((bM.o.alloc _).trans g1).alloc _).trans g2⟩
theorem O4 (h1:1<=m.regs) (h2:m.regs<=90) (hi:(In.mk 8 a b d n args).ok) :
  χ 180 #[n8 m P C K p c k cs.length ms.length A B x y,pg ⟨8,a,b,d,n,args⟩ Q q] w fun e w'=>e=.returned (.bool (cA cs ms m.regs m.ret.kind ⟨8,a,b,d,n,args⟩))/\Bl w w':=by
 obtain ⟨-,ia,ib,id,-⟩:=hi
 dsimp only at ia ib id
 have il:=bj ia
 have ng:=bj ib
 have pX:=bj id
 clear ia ib id
 have bM:Θ (Bl w (eW w m P C K p c k cs.length ms.length A B x y ⟨8,a,b,d,n,args⟩ Q q)):=((Bl.refl _).alloc _).alloc _
 have HM:=bj (fF w m P C K p c k cs.length ms.length A B x y ⟨8,a,b,d,n,args⟩ Q q)
 have HI:=bj (fp w m P C K p c k cs.length ms.length A B x y ⟨8,a,b,d,n,args⟩ Q q)
 have hb:cA cs ms m.regs m.ret.kind ⟨8,a,b,d,n,args⟩=(aQ m.regs 1 [a]&&aQ m.regs 2 [b]):=rfl
 rw [hb]
 obtain ⟨R,hR⟩:∃R,aQ m.regs 1 [a]=R:=⟨_,rfl⟩
 obtain ⟨S,hS⟩:∃S,aQ m.regs 2 [b]=S:=⟨_,rfl⟩
 rw [hR,hS]
 clear hb
 cases R
 ·rw [Bool.false_and]
  go_enter func180,ntmps180
  go_wp2_with (go_at_call 221;refine (aP m _ _ _ _ _ _ _ _ _ _ _ _ _ _ _ [a] _ h1 h2 (bz (by simp [World.size_alloc]) il.o)).mono ?_;rintro e w1 ⟨he,g1⟩;rw [hR] at he;subst he)
  go_ret
  exact ⟨rfl,(bM.o.alloc _).trans g1⟩
 ·rw [Bool.true_and]
  go_enter func180,ntmps180
  go_wp2_with (first
   | (have:=g1;(go_at_call 221;refine (aP m _ _ _ _ _ _ _ _ _ _ _ _ _ _ _ [b] _ h1 h2 (bz (by simp [World.size_alloc]) ng.o)).mono ?_;rintro e w2 ⟨he,g2⟩;rw [hS] at he;subst he))
   | (go_at_call 221;refine (aP m _ _ _ _ _ _ _ _ _ _ _ _ _ _ _ [a] _ h1 h2 (bz (by simp [World.size_alloc]) il.o)).mono ?_;rintro e w1 ⟨he,g1⟩;rw [hR] at he;subst he;obtain ⟨e0,e1,e2,e3,e4,e5,e6,e7,e8,e9⟩:=HM.o.bl (((Bl.refl _).alloc _).trans g1);obtain ⟨f0,f1,f2,f3,f4,f5⟩:=HI.o.bl (((Bl.refl _).alloc _).trans g1);dsimp only at f0 f1 f2 f3 f4 f5))
  go_ret
  exact ⟨rfl,(((bM.o.alloc _).trans g1).alloc _).trans g2⟩
theorem O7 (h1:1<=m.regs) (h2:m.regs<=90) (hi:(In.mk 9 a b d n args).ok) :
  χ 180 #[n8 m P C K p c k cs.length ms.length A B x y,pg ⟨9,a,b,d,n,args⟩ Q q] w fun e w'=>e=.returned (.bool (cA cs ms m.regs m.ret.kind ⟨9,a,b,d,n,args⟩))/\Bl w w':=by
 obtain ⟨-,ia,ib,id,-⟩:=hi
 dsimp only at ia ib id
 have il:=bj ia
 have ng:=bj ib
 have pX:=bj id
 clear ia ib id
 have bM:Θ (Bl w (eW w m P C K p c k cs.length ms.length A B x y ⟨9,a,b,d,n,args⟩ Q q)):=((Bl.refl _).alloc _).alloc _
 have HM:=bj (fF w m P C K p c k cs.length ms.length A B x y ⟨9,a,b,d,n,args⟩ Q q)
 have HI:=bj (fp w m P C K p c k cs.length ms.length A B x y ⟨9,a,b,d,n,args⟩ Q q)
 have hb:cA cs ms m.regs m.ret.kind ⟨9,a,b,d,n,args⟩=(aQ m.regs 1 [a]&&aQ m.regs 2 [b,d]):=rfl
 rw [hb]
 obtain ⟨R,hR⟩:∃R,aQ m.regs 1 [a]=R:=⟨_,rfl⟩
 obtain ⟨S,hS⟩:∃S,aQ m.regs 2 [b,d]=S:=⟨_,rfl⟩
 rw [hR,hS]
 clear hb
 cases R
 ·rw [Bool.false_and]
  go_enter func180,ntmps180
  go_wp2_with (go_at_call 221;refine (aP m _ _ _ _ _ _ _ _ _ _ _ _ _ _ _ [a] _ h1 h2 (bz (by simp [World.size_alloc]) il.o)).mono ?_;rintro e w1 ⟨he,g1⟩;rw [hR] at he;subst he)
  go_ret
  exact ⟨rfl,(bM.o.alloc _).trans g1⟩
 ·rw [Bool.true_and]
  go_enter func180,ntmps180
  go_wp2_with (first
   | (have:=g1;(go_at_call 221;refine (aP m _ _ _ _ _ _ _ _ _ _ _ _ _ _ _ [b,d] _ h1 h2 (sj (by simp [World.size_alloc]) ng.o pX.o)).mono ?_;rintro e w2 ⟨he,g2⟩;rw [hS] at he;subst he))
   | (go_at_call 221;refine (aP m _ _ _ _ _ _ _ _ _ _ _ _ _ _ _ [a] _ h1 h2 (bz (by simp [World.size_alloc]) il.o)).mono ?_;rintro e w1 ⟨he,g1⟩;rw [hR] at he;subst he;obtain ⟨e0,e1,e2,e3,e4,e5,e6,e7,e8,e9⟩:=HM.o.bl (((Bl.refl _).alloc _).trans g1);obtain ⟨f0,f1,f2,f3,f4,f5⟩:=HI.o.bl (((Bl.refl _).alloc _).trans g1);dsimp only at f0 f1 f2 f3 f4 f5))
  go_ret
  exact ⟨rfl,(((bM.o.alloc _).trans g1).alloc _).trans g2⟩
end
theorem kY {w w':World} (h:Bl w w'):Bl w w'.drew:=h.drew
section
variable {ms:List Me} {regs:Int} {i:In}
theorem D9 {j:Nat} (hj:j<i.args.length) (h:aQ regs (nth bS (nth bT ms i.a.toNat).params j).kind [nth (0:Int) i.args j]=false):fk ms regs i=false:=by
 unfold fk
 have:(List.range i.args.length).all (fun k=>aQ regs (nth bS (nth bT ms i.a.toNat).params k).kind [nth (0:Int) i.args k])=false:=by
  rw [List.all_eq_false];exact ⟨j,List.mem_range.2 hj,by rw [h];decide⟩
 rw [this,Bool.and_false]
theorem AF (h0:0<=i.a/\i.a<ms.length/\i.args.length=(nth bT ms i.a.toNat).params.length) (h:∀j,j<i.args.length->aQ regs (nth bS (nth bT ms i.a.toNat).params j).kind [nth (0:Int) i.args j]=true):fk ms regs i=true:=by
 unfold fk
 rw [decide_eq_true h0,Bool.true_and,List.all_eq_true]
 exact fun j hj=>h j (List.mem_range.1 hj)
end
theorem Ea (m:Me) (P C K:Option Addr) (p c k nc:Nat) (ms:List Me) (A B:Option Addr) (x y:Nat) (i:In) (Q:Option Addr) (q:Nat) (w:World) (h1:1<=m.regs) (h2:m.regs<=90) (hB:cz w B ms) (hQ:aU w Q i.args) :
  χ 223 #[n8 m P C K p c k nc ms.length A B x y,pg i Q q] w fun e w'=>e=.returned (.bool (fk ms m.regs i))/\Bl w w':=by
 have bM:Θ (Bl w (eW w m P C K p c k nc ms.length A B x y i Q q)):=((Bl.refl _).alloc _).alloc _
 have HM:=bj (fF w m P C K p c k nc ms.length A B x y i Q q)
 have HI:=bj (fp w m P C K p c k nc ms.length A B x y i Q q)
 have HB:Θ (cz w B ms):=hB
 have HQ:Θ (aU w Q i.args):=hQ
 have iL:=hB.1
 have W6:=hQ.1
 unfold maxLen at iL W6
 clear hB hQ
 by_cases ha:0<=i.a/\i.a<ms.length
 ·have da:decide (0<=i.a/\i.a<(ms.length:Int))=true:=decide_eq_true ha
  obtain ⟨n,hn⟩:∃n:Nat,i.a=n:=⟨i.a.toNat,by omega⟩
  rcases (HB.o.bl bM.o).2 with h0|⟨mb,mo,W7,hc⟩
  ·omega
  obtain ⟨P',C',K',p',c',k',c0,-,-,-,-,-,-,-,hme⟩:=hc n (by omega)
  have HP:Θ (cX (eW w m P C K p c k nc ms.length A B x y i Q q) P' (nth bT ms n).params):=hme.1
  have CP:=hme.1.1
  unfold maxLen at CP
  have KJ:i.a.toNat=n:=by omega
  have jP:Θ (∀j,j<i.args.length->aQ m.regs (nth bS (nth bT ms n).params j).kind [nth (0:Int) i.args j]=false->fk ms m.regs i=false):=fun j hj hf=>D9 hj (by rw [KJ];exact hf)
  have BX:Θ (i.args.length=(nth bT ms n).params.length->(∀j,j<i.args.length->aQ m.regs (nth bS (nth bT ms n).params j).kind [nth (0:Int) i.args j]=true)->fk ms m.regs i=true):=fun he hf=>AF ⟨ha.1,ha.2,by rw [KJ];exact he⟩ (by rw [KJ];exact hf)
  have ll:Θ (i.args.length≠(nth bT ms n).params.length->fk ms m.regs i=false):=fun he=>by
   unfold fk;rw [decide_eq_false (by rw [KJ];exact fun h=>he h.2.2),Bool.false_and]
  obtain ⟨RR,Q5⟩:∃RR,fk ms m.regs i=RR:=⟨_,rfl⟩
  rw [Q5] at jP BX ll ⊢
  generalize Zi:(nth bT ms n).params=PL at *
  clear Q5 hc hme Zi
  by_cases hl:i.args.length=PL.length
  ·have dl:((i.args.length:Int) !=(PL.length:Int))=false:=by simp [hl]
   have HL:Θ (i.args.length=PL.length):=hl
   have HG:=bj (BX.o hl)
   clear BX ll hl W6
   subst W7
   obtain ⟨op,ia,ib,ic,iN,args⟩:=i
   dsimp only at *
   subst hn
   go_enter func223,ntmps223
   go_wp2_with (go_at_call 97;refine (bk _ _ _).mono ?_;rintro e w0 ⟨he,gH⟩;rw [da] at he;subst he;rw [gH];clear gH w0)
   go_loopw [32] (fun j wr=>∃jj:Nat,jj<=PL.length/\j=ι jj/\Θ (∀u,u<jj->aQ m.regs (nth bS PL u).kind [nth (0:Int) args u]=true)/\Θ (Bl w wr)/\Θ (cX wr P' PL)/\Θ (D6 wr w.heap.size m P C K p c k nc ms.length A (some ⟨mb,mo,none⟩) x y)/\Θ (Lv wr (w.heap.size+1) ⟨op,n,ib,ic,iN,args⟩ Q q)) (fun j _=>PL.length-(intOf j).toNat)
   case atStart=>exact ⟨0,Nat.zero_le _,rfl,fun j hj=>absurd hj (Nat.not_lt_zero _),bM.o,HP.o,HM.o,HI.o⟩
   case round =>
    clear bM HM HI HP c0
    obtain ⟨j,hj,rfl,lq,hg,HP,HM,HI⟩:=hrel
    by_cases ij:j<PL.length
    ·rcases HP.o.2 with h0|⟨tb,to,rfl,hcell⟩
     ·omega
     obtain ⟨t0,t1,-,-⟩:=hcell j ij
     have SN:j<args.length:=by rw [HL.o];exact ij
     rcases (HQ.o.bl hg.o).2 with h0|⟨qb,qo,rfl,W8⟩
     ·omega
     have O8:=W8 j SN
     have UC:Θ (aQ m.regs (nth bS PL j).kind [nth (0:Int) args j]=false->RR=false):=jP.o j SN
     generalize ht:nth bS PL j=t at *
     generalize hX:nth (0:Int) args j=X at *
     have W9:Θ (nth bS PL j=t/\nth (0:Int) args j=X):=⟨ht,hX⟩
     have SQ:=bj O8.2
     have HT:Θ (∀w',Bl (wr.alloc (.cells #[ι t.kind,ι t.cls] 45)) w'->(fun w'=>Θ (Bl (wr.alloc (.cells #[ι t.kind,ι t.cls] 45)) w')/\w'.cell? ⟨w.heap.size,0,none⟩=some (.slice P m.params.length p)/\w'.cell? ⟨w.heap.size,1,none⟩=some (ι m.ret.kind)/\w'.cell? ⟨w.heap.size,2,none⟩=some (ι m.ret.cls)/\w'.cell? ⟨w.heap.size,3,none⟩=some (ι m.stack)/\w'.cell? ⟨w.heap.size,4,none⟩=some (ι m.locs)/\w'.cell? ⟨w.heap.size,5,none⟩=some (ι m.regs)/\w'.cell? ⟨w.heap.size,6,none⟩=some (.slice C m.code.length c)/\w'.cell? ⟨w.heap.size,7,none⟩=some (.slice K m.hands.length k)/\w'.cell? ⟨w.heap.size,8,none⟩=some (.slice A nc x)/\w'.cell? ⟨w.heap.size,9,none⟩=some (.slice (some ⟨mb,mo,none⟩) ms.length y)/\w'.cell? ⟨w.heap.size+1,5,none⟩=some (.slice (some ⟨qb,qo,none⟩) args.length q)/\w'.cell? ⟨wr.heap.size,0,none⟩=some (ι t.kind)/\w'.cell? ⟨qb,qo+j,none⟩=some (ι X)) w'):=fun w' hb=>by
      have zl:Bl wr w':=((Bl.refl wr).alloc _).trans hb
      have hm:=HM.o.bl zl
      have hi:=HI.o.bl zl
      exact ⟨hb,hm.m0,hm.m1,hm.m2,hm.m3,hm.m4,hm.m5,hm.m6,hm.m7,hm.m8,hm.m9,hi.i5,hb.cell (ai rfl),zl.cell O8.1⟩
     clear hcell W8 O8 ht hX jP
     obtain ⟨T,hT⟩:∃T,aQ m.regs t.kind [X]=T:=⟨_,rfl⟩
     cases T
     ·have HF:=UC.o hT
      clear HG UC
      go_wp2
      refine wp_region_held_drew (S:=fun w'=>Θ (Bl (wr.alloc (.cells #[ι t.kind,ι t.cls] 45)) w')/\κ w' w.heap.size 0 (.slice P m.params.length p)/\κ w' w.heap.size 1 (ι m.ret.kind)/\κ w' w.heap.size 2 (ι m.ret.cls)/\κ w' w.heap.size 3 (ι m.stack)/\κ w' w.heap.size 4 (ι m.locs)/\κ w' w.heap.size 5 (ι m.regs)/\κ w' w.heap.size 6 (.slice C m.code.length c)/\κ w' w.heap.size 7 (.slice K m.hands.length k)/\κ w' w.heap.size 8 (.slice A nc x)/\κ w' w.heap.size 9 (.slice (some ⟨mb,mo,none⟩) ms.length y)/\κ w' (w.heap.size+1) 5 (.slice (some ⟨qb,qo,none⟩) args.length q)/\κ w' wr.heap.size 0 (ι t.kind)/\κ w' qb (qo+j) (ι X)) (by kernel_rfl) ?_ (fun aa=>?_)
      ·exact HT.o _ (kY (Bl.refl _))
      iterate 8 (refine tn rfl (by kernel_rfl) (fun _ _ _ h=>h) (by intro _ h;go_split_ands;go_simp<;>with_reducible rfl) aa ?_;try simp only [aZ])
      refine aY (i:=8) (by kernel_rfl) rfl fun K hK=>?_
      go_wp2_with fail
      refine hK.out _ _ (HT.o _ (aa.1.o.alloc _)) (fun ah=>?_)
      try simp only [aZ]
      refine aY (i:=9) (by kernel_rfl) rfl fun K hK=>?_
      go_simp
      go_at_call 221
      refine (aP m _ _ _ _ _ _ _ _ _ _ _ _ _ _ _ [X] _ h1 h2 (aU.bl (kY (Bl.refl _)) (bz (by simp [World.size_alloc]) SQ.o))).mono ?_
      rintro e w1 ⟨he,g1⟩
      rw [hT] at he
      subst he
      go_wp2_with fail
      refine hK.out _ _ (HT.o _ (ah.1.o.trans g1)) (fun aH=>?_)
      try simp only [aZ]
      refine tn rfl (by kernel_rfl) (fun _ _ _ h=>h) (by intro _ h;go_split_ands;go_simp<;>with_reducible rfl) aH ?_
      try simp only [aZ]
      refine wpAnyH_done (by kernel_rfl) ?_ _
      go_wp2
      go_ret
      exact ⟨ag HF.symm,(hg.o.alloc _).trans aH.1.o⟩
     ·have tl:Θ (aQ m.regs t.kind [X]=true):=hT
      clear HG UC
      go_wp2
      refine wp_region_held_drew (S:=fun w'=>Θ (Bl (wr.alloc (.cells #[ι t.kind,ι t.cls] 45)) w')/\κ w' w.heap.size 0 (.slice P m.params.length p)/\κ w' w.heap.size 1 (ι m.ret.kind)/\κ w' w.heap.size 2 (ι m.ret.cls)/\κ w' w.heap.size 3 (ι m.stack)/\κ w' w.heap.size 4 (ι m.locs)/\κ w' w.heap.size 5 (ι m.regs)/\κ w' w.heap.size 6 (.slice C m.code.length c)/\κ w' w.heap.size 7 (.slice K m.hands.length k)/\κ w' w.heap.size 8 (.slice A nc x)/\κ w' w.heap.size 9 (.slice (some ⟨mb,mo,none⟩) ms.length y)/\κ w' (w.heap.size+1) 5 (.slice (some ⟨qb,qo,none⟩) args.length q)/\κ w' wr.heap.size 0 (ι t.kind)/\κ w' qb (qo+j) (ι X)) (by kernel_rfl) ?_ (fun aa=>?_)
      ·exact HT.o _ (kY (Bl.refl _))
      iterate 8 (refine tn rfl (by kernel_rfl) (fun _ _ _ h=>h) (by intro _ h;go_split_ands;go_simp<;>with_reducible rfl) aa ?_;try simp only [aZ])
      refine aY (i:=8) (by kernel_rfl) rfl fun K hK=>?_
      go_wp2_with fail
      refine hK.out _ _ (HT.o _ (aa.1.o.alloc _)) (fun ah=>?_)
      try simp only [aZ]
      refine aY (i:=9) (by kernel_rfl) rfl fun K hK=>?_
      go_simp
      go_at_call 221
      refine (aP m _ _ _ _ _ _ _ _ _ _ _ _ _ _ _ [X] _ h1 h2 (aU.bl (kY (Bl.refl _)) (bz (by simp [World.size_alloc]) SQ.o))).mono ?_
      rintro e w1 ⟨he,g1⟩
      rw [hT] at he
      subst he
      go_wp2_with fail
      refine hK.out _ _ (HT.o _ (ah.1.o.trans g1)) (fun aH=>?_)
      try simp only [aZ]
      refine tn rfl (by kernel_rfl) (fun _ _ _ h=>h) (by intro _ h;go_split_ands;go_simp<;>with_reducible rfl) aH ?_
      try simp only [aZ]
      refine wpAnyH_done (by kernel_rfl) ?_ _
      go_wp2
      go_roundw
      case rel=>exact ⟨j+1,by omega,by go_num,fun u hu=>if h:u<j then lq.o u h else by have:u=j:=(by omega);subst this;rw [W9.o.1,W9.o.2];exact tl.o,(hg.o.alloc _).trans aH.1.o,HP.o.bl (((Bl.refl wr).alloc _).trans aH.1.o),HM.o.bl (((Bl.refl wr).alloc _).trans aH.1.o),HI.o.bl (((Bl.refl wr).alloc _).trans aH.1.o)⟩
      case measure=>simp [intOf];omega
    ·have hkk:j=PL.length:=by omega
     subst hkk
     have HF:=HG.o (by rw [HL.o];exact lq.o)
     clear HG
     go_wp2
     go_ret
     exact ⟨ag HF.symm,hg.o⟩
  ·have dl:((i.args.length:Int) !=(PL.length:Int))=true:=by simpa using fun h=>hl (by omega)
   have HF:=ll.o hl
   clear BX ll jP hl
   subst W7
   obtain ⟨op,ia,ib,ic,iN,args⟩:=i
   dsimp only at *
   subst hn
   go_enter func223,ntmps223
   go_wp2_with (go_at_call 97;refine (bk _ _ _).mono ?_;rintro e w0 ⟨he,gH⟩;rw [da] at he;subst he;rw [gH];clear gH w0)
   go_ret
   exact ⟨ag HF.symm,bM.o⟩
 ·have da:decide (0<=i.a/\i.a<(ms.length:Int))=false:=decide_eq_false ha
  have hb:fk ms m.regs i=false:=by unfold fk;rw [decide_eq_false (fun h=>ha ⟨h.1,h.2.1⟩),Bool.false_and]
  rw [hb]
  clear hb
  go_enter func223,ntmps223
  go_wp2_with (go_at_call 97;refine (bk _ _ _).mono ?_;rintro e w0 ⟨he,gH⟩;rw [da] at he;subst he;rw [gH];clear gH w0)
  go_ret
  exact ⟨rfl,bM.o⟩
theorem LJ (cs:List Cl) (ms:List Me) (A B:Option Addr) (x y:Nat) (m:Me) (P C K:Option Addr) (p c k:Nat) (a b d n:Int) (args:List Int) (Q:Option Addr) (q:Nat) (w:World) (h1:1<=m.regs) (h2:m.regs<=90) (hA:bK w A cs) (hi:(In.mk 14 a b d n args).ok) :
  χ 180 #[n8 m P C K p c k cs.length ms.length A B x y,pg ⟨14,a,b,d,n,args⟩ Q q] w fun e w'=>e=.returned (.bool (cA cs ms m.regs m.ret.kind ⟨14,a,b,d,n,args⟩))/\Bl w w':=by
 obtain ⟨-,ia,ib,id,-⟩:=hi
 dsimp only at ia ib id
 have il:=bj ia
 have ng:=bj ib
 have pX:=bj id
 clear ia ib id
 have bM:Θ (Bl w (eW w m P C K p c k cs.length ms.length A B x y ⟨14,a,b,d,n,args⟩ Q q)):=((Bl.refl _).alloc _).alloc _
 have HM:=bj (fF w m P C K p c k cs.length ms.length A B x y ⟨14,a,b,d,n,args⟩ Q q)
 have HI:=bj (fp w m P C K p c k cs.length ms.length A B x y ⟨14,a,b,d,n,args⟩ Q q)
 have HA:Θ (bK w A cs):=hA
 clear hA
 have hb:cA cs ms m.regs m.ret.kind ⟨14,a,b,d,n,args⟩=(aQ m.regs (mZ cs d n) [a]&&aQ m.regs 3 [b]):=rfl
 rw [hb]
 obtain ⟨KD,Iq⟩:∃KD,mZ cs d n=KD:=⟨_,rfl⟩
 rw [Iq]
 obtain ⟨R,hR⟩:∃R,aQ m.regs KD [a]=R:=⟨_,rfl⟩
 obtain ⟨S,hS⟩:∃S,aQ m.regs 3 [b]=S:=⟨_,rfl⟩
 rw [hR,hS]
 clear hb
 have HT:Θ (∀w',Bl (eW w m P C K p c k cs.length ms.length A B x y ⟨14,a,b,d,n,args⟩ Q q) w'->(fun w'=>Θ (Bl (eW w m P C K p c k cs.length ms.length A B x y ⟨14,a,b,d,n,args⟩ Q q) w')/\w'.cell? ⟨w.heap.size,0,none⟩=some (.slice P m.params.length p)/\w'.cell? ⟨w.heap.size,1,none⟩=some (ι m.ret.kind)/\w'.cell? ⟨w.heap.size,2,none⟩=some (ι m.ret.cls)/\w'.cell? ⟨w.heap.size,3,none⟩=some (ι m.stack)/\w'.cell? ⟨w.heap.size,4,none⟩=some (ι m.locs)/\w'.cell? ⟨w.heap.size,5,none⟩=some (ι m.regs)/\w'.cell? ⟨w.heap.size,6,none⟩=some (.slice C m.code.length c)/\w'.cell? ⟨w.heap.size,7,none⟩=some (.slice K m.hands.length k)/\w'.cell? ⟨w.heap.size,8,none⟩=some (.slice A cs.length x)/\w'.cell? ⟨w.heap.size,9,none⟩=some (.slice B ms.length y)/\w'.cell? ⟨w.heap.size+1,0,none⟩=some (ι (14))/\w'.cell? ⟨w.heap.size+1,1,none⟩=some (ι a)/\w'.cell? ⟨w.heap.size+1,2,none⟩=some (ι b)/\w'.cell? ⟨w.heap.size+1,3,none⟩=some (ι d)/\w'.cell? ⟨w.heap.size+1,4,none⟩=some (ι n)/\w'.cell? ⟨w.heap.size+1,5,none⟩=some (.slice Q args.length q)) w'):=fun w' hb=>by
  have hm:=HM.o.bl hb
  have hi:=HI.o.bl hb
  exact ⟨hb,hm.m0,hm.m1,hm.m2,hm.m3,hm.m4,hm.m5,hm.m6,hm.m7,hm.m8,hm.m9,hi.i0,hi.i1,hi.i2,hi.i3,hi.i4,hi.i5⟩
 cases R
 ·rw [Bool.false_and]
  go_enter func180,ntmps180
  go_wp2
  refine wp_region_held_drew (S:=fun w'=>Θ (Bl (eW w m P C K p c k cs.length ms.length A B x y ⟨14,a,b,d,n,args⟩ Q q) w')/\κ w' w.heap.size 0 (.slice P m.params.length p)/\κ w' w.heap.size 1 (ι m.ret.kind)/\κ w' w.heap.size 2 (ι m.ret.cls)/\κ w' w.heap.size 3 (ι m.stack)/\κ w' w.heap.size 4 (ι m.locs)/\κ w' w.heap.size 5 (ι m.regs)/\κ w' w.heap.size 6 (.slice C m.code.length c)/\κ w' w.heap.size 7 (.slice K m.hands.length k)/\κ w' w.heap.size 8 (.slice A cs.length x)/\κ w' w.heap.size 9 (.slice B ms.length y)/\κ w' (w.heap.size+1) 0 (ι (14))/\κ w' (w.heap.size+1) 1 (ι a)/\κ w' (w.heap.size+1) 2 (ι b)/\κ w' (w.heap.size+1) 3 (ι d)/\κ w' (w.heap.size+1) 4 (ι n)/\κ w' (w.heap.size+1) 5 (.slice Q args.length q)) (by kernel_rfl) ?_ (fun aa=>?_)
  ·exact HT.o _ (kY (Bl.refl _))
  iterate 5 (refine tn rfl (by kernel_rfl) (fun _ _ _ h=>h) (by intro _ h;go_split_ands;go_simp<;>with_reducible rfl) aa ?_;try simp only [aZ])
  refine wpAnyH_ready (rs:=[3,6]) (by kernel_rfl) (by simp) ?_
  refine AllReadyH.cons rfl (fun K hK=>?_) (AllReadyH.cons rfl (fun K hK=>?_) (AllReadyH.nil))
  ·go_simp
   go_at_call 222
   refine (jM m _ _ _ _ _ _ cs _ _ _ _ _ ⟨14,a,b,d,n,args⟩ _ _ _ (HA.o.bl (bM.o.trans aa.1.o))).mono ?_
   rintro e w1 ⟨he,g1⟩
   rw [Iq] at he
   subst he
   go_wp2_with fail
   refine hK.out _ _ (HT.o _ (aa.1.o.trans g1)) (fun ah=>?_)
   try simp only [aZ]
   refine aY (i:=6) (by kernel_rfl) rfl fun K hK=>?_
   go_wp2_with fail
   refine hK.out _ _ (HT.o _ (ah.1.o.alloc _)) (fun aH=>?_)
   try simp only [aZ]
   refine aY (i:=7) (by kernel_rfl) rfl fun K hK=>?_
   go_simp
   go_at_call 221
   refine (aP m _ _ _ _ _ _ _ _ _ _ _ _ _ _ _ [a] _ h1 h2 (by first|exact Ir.o|exact bz (by simp [World.size_alloc]) il.o)).mono ?_
   rintro e w2 ⟨he,g2⟩
   rw [hR] at he
   subst he
   go_wp2_with fail
   refine hK.out _ _ (HT.o _ (aH.1.o.trans g2)) (fun bG=>?_)
   try simp only [aZ]
   refine tn rfl (by kernel_rfl) (fun _ _ _ h=>h) (by intro _ h;go_split_ands;go_simp<;>with_reducible rfl) bG ?_
   try simp only [aZ]
   refine eE (i:=9) (d:=some 124) rfl rfl (by kernel_rfl) (by kernel_rfl) (by kernel_rfl) (fun _ _ _ h=>h) (by rfl) bG ?_
   try simp only [aZ]
   refine eE (i:=10) (d:=some 125) rfl rfl (by kernel_rfl) (by kernel_rfl) (by kernel_rfl) (fun _ _ _ h=>h) (by rfl) bG ?_
   try simp only [aZ]
   refine eE (i:=11) (d:=some 126) rfl rfl (by kernel_rfl) (by kernel_rfl) (by kernel_rfl) (fun _ _ _ h=>h) (by rfl) bG ?_
   try simp only [aZ]
   refine eE (i:=12) (d:=some 127) rfl rfl (by kernel_rfl) (by kernel_rfl) (by kernel_rfl) (fun _ _ _ h=>h) (by rfl) bG ?_
   try simp only [aZ]
   refine eE (i:=13) (d:=some 128) rfl rfl (by kernel_rfl) (by kernel_rfl) (by kernel_rfl) (fun _ _ _ h=>h) (by rfl) bG ?_
   try simp only [aZ]
   iterate 2 (refine tn rfl (by kernel_rfl) (fun _ _ _ h=>h) (by intro _ h;go_split_ands;go_simp<;>with_reducible rfl) bG ?_;try simp only [aZ])
   refine wpAnyH_done (by kernel_rfl) ?_ _
   go_wp2
   go_ret
   exact ⟨rfl,bM.o.trans bG.1.o⟩
  ·go_wp2_with fail
   refine hK.out _ _ (HT.o _ (aa.1.o.alloc _)) (fun bd=>?_)
   try simp only [aZ]
   refine aY (i:=3) (by kernel_rfl) rfl fun K hK=>?_
   go_simp
   go_at_call 222
   refine (jM m _ _ _ _ _ _ cs _ _ _ _ _ ⟨14,a,b,d,n,args⟩ _ _ _ (HA.o.bl (bM.o.trans bd.1.o))).mono ?_
   rintro e w1 ⟨he,g1⟩
   rw [Iq] at he
   subst he
   have Ir:=bj (aU.bl g1 (aU.bl (kY (Bl.refl _)) (bz (n:=w.heap.size+1+1) (by simp [World.size_alloc]) il.o)))
   go_wp2_with fail
   refine hK.out _ _ (HT.o _ (bd.1.o.trans g1)) (fun cQ=>?_)
   try simp only [aZ]
   refine aY (i:=7) (by kernel_rfl) rfl fun K hK=>?_
   go_simp
   go_at_call 221
   refine (aP m _ _ _ _ _ _ _ _ _ _ _ _ _ _ _ [a] _ h1 h2 (by first|exact Ir.o|exact bz (by simp [World.size_alloc]) il.o)).mono ?_
   rintro e w2 ⟨he,g2⟩
   rw [hR] at he
   subst he
   go_wp2_with fail
   refine hK.out _ _ (HT.o _ (cQ.1.o.trans g2)) (fun cd=>?_)
   try simp only [aZ]
   refine tn rfl (by kernel_rfl) (fun _ _ _ h=>h) (by intro _ h;go_split_ands;go_simp<;>with_reducible rfl) cd ?_
   try simp only [aZ]
   refine eE (i:=9) (d:=some 124) rfl rfl (by kernel_rfl) (by kernel_rfl) (by kernel_rfl) (fun _ _ _ h=>h) (by rfl) cd ?_
   try simp only [aZ]
   refine eE (i:=10) (d:=some 125) rfl rfl (by kernel_rfl) (by kernel_rfl) (by kernel_rfl) (fun _ _ _ h=>h) (by rfl) cd ?_
   try simp only [aZ]
   refine eE (i:=11) (d:=some 126) rfl rfl (by kernel_rfl) (by kernel_rfl) (by kernel_rfl) (fun _ _ _ h=>h) (by rfl) cd ?_
   try simp only [aZ]
   refine eE (i:=12) (d:=some 127) rfl rfl (by kernel_rfl) (by kernel_rfl) (by kernel_rfl) (fun _ _ _ h=>h) (by rfl) cd ?_
   try simp only [aZ]
   refine eE (i:=13) (d:=some 128) rfl rfl (by kernel_rfl) (by kernel_rfl) (by kernel_rfl) (fun _ _ _ h=>h) (by rfl) cd ?_
   try simp only [aZ]
   iterate 2 (refine tn rfl (by kernel_rfl) (fun _ _ _ h=>h) (by intro _ h;go_split_ands;go_simp<;>with_reducible rfl) cd ?_;try simp only [aZ])
   refine wpAnyH_done (by kernel_rfl) ?_ _
   go_wp2
   go_ret
   exact ⟨rfl,bM.o.trans cd.1.o⟩
 ·rw [Bool.true_and]
  go_enter func180,ntmps180
  go_wp2
  refine wp_region_held_drew (S:=fun w'=>Θ (Bl (eW w m P C K p c k cs.length ms.length A B x y ⟨14,a,b,d,n,args⟩ Q q) w')/\κ w' w.heap.size 0 (.slice P m.params.length p)/\κ w' w.heap.size 1 (ι m.ret.kind)/\κ w' w.heap.size 2 (ι m.ret.cls)/\κ w' w.heap.size 3 (ι m.stack)/\κ w' w.heap.size 4 (ι m.locs)/\κ w' w.heap.size 5 (ι m.regs)/\κ w' w.heap.size 6 (.slice C m.code.length c)/\κ w' w.heap.size 7 (.slice K m.hands.length k)/\κ w' w.heap.size 8 (.slice A cs.length x)/\κ w' w.heap.size 9 (.slice B ms.length y)/\κ w' (w.heap.size+1) 0 (ι (14))/\κ w' (w.heap.size+1) 1 (ι a)/\κ w' (w.heap.size+1) 2 (ι b)/\κ w' (w.heap.size+1) 3 (ι d)/\κ w' (w.heap.size+1) 4 (ι n)/\κ w' (w.heap.size+1) 5 (.slice Q args.length q)) (by kernel_rfl) ?_ (fun aa=>?_)
  ·exact HT.o _ (kY (Bl.refl _))
  iterate 5 (refine tn rfl (by kernel_rfl) (fun _ _ _ h=>h) (by intro _ h;go_split_ands;go_simp<;>with_reducible rfl) aa ?_;try simp only [aZ])
  refine wpAnyH_ready (rs:=[3,6]) (by kernel_rfl) (by simp) ?_
  refine AllReadyH.cons rfl (fun K hK=>?_) (AllReadyH.cons rfl (fun K hK=>?_) (AllReadyH.nil))
  ·go_simp
   go_at_call 222
   refine (jM m _ _ _ _ _ _ cs _ _ _ _ _ ⟨14,a,b,d,n,args⟩ _ _ _ (HA.o.bl (bM.o.trans aa.1.o))).mono ?_
   rintro e w1 ⟨he,g1⟩
   rw [Iq] at he
   subst he
   go_wp2_with fail
   refine hK.out _ _ (HT.o _ (aa.1.o.trans g1)) (fun ah=>?_)
   try simp only [aZ]
   refine aY (i:=6) (by kernel_rfl) rfl fun K hK=>?_
   go_wp2_with fail
   refine hK.out _ _ (HT.o _ (ah.1.o.alloc _)) (fun aH=>?_)
   try simp only [aZ]
   refine aY (i:=7) (by kernel_rfl) rfl fun K hK=>?_
   go_simp
   go_at_call 221
   refine (aP m _ _ _ _ _ _ _ _ _ _ _ _ _ _ _ [a] _ h1 h2 (by first|exact Ir.o|exact bz (by simp [World.size_alloc]) il.o)).mono ?_
   rintro e w2 ⟨he,g2⟩
   rw [hR] at he
   subst he
   go_wp2_with fail
   refine hK.out _ _ (HT.o _ (aH.1.o.trans g2)) (fun bG=>?_)
   try simp only [aZ]
   iterate 4 (refine tn rfl (by kernel_rfl) (fun _ _ _ h=>h) (by intro _ h;go_split_ands;go_simp<;>with_reducible rfl) bG ?_;try simp only [aZ])
   refine aY (i:=12) (by kernel_rfl) rfl fun K hK=>?_
   rw [if_pos]
   rotate_left 1
   ·rfl
   go_wp2_with fail
   refine hK.out _ _ (HT.o _ (bG.1.o.alloc _)) (fun bd=>?_)
   try simp only [aZ]
   refine aY (i:=13) (by kernel_rfl) rfl fun K hK=>?_
   rw [if_pos]
   rotate_left 1
   ·rfl
   go_simp
   go_at_call 221
   refine (aP m _ _ _ _ _ _ _ _ _ _ _ _ _ _ _ [b] _ h1 h2 (bz (by simp [World.size_alloc]) ng.o)).mono ?_
   rintro e w3 ⟨he,g3⟩
   rw [hS] at he
   subst he
   go_wp2_with fail
   refine hK.out _ _ (HT.o _ (bd.1.o.trans g3)) (fun cQ=>?_)
   try simp only [aZ]
   iterate 2 (refine tn rfl (by kernel_rfl) (fun _ _ _ h=>h) (by intro _ h;go_split_ands;go_simp<;>with_reducible rfl) cQ ?_;try simp only [aZ])
   refine wpAnyH_done (by kernel_rfl) ?_ _
   go_wp2
   go_ret
   exact ⟨rfl,bM.o.trans cQ.1.o⟩
  ·go_wp2_with fail
   refine hK.out _ _ (HT.o _ (aa.1.o.alloc _)) (fun cd=>?_)
   try simp only [aZ]
   refine aY (i:=3) (by kernel_rfl) rfl fun K hK=>?_
   go_simp
   go_at_call 222
   refine (jM m _ _ _ _ _ _ cs _ _ _ _ _ ⟨14,a,b,d,n,args⟩ _ _ _ (HA.o.bl (bM.o.trans cd.1.o))).mono ?_
   rintro e w1 ⟨he,g1⟩
   rw [Iq] at he
   subst he
   have Ir:=bj (aU.bl g1 (aU.bl (kY (Bl.refl _)) (bz (n:=w.heap.size+1+1) (by simp [World.size_alloc]) il.o)))
   go_wp2_with fail
   refine hK.out _ _ (HT.o _ (cd.1.o.trans g1)) (fun sr=>?_)
   try simp only [aZ]
   refine aY (i:=7) (by kernel_rfl) rfl fun K hK=>?_
   go_simp
   go_at_call 221
   refine (aP m _ _ _ _ _ _ _ _ _ _ _ _ _ _ _ [a] _ h1 h2 (by first|exact Ir.o|exact bz (by simp [World.size_alloc]) il.o)).mono ?_
   rintro e w2 ⟨he,g2⟩
   rw [hR] at he
   subst he
   go_wp2_with fail
   refine hK.out _ _ (HT.o _ (sr.1.o.trans g2)) (fun kP=>?_)
   try simp only [aZ]
   iterate 4 (refine tn rfl (by kernel_rfl) (fun _ _ _ h=>h) (by intro _ h;go_split_ands;go_simp<;>with_reducible rfl) kP ?_;try simp only [aZ])
   refine aY (i:=12) (by kernel_rfl) rfl fun K hK=>?_
   rw [if_pos]
   rotate_left 1
   ·rfl
   go_wp2_with fail
   refine hK.out _ _ (HT.o _ (kP.1.o.alloc _)) (fun kQ=>?_)
   try simp only [aZ]
   refine aY (i:=13) (by kernel_rfl) rfl fun K hK=>?_
   rw [if_pos]
   rotate_left 1
   ·rfl
   go_simp
   go_at_call 221
   refine (aP m _ _ _ _ _ _ _ _ _ _ _ _ _ _ _ [b] _ h1 h2 (bz (by simp [World.size_alloc]) ng.o)).mono ?_
   rintro e w3 ⟨he,g3⟩
   rw [hS] at he
   subst he
   go_wp2_with fail
   refine hK.out _ _ (HT.o _ (kQ.1.o.trans g3)) (fun jN=>?_)
   try simp only [aZ]
   iterate 2 (refine tn rfl (by kernel_rfl) (fun _ _ _ h=>h) (by intro _ h;go_split_ands;go_simp<;>with_reducible rfl) jN ?_;try simp only [aZ])
   refine wpAnyH_done (by kernel_rfl) ?_ _
   go_wp2
   go_ret
   exact ⟨rfl,bM.o.trans jN.1.o⟩
theorem LK (cs:List Cl) (ms:List Me) (A B:Option Addr) (x y:Nat) (m:Me) (P C K:Option Addr) (p c k:Nat) (a b d n:Int) (args:List Int) (Q:Option Addr) (q:Nat) (w:World) (h1:1<=m.regs) (h2:m.regs<=90) (hA:bK w A cs) (hi:(In.mk 15 a b d n args).ok) :
  χ 180 #[n8 m P C K p c k cs.length ms.length A B x y,pg ⟨15,a,b,d,n,args⟩ Q q] w fun e w'=>e=.returned (.bool (cA cs ms m.regs m.ret.kind ⟨15,a,b,d,n,args⟩))/\Bl w w':=by
 obtain ⟨-,ia,ib,id,-⟩:=hi
 dsimp only at ia ib id
 have il:=bj ia
 have ng:=bj ib
 have pX:=bj id
 clear ia ib id
 have bM:Θ (Bl w (eW w m P C K p c k cs.length ms.length A B x y ⟨15,a,b,d,n,args⟩ Q q)):=((Bl.refl _).alloc _).alloc _
 have HM:=bj (fF w m P C K p c k cs.length ms.length A B x y ⟨15,a,b,d,n,args⟩ Q q)
 have HI:=bj (fp w m P C K p c k cs.length ms.length A B x y ⟨15,a,b,d,n,args⟩ Q q)
 have HA:Θ (bK w A cs):=hA
 clear hA
 have hb:cA cs ms m.regs m.ret.kind ⟨15,a,b,d,n,args⟩=(aQ m.regs (mZ cs d n) [a]&&aQ m.regs 3 [b]):=rfl
 rw [hb]
 obtain ⟨KD,Iq⟩:∃KD,mZ cs d n=KD:=⟨_,rfl⟩
 rw [Iq]
 obtain ⟨R,hR⟩:∃R,aQ m.regs KD [a]=R:=⟨_,rfl⟩
 obtain ⟨S,hS⟩:∃S,aQ m.regs 3 [b]=S:=⟨_,rfl⟩
 rw [hR,hS]
 clear hb
 have HT:Θ (∀w',Bl (eW w m P C K p c k cs.length ms.length A B x y ⟨15,a,b,d,n,args⟩ Q q) w'->(fun w'=>Θ (Bl (eW w m P C K p c k cs.length ms.length A B x y ⟨15,a,b,d,n,args⟩ Q q) w')/\w'.cell? ⟨w.heap.size,0,none⟩=some (.slice P m.params.length p)/\w'.cell? ⟨w.heap.size,1,none⟩=some (ι m.ret.kind)/\w'.cell? ⟨w.heap.size,2,none⟩=some (ι m.ret.cls)/\w'.cell? ⟨w.heap.size,3,none⟩=some (ι m.stack)/\w'.cell? ⟨w.heap.size,4,none⟩=some (ι m.locs)/\w'.cell? ⟨w.heap.size,5,none⟩=some (ι m.regs)/\w'.cell? ⟨w.heap.size,6,none⟩=some (.slice C m.code.length c)/\w'.cell? ⟨w.heap.size,7,none⟩=some (.slice K m.hands.length k)/\w'.cell? ⟨w.heap.size,8,none⟩=some (.slice A cs.length x)/\w'.cell? ⟨w.heap.size,9,none⟩=some (.slice B ms.length y)/\w'.cell? ⟨w.heap.size+1,0,none⟩=some (ι (15))/\w'.cell? ⟨w.heap.size+1,1,none⟩=some (ι a)/\w'.cell? ⟨w.heap.size+1,2,none⟩=some (ι b)/\w'.cell? ⟨w.heap.size+1,3,none⟩=some (ι d)/\w'.cell? ⟨w.heap.size+1,4,none⟩=some (ι n)/\w'.cell? ⟨w.heap.size+1,5,none⟩=some (.slice Q args.length q)) w'):=fun w' hb=>by
  have hm:=HM.o.bl hb
  have hi:=HI.o.bl hb
  exact ⟨hb,hm.m0,hm.m1,hm.m2,hm.m3,hm.m4,hm.m5,hm.m6,hm.m7,hm.m8,hm.m9,hi.i0,hi.i1,hi.i2,hi.i3,hi.i4,hi.i5⟩
 cases R
 ·rw [Bool.false_and]
  go_enter func180,ntmps180
  go_wp2
  refine wp_region_held_drew (S:=fun w'=>Θ (Bl (eW w m P C K p c k cs.length ms.length A B x y ⟨15,a,b,d,n,args⟩ Q q) w')/\κ w' w.heap.size 0 (.slice P m.params.length p)/\κ w' w.heap.size 1 (ι m.ret.kind)/\κ w' w.heap.size 2 (ι m.ret.cls)/\κ w' w.heap.size 3 (ι m.stack)/\κ w' w.heap.size 4 (ι m.locs)/\κ w' w.heap.size 5 (ι m.regs)/\κ w' w.heap.size 6 (.slice C m.code.length c)/\κ w' w.heap.size 7 (.slice K m.hands.length k)/\κ w' w.heap.size 8 (.slice A cs.length x)/\κ w' w.heap.size 9 (.slice B ms.length y)/\κ w' (w.heap.size+1) 0 (ι (15))/\κ w' (w.heap.size+1) 1 (ι a)/\κ w' (w.heap.size+1) 2 (ι b)/\κ w' (w.heap.size+1) 3 (ι d)/\κ w' (w.heap.size+1) 4 (ι n)/\κ w' (w.heap.size+1) 5 (.slice Q args.length q)) (by kernel_rfl) ?_ (fun aa=>?_)
  ·exact HT.o _ (kY (Bl.refl _))
  iterate 5 (refine tn rfl (by kernel_rfl) (fun _ _ _ h=>h) (by intro _ h;go_split_ands;go_simp<;>with_reducible rfl) aa ?_;try simp only [aZ])
  refine wpAnyH_ready (rs:=[3,6]) (by kernel_rfl) (by simp) ?_
  refine AllReadyH.cons rfl (fun K hK=>?_) (AllReadyH.cons rfl (fun K hK=>?_) (AllReadyH.nil))
  ·go_simp
   go_at_call 222
   refine (jM m _ _ _ _ _ _ cs _ _ _ _ _ ⟨15,a,b,d,n,args⟩ _ _ _ (HA.o.bl (bM.o.trans aa.1.o))).mono ?_
   rintro e w1 ⟨he,g1⟩
   rw [Iq] at he
   subst he
   go_wp2_with fail
   refine hK.out _ _ (HT.o _ (aa.1.o.trans g1)) (fun ah=>?_)
   try simp only [aZ]
   refine aY (i:=6) (by kernel_rfl) rfl fun K hK=>?_
   go_wp2_with fail
   refine hK.out _ _ (HT.o _ (ah.1.o.alloc _)) (fun aH=>?_)
   try simp only [aZ]
   refine aY (i:=7) (by kernel_rfl) rfl fun K hK=>?_
   go_simp
   go_at_call 221
   refine (aP m _ _ _ _ _ _ _ _ _ _ _ _ _ _ _ [a] _ h1 h2 (by first|exact Ir.o|exact bz (by simp [World.size_alloc]) il.o)).mono ?_
   rintro e w2 ⟨he,g2⟩
   rw [hR] at he
   subst he
   go_wp2_with fail
   refine hK.out _ _ (HT.o _ (aH.1.o.trans g2)) (fun bG=>?_)
   try simp only [aZ]
   refine tn rfl (by kernel_rfl) (fun _ _ _ h=>h) (by intro _ h;go_split_ands;go_simp<;>with_reducible rfl) bG ?_
   try simp only [aZ]
   refine eE (i:=9) (d:=some 124) rfl rfl (by kernel_rfl) (by kernel_rfl) (by kernel_rfl) (fun _ _ _ h=>h) (by rfl) bG ?_
   try simp only [aZ]
   refine eE (i:=10) (d:=some 125) rfl rfl (by kernel_rfl) (by kernel_rfl) (by kernel_rfl) (fun _ _ _ h=>h) (by rfl) bG ?_
   try simp only [aZ]
   refine eE (i:=11) (d:=some 126) rfl rfl (by kernel_rfl) (by kernel_rfl) (by kernel_rfl) (fun _ _ _ h=>h) (by rfl) bG ?_
   try simp only [aZ]
   refine eE (i:=12) (d:=some 127) rfl rfl (by kernel_rfl) (by kernel_rfl) (by kernel_rfl) (fun _ _ _ h=>h) (by rfl) bG ?_
   try simp only [aZ]
   refine eE (i:=13) (d:=some 128) rfl rfl (by kernel_rfl) (by kernel_rfl) (by kernel_rfl) (fun _ _ _ h=>h) (by rfl) bG ?_
   try simp only [aZ]
   iterate 2 (refine tn rfl (by kernel_rfl) (fun _ _ _ h=>h) (by intro _ h;go_split_ands;go_simp<;>with_reducible rfl) bG ?_;try simp only [aZ])
   refine wpAnyH_done (by kernel_rfl) ?_ _
   go_wp2
   go_ret
   exact ⟨rfl,bM.o.trans bG.1.o⟩
  ·go_wp2_with fail
   refine hK.out _ _ (HT.o _ (aa.1.o.alloc _)) (fun bd=>?_)
   try simp only [aZ]
   refine aY (i:=3) (by kernel_rfl) rfl fun K hK=>?_
   go_simp
   go_at_call 222
   refine (jM m _ _ _ _ _ _ cs _ _ _ _ _ ⟨15,a,b,d,n,args⟩ _ _ _ (HA.o.bl (bM.o.trans bd.1.o))).mono ?_
   rintro e w1 ⟨he,g1⟩
   rw [Iq] at he
   subst he
   have Ir:=bj (aU.bl g1 (aU.bl (kY (Bl.refl _)) (bz (n:=w.heap.size+1+1) (by simp [World.size_alloc]) il.o)))
   go_wp2_with fail
   refine hK.out _ _ (HT.o _ (bd.1.o.trans g1)) (fun cQ=>?_)
   try simp only [aZ]
   refine aY (i:=7) (by kernel_rfl) rfl fun K hK=>?_
   go_simp
   go_at_call 221
   refine (aP m _ _ _ _ _ _ _ _ _ _ _ _ _ _ _ [a] _ h1 h2 (by first|exact Ir.o|exact bz (by simp [World.size_alloc]) il.o)).mono ?_
   rintro e w2 ⟨he,g2⟩
   rw [hR] at he
   subst he
   go_wp2_with fail
   refine hK.out _ _ (HT.o _ (cQ.1.o.trans g2)) (fun cd=>?_)
   try simp only [aZ]
   refine tn rfl (by kernel_rfl) (fun _ _ _ h=>h) (by intro _ h;go_split_ands;go_simp<;>with_reducible rfl) cd ?_
   try simp only [aZ]
   refine eE (i:=9) (d:=some 124) rfl rfl (by kernel_rfl) (by kernel_rfl) (by kernel_rfl) (fun _ _ _ h=>h) (by rfl) cd ?_
   try simp only [aZ]
   refine eE (i:=10) (d:=some 125) rfl rfl (by kernel_rfl) (by kernel_rfl) (by kernel_rfl) (fun _ _ _ h=>h) (by rfl) cd ?_
   try simp only [aZ]
   refine eE (i:=11) (d:=some 126) rfl rfl (by kernel_rfl) (by kernel_rfl) (by kernel_rfl) (fun _ _ _ h=>h) (by rfl) cd ?_
   try simp only [aZ]
   refine eE (i:=12) (d:=some 127) rfl rfl (by kernel_rfl) (by kernel_rfl) (by kernel_rfl) (fun _ _ _ h=>h) (by rfl) cd ?_
   try simp only [aZ]
   refine eE (i:=13) (d:=some 128) rfl rfl (by kernel_rfl) (by kernel_rfl) (by kernel_rfl) (fun _ _ _ h=>h) (by rfl) cd ?_
   try simp only [aZ]
   iterate 2 (refine tn rfl (by kernel_rfl) (fun _ _ _ h=>h) (by intro _ h;go_split_ands;go_simp<;>with_reducible rfl) cd ?_;try simp only [aZ])
   refine wpAnyH_done (by kernel_rfl) ?_ _
   go_wp2
   go_ret
   exact ⟨rfl,bM.o.trans cd.1.o⟩
 ·rw [Bool.true_and]
  go_enter func180,ntmps180
  go_wp2
  refine wp_region_held_drew (S:=fun w'=>Θ (Bl (eW w m P C K p c k cs.length ms.length A B x y ⟨15,a,b,d,n,args⟩ Q q) w')/\κ w' w.heap.size 0 (.slice P m.params.length p)/\κ w' w.heap.size 1 (ι m.ret.kind)/\κ w' w.heap.size 2 (ι m.ret.cls)/\κ w' w.heap.size 3 (ι m.stack)/\κ w' w.heap.size 4 (ι m.locs)/\κ w' w.heap.size 5 (ι m.regs)/\κ w' w.heap.size 6 (.slice C m.code.length c)/\κ w' w.heap.size 7 (.slice K m.hands.length k)/\κ w' w.heap.size 8 (.slice A cs.length x)/\κ w' w.heap.size 9 (.slice B ms.length y)/\κ w' (w.heap.size+1) 0 (ι (15))/\κ w' (w.heap.size+1) 1 (ι a)/\κ w' (w.heap.size+1) 2 (ι b)/\κ w' (w.heap.size+1) 3 (ι d)/\κ w' (w.heap.size+1) 4 (ι n)/\κ w' (w.heap.size+1) 5 (.slice Q args.length q)) (by kernel_rfl) ?_ (fun aa=>?_)
  ·exact HT.o _ (kY (Bl.refl _))
  iterate 5 (refine tn rfl (by kernel_rfl) (fun _ _ _ h=>h) (by intro _ h;go_split_ands;go_simp<;>with_reducible rfl) aa ?_;try simp only [aZ])
  refine wpAnyH_ready (rs:=[3,6]) (by kernel_rfl) (by simp) ?_
  refine AllReadyH.cons rfl (fun K hK=>?_) (AllReadyH.cons rfl (fun K hK=>?_) (AllReadyH.nil))
  ·go_simp
   go_at_call 222
   refine (jM m _ _ _ _ _ _ cs _ _ _ _ _ ⟨15,a,b,d,n,args⟩ _ _ _ (HA.o.bl (bM.o.trans aa.1.o))).mono ?_
   rintro e w1 ⟨he,g1⟩
   rw [Iq] at he
   subst he
   go_wp2_with fail
   refine hK.out _ _ (HT.o _ (aa.1.o.trans g1)) (fun ah=>?_)
   try simp only [aZ]
   refine aY (i:=6) (by kernel_rfl) rfl fun K hK=>?_
   go_wp2_with fail
   refine hK.out _ _ (HT.o _ (ah.1.o.alloc _)) (fun aH=>?_)
   try simp only [aZ]
   refine aY (i:=7) (by kernel_rfl) rfl fun K hK=>?_
   go_simp
   go_at_call 221
   refine (aP m _ _ _ _ _ _ _ _ _ _ _ _ _ _ _ [a] _ h1 h2 (by first|exact Ir.o|exact bz (by simp [World.size_alloc]) il.o)).mono ?_
   rintro e w2 ⟨he,g2⟩
   rw [hR] at he
   subst he
   go_wp2_with fail
   refine hK.out _ _ (HT.o _ (aH.1.o.trans g2)) (fun bG=>?_)
   try simp only [aZ]
   iterate 4 (refine tn rfl (by kernel_rfl) (fun _ _ _ h=>h) (by intro _ h;go_split_ands;go_simp<;>with_reducible rfl) bG ?_;try simp only [aZ])
   refine aY (i:=12) (by kernel_rfl) rfl fun K hK=>?_
   rw [if_pos]
   rotate_left 1
   ·rfl
   go_wp2_with fail
   refine hK.out _ _ (HT.o _ (bG.1.o.alloc _)) (fun bd=>?_)
   try simp only [aZ]
   refine aY (i:=13) (by kernel_rfl) rfl fun K hK=>?_
   rw [if_pos]
   rotate_left 1
   ·rfl
   go_simp
   go_at_call 221
   refine (aP m _ _ _ _ _ _ _ _ _ _ _ _ _ _ _ [b] _ h1 h2 (bz (by simp [World.size_alloc]) ng.o)).mono ?_
   rintro e w3 ⟨he,g3⟩
   rw [hS] at he
   subst he
   go_wp2_with fail
   refine hK.out _ _ (HT.o _ (bd.1.o.trans g3)) (fun cQ=>?_)
   try simp only [aZ]
   iterate 2 (refine tn rfl (by kernel_rfl) (fun _ _ _ h=>h) (by intro _ h;go_split_ands;go_simp<;>with_reducible rfl) cQ ?_;try simp only [aZ])
   refine wpAnyH_done (by kernel_rfl) ?_ _
   go_wp2
   go_ret
   exact ⟨rfl,bM.o.trans cQ.1.o⟩
  ·go_wp2_with fail
   refine hK.out _ _ (HT.o _ (aa.1.o.alloc _)) (fun cd=>?_)
   try simp only [aZ]
   refine aY (i:=3) (by kernel_rfl) rfl fun K hK=>?_
   go_simp
   go_at_call 222
   refine (jM m _ _ _ _ _ _ cs _ _ _ _ _ ⟨15,a,b,d,n,args⟩ _ _ _ (HA.o.bl (bM.o.trans cd.1.o))).mono ?_
   rintro e w1 ⟨he,g1⟩
   rw [Iq] at he
   subst he
   have Ir:=bj (aU.bl g1 (aU.bl (kY (Bl.refl _)) (bz (n:=w.heap.size+1+1) (by simp [World.size_alloc]) il.o)))
   go_wp2_with fail
   refine hK.out _ _ (HT.o _ (cd.1.o.trans g1)) (fun sr=>?_)
   try simp only [aZ]
   refine aY (i:=7) (by kernel_rfl) rfl fun K hK=>?_
   go_simp
   go_at_call 221
   refine (aP m _ _ _ _ _ _ _ _ _ _ _ _ _ _ _ [a] _ h1 h2 (by first|exact Ir.o|exact bz (by simp [World.size_alloc]) il.o)).mono ?_
   rintro e w2 ⟨he,g2⟩
   rw [hR] at he
   subst he
   go_wp2_with fail
   refine hK.out _ _ (HT.o _ (sr.1.o.trans g2)) (fun kP=>?_)
   try simp only [aZ]
   iterate 4 (refine tn rfl (by kernel_rfl) (fun _ _ _ h=>h) (by intro _ h;go_split_ands;go_simp<;>with_reducible rfl) kP ?_;try simp only [aZ])
   refine aY (i:=12) (by kernel_rfl) rfl fun K hK=>?_
   rw [if_pos]
   rotate_left 1
   ·rfl
   go_wp2_with fail
   refine hK.out _ _ (HT.o _ (kP.1.o.alloc _)) (fun kQ=>?_)
   try simp only [aZ]
   refine aY (i:=13) (by kernel_rfl) rfl fun K hK=>?_
   rw [if_pos]
   rotate_left 1
   ·rfl
   go_simp
   go_at_call 221
   refine (aP m _ _ _ _ _ _ _ _ _ _ _ _ _ _ _ [b] _ h1 h2 (bz (by simp [World.size_alloc]) ng.o)).mono ?_
   rintro e w3 ⟨he,g3⟩
   rw [hS] at he
   subst he
   go_wp2_with fail
   refine hK.out _ _ (HT.o _ (kQ.1.o.trans g3)) (fun jN=>?_)
   try simp only [aZ]
   iterate 2 (refine tn rfl (by kernel_rfl) (fun _ _ _ h=>h) (by intro _ h;go_split_ands;go_simp<;>with_reducible rfl) jN ?_;try simp only [aZ])
   refine wpAnyH_done (by kernel_rfl) ?_ _
   go_wp2
   go_ret
   exact ⟨rfl,bM.o.trans jN.1.o⟩
end Go.Proofs.YtgiiapenmjollaaGreat
