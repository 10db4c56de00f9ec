import Derived.Test.YtgiiapenmjollaaGreatSrab
namespace Go.Proofs.YtgiiapenmjollaaGreat
set_option linter.all false
set_option maxHeartbeats 40000000
set_option maxRecDepth 100000
open Go.RowKit
open Go.Value (int)
open Go.IntKind (i64)
abbrev inV (i:In) (Q:Option Addr) (q:Nat):Value:=.agg #[int i64 i.op,int i64 i.a,int i64 i.b,int i64 i.c,int i64 i.n,.slice Q i.args.length q]
abbrev iI (w:World) (nc nm:Nat) (A B:Option Addr) (x y:Nat) (m:Me) (P C K:Option Addr) (p c k:Nat) (i:In) (Q:Option Addr) (q:Nat):World :=
 ((w.alloc (.cells #[.slice A nc x,.slice B nm y] 25)).alloc (.cells #[.slice P m.params.length p,int i64 m.ret.kind,int i64 m.ret.cls,int i64 m.stack,int i64 m.locs,int i64 m.regs,.slice C m.code.length c,.slice K m.hands.length k] 49)).alloc
  (.cells #[int i64 i.op,int i64 i.a,int i64 i.b,int i64 i.c,int i64 i.n,.slice Q i.args.length q] 55)
theorem FI (i:In) (cs:List Cl) (nm:Nat) (A B:Option Addr) (x y:Nat) (m:Me) (P C K:Option Addr) (p c k:Nat) (Q:Option Addr) (q:Nat) (w:World) (eU:cs.length<=12) (eY:nm<=8) (aW:m.code.length<=maxLen) (hlo:0<=m.locs) (dR:m.locs<=60) (h:¬(i.c=0/\i.args.length=0)) :
  Calls Tryz.prog 23 #[fU cs.length nm A B x y,iW m P C K p c k,inV i Q q] w fun e w'=>e=.returned (.bool (bE cs nm m.code.length m.locs i))/\Bl w w':=by
 have hb:bE cs nm m.code.length m.locs i=false:=by unfold bE;rw [decide_eq_false h];rfl
 rw [hb]
 clear hb
 unfold maxLen at aW
 by_cases h1:i.c=0
 ·have h2:0<i.args.length:=by omega
  go_enter Tryz.func23,Tryz.ntmps23
  go_wp2
  go_ret
  exact ⟨rfl,(((Bl.refl _).alloc _).alloc _).alloc _⟩
 ·have vD:(i.c !=0)=true:=by simpa using h1
  go_enter Tryz.func23,Tryz.ntmps23
  go_wp2
  go_ret
  exact ⟨rfl,(((Bl.refl _).alloc _).alloc _).alloc _⟩
section
variable (a b n:Int) (cs:List Cl) (nm:Nat) (A B:Option Addr) (x y:Nat) (m:Me) (P C K:Option Addr) (p c k:Nat) (Q:Option Addr) (q:Nat) (w:World)
theorem ML (eU:cs.length<=12) (eY:nm<=8) (aW:m.code.length<=maxLen) (hlo:0<=m.locs) (dR:m.locs<=60) :
  Calls Tryz.prog 23 #[fU cs.length nm A B x y,iW m P C K p c k,inV ⟨1,a,b,0,n,[]⟩ Q q] w fun e w'=>e=.returned (.bool (bE cs nm m.code.length m.locs ⟨1,a,b,0,n,[]⟩))/\Bl w w':=by
 unfold maxLen at aW
 by_cases ha:a=0
 ·subst ha
  by_cases hb:b=0
  ·subst hb
   go_enter Tryz.func23,Tryz.ntmps23
   go_wp2_with (go_at_call 20;refine (aE _ _ _ _).mono ?_;rintro e w' ⟨rfl,rfl⟩)
   all_goals
    go_ret
    refine ⟨aj ?_,(((Bl.refl _).alloc _).alloc _).alloc _⟩
    rw [Bool.eq_iff_iff];simp [bE];try omega
  ·have vt:(b==0)=false:=by simpa using hb
   go_enter Tryz.func23,Tryz.ntmps23
   go_wp2_with (go_at_call 20;refine (aE _ _ _ _).mono ?_;rintro e w' ⟨rfl,rfl⟩)
   all_goals
    go_ret
    refine ⟨aj ?_,(((Bl.refl _).alloc _).alloc _).alloc _⟩
    rw [Bool.eq_iff_iff];simp [bE,hb];try omega
 ·have ha':(a==0)=false:=by simpa using ha
  go_enter Tryz.func23,Tryz.ntmps23
  go_wp2_with (go_at_call 20;refine (aE _ _ _ _).mono ?_;rintro e w' ⟨rfl,rfl⟩)
  all_goals
   go_ret
   refine ⟨aj ?_,(((Bl.refl _).alloc _).alloc _).alloc _⟩
   rw [Bool.eq_iff_iff];simp [bE,ha];try omega
theorem MM (eU:cs.length<=12) (eY:nm<=8) (aW:m.code.length<=maxLen) (hlo:0<=m.locs) (dR:m.locs<=60) :
  Calls Tryz.prog 23 #[fU cs.length nm A B x y,iW m P C K p c k,inV ⟨2,a,b,0,n,[]⟩ Q q] w fun e w'=>e=.returned (.bool (bE cs nm m.code.length m.locs ⟨2,a,b,0,n,[]⟩))/\Bl w w':=by
 unfold maxLen at aW
 by_cases ha:a=0
 ·subst ha
  by_cases hb:b=0
  ·subst hb
   go_enter Tryz.func23,Tryz.ntmps23
   go_wp2_with (go_at_call 20;refine (aE _ _ _ _).mono ?_;rintro e w' ⟨rfl,rfl⟩)
   all_goals
    go_ret
    refine ⟨aj ?_,(((Bl.refl _).alloc _).alloc _).alloc _⟩
    rw [Bool.eq_iff_iff];simp [bE];try omega
  ·have vt:(b==0)=false:=by simpa using hb
   go_enter Tryz.func23,Tryz.ntmps23
   go_wp2_with (go_at_call 20;refine (aE _ _ _ _).mono ?_;rintro e w' ⟨rfl,rfl⟩)
   all_goals
    go_ret
    refine ⟨aj ?_,(((Bl.refl _).alloc _).alloc _).alloc _⟩
    rw [Bool.eq_iff_iff];simp [bE,hb];try omega
 ·have ha':(a==0)=false:=by simpa using ha
  go_enter Tryz.func23,Tryz.ntmps23
  go_wp2_with (go_at_call 20;refine (aE _ _ _ _).mono ?_;rintro e w' ⟨rfl,rfl⟩)
  all_goals
   go_ret
   refine ⟨aj ?_,(((Bl.refl _).alloc _).alloc _).alloc _⟩
   rw [Bool.eq_iff_iff];simp [bE,ha];try omega
end
theorem MN (op a b n:Int) (h1:op≠1) (h2:op≠2) (hn:n≠0) (cs:List Cl) (nm:Nat) (A B:Option Addr) (x y:Nat) (m:Me) (P C K:Option Addr) (p c k:Nat) (Q:Option Addr) (q:Nat) (w:World) (eU:cs.length<=12) (eY:nm<=8) (aW:m.code.length<=maxLen) (hlo:0<=m.locs) (dR:m.locs<=60) :
  Calls Tryz.prog 23 #[fU cs.length nm A B x y,iW m P C K p c k,inV ⟨op,a,b,0,n,[]⟩ Q q] w fun e w'=>e=.returned (.bool (bE cs nm m.code.length m.locs ⟨op,a,b,0,n,[]⟩))/\Bl w w':=by
 unfold maxLen at aW
 have kV:(n !=0)=true:=by simpa using hn
 have z1:(op==1)=false:=by simp;omega
 have z2:(op==2)=false:=by simp;omega
 go_enter Tryz.func23,Tryz.ntmps23
 go_wp2_with (go_at_call 20;refine (aE _ _ _ _).mono ?_;rintro e w' ⟨rfl,rfl⟩)
 all_goals
  go_ret
  refine ⟨aj ?_,(((Bl.refl _).alloc _).alloc _).alloc _⟩
  rw [Bool.eq_iff_iff];simp [bE,h1,h2,hn];try omega
section
variable (a b:Int) (cs:List Cl) (nm:Nat) (A B:Option Addr) (x y:Nat) (m:Me) (P C K:Option Addr) (p c k:Nat) (Q:Option Addr) (q:Nat) (w:World)
theorem MO (eU:cs.length<=12) (eY:nm<=8) (aW:m.code.length<=maxLen) (hlo:0<=m.locs) (dR:m.locs<=60) :
  Calls Tryz.prog 23 #[fU cs.length nm A B x y,iW m P C K p c k,inV ⟨4,a,b,0,0,[]⟩ Q q] w fun e w'=>e=.returned (.bool (bE cs nm m.code.length m.locs ⟨4,a,b,0,0,[]⟩))/\Bl w w':=by
 unfold maxLen at aW
 by_cases hb:b=2
 ·subst hb
  go_enter Tryz.func23,Tryz.ntmps23
  go_wp2_with (go_at_call 20;refine (aE _ _ _ _).mono ?_;rintro e w' ⟨rfl,rfl⟩)
  all_goals
   go_ret
   refine ⟨aj ?_,(((Bl.refl _).alloc _).alloc _).alloc _⟩
   rw [Bool.eq_iff_iff];simp [bE];try omega
 ·have vt:(b==2)=false:=by simpa using hb
  go_enter Tryz.func23,Tryz.ntmps23
  go_wp2_with (go_at_call 20;refine (aE _ _ _ _).mono ?_;rintro e w' ⟨rfl,rfl⟩)
  all_goals
   go_ret
   refine ⟨aj ?_,(((Bl.refl _).alloc _).alloc _).alloc _⟩
   rw [Bool.eq_iff_iff];simp [bE,hb];try omega
theorem MP (eU:cs.length<=12) (eY:nm<=8) (aW:m.code.length<=maxLen) (hlo:0<=m.locs) (dR:m.locs<=60) :
  Calls Tryz.prog 23 #[fU cs.length nm A B x y,iW m P C K p c k,inV ⟨5,a,b,0,0,[]⟩ Q q] w fun e w'=>e=.returned (.bool (bE cs nm m.code.length m.locs ⟨5,a,b,0,0,[]⟩))/\Bl w w':=by
 unfold maxLen at aW
 by_cases hb:b=2
 ·subst hb
  go_enter Tryz.func23,Tryz.ntmps23
  go_wp2_with (go_at_call 20;refine (aE _ _ _ _).mono ?_;rintro e w' ⟨rfl,rfl⟩)
  all_goals
   go_ret
   refine ⟨aj ?_,(((Bl.refl _).alloc _).alloc _).alloc _⟩
   rw [Bool.eq_iff_iff];simp [bE];try omega
 ·have vt:(b==2)=false:=by simpa using hb
  go_enter Tryz.func23,Tryz.ntmps23
  go_wp2_with (go_at_call 20;refine (aE _ _ _ _).mono ?_;rintro e w' ⟨rfl,rfl⟩)
  all_goals
   go_ret
   refine ⟨aj ?_,(((Bl.refl _).alloc _).alloc _).alloc _⟩
   rw [Bool.eq_iff_iff];simp [bE,hb];try omega
theorem JF (eU:cs.length<=12) (eY:nm<=8) (aW:m.code.length<=maxLen) (hlo:0<=m.locs) (dR:m.locs<=60) :
  Calls Tryz.prog 23 #[fU cs.length nm A B x y,iW m P C K p c k,inV ⟨12,a,b,0,0,[]⟩ Q q] w fun e w'=>e=.returned (.bool (bE cs nm m.code.length m.locs ⟨12,a,b,0,0,[]⟩))/\Bl w w':=by
 unfold maxLen at aW
 go_enter Tryz.func23,Tryz.ntmps23
 go_wp2_with (go_at_call 20;refine (aE _ _ _ _).mono ?_;rintro e w' ⟨rfl,rfl⟩)
 all_goals
  go_ret
  refine ⟨aj ?_,(((Bl.refl _).alloc _).alloc _).alloc _⟩
  rw [Bool.eq_iff_iff];simp [bE];try omega
end
theorem MQ (op a b:Int) (h:op≠1/\op≠2/\op≠4/\op≠5/\op≠12/\op≠15/\op≠16) (hb:b≠0) (cs:List Cl) (nm:Nat) (A B:Option Addr) (x y:Nat) (m:Me) (P C K:Option Addr) (p c k:Nat) (Q:Option Addr) (q:Nat) (w:World) (eU:cs.length<=12) (eY:nm<=8) (aW:m.code.length<=maxLen) (hlo:0<=m.locs) (dR:m.locs<=60) :
  Calls Tryz.prog 23 #[fU cs.length nm A B x y,iW m P C K p c k,inV ⟨op,a,b,0,0,[]⟩ Q q] w fun e w'=>e=.returned (.bool (bE cs nm m.code.length m.locs ⟨op,a,b,0,0,[]⟩))/\Bl w w':=by
 unfold maxLen at aW
 have vt:(b !=0)=true:=by simpa using hb
 have z1:(op==1)=false:=by simp;omega
 have z2:(op==2)=false:=by simp;omega
 have z4:(op==4)=false:=by simp;omega
 have z5:(op==5)=false:=by simp;omega
 have z12:(op==12)=false:=by simp;omega
 have Sv:(op==15)=false:=by simp;omega
 have Qj:(op==16)=false:=by simp;omega
 obtain ⟨h1,h2,h4,h5,pQ,G0,MR⟩:=h
 go_enter Tryz.func23,Tryz.ntmps23
 go_wp2_with (go_at_call 20;refine (aE _ _ _ _).mono ?_;rintro e w' ⟨rfl,rfl⟩)
 all_goals
  go_ret
  refine ⟨aj ?_,(((Bl.refl _).alloc _).alloc _).alloc _⟩
  rw [Bool.eq_iff_iff];simp [bE,h1,h2,h4,h5,pQ,G0,MR,hb];try omega
section
variable (a:Int) (cs:List Cl) (nm:Nat) (A B:Option Addr) (x y:Nat) (m:Me) (P C K:Option Addr) (p c k:Nat) (Q:Option Addr) (q:Nat) (w:World)
theorem MS (eU:cs.length<=12) (eY:nm<=8) (aW:m.code.length<=maxLen) (hlo:0<=m.locs) (dR:m.locs<=60) :
  Calls Tryz.prog 23 #[fU cs.length nm A B x y,iW m P C K p c k,inV ⟨3,a,0,0,0,[]⟩ Q q] w fun e w'=>e=.returned (.bool (bE cs nm m.code.length m.locs ⟨3,a,0,0,0,[]⟩))/\Bl w w':=by
 unfold maxLen at aW
 go_enter Tryz.func23,Tryz.ntmps23
 go_wp2_with (go_at_call 20;refine (aE _ _ _ _).mono ?_;rintro e w' ⟨rfl,rfl⟩)
 all_goals
  go_ret
  refine ⟨aj ?_,(((Bl.refl _).alloc _).alloc _).alloc _⟩
  rw [Bool.eq_iff_iff];simp [bE];try omega
theorem MT (eU:cs.length<=12) (eY:nm<=8) (aW:m.code.length<=maxLen) (hlo:0<=m.locs) (dR:m.locs<=60) :
  Calls Tryz.prog 23 #[fU cs.length nm A B x y,iW m P C K p c k,inV ⟨8,a,0,0,0,[]⟩ Q q] w fun e w'=>e=.returned (.bool (bE cs nm m.code.length m.locs ⟨8,a,0,0,0,[]⟩))/\Bl w w':=by
 unfold maxLen at aW
 go_enter Tryz.func23,Tryz.ntmps23
 go_wp2_with (go_at_call 20;refine (aE _ _ _ _).mono ?_;rintro e w' ⟨rfl,rfl⟩)
 all_goals
  go_ret
  refine ⟨aj ?_,(((Bl.refl _).alloc _).alloc _).alloc _⟩
  rw [Bool.eq_iff_iff];simp [bE];try omega
theorem MU (eU:cs.length<=12) (eY:nm<=8) (aW:m.code.length<=maxLen) (hlo:0<=m.locs) (dR:m.locs<=60) :
  Calls Tryz.prog 23 #[fU cs.length nm A B x y,iW m P C K p c k,inV ⟨9,a,0,0,0,[]⟩ Q q] w fun e w'=>e=.returned (.bool (bE cs nm m.code.length m.locs ⟨9,a,0,0,0,[]⟩))/\Bl w w':=by
 unfold maxLen at aW
 go_enter Tryz.func23,Tryz.ntmps23
 go_wp2_with (go_at_call 20;refine (aE _ _ _ _).mono ?_;rintro e w' ⟨rfl,rfl⟩)
 all_goals
  go_ret
  refine ⟨aj ?_,(((Bl.refl _).alloc _).alloc _).alloc _⟩
  rw [Bool.eq_iff_iff];simp [bE];try omega
theorem JG (eU:cs.length<=12) (eY:nm<=8) (aW:m.code.length<=maxLen) (hlo:0<=m.locs) (dR:m.locs<=60) :
  Calls Tryz.prog 23 #[fU cs.length nm A B x y,iW m P C K p c k,inV ⟨10,a,0,0,0,[]⟩ Q q] w fun e w'=>e=.returned (.bool (bE cs nm m.code.length m.locs ⟨10,a,0,0,0,[]⟩))/\Bl w w':=by
 unfold maxLen at aW
 go_enter Tryz.func23,Tryz.ntmps23
 go_wp2_with (go_at_call 20;refine (aE _ _ _ _).mono ?_;rintro e w' ⟨rfl,rfl⟩)
 all_goals
  go_ret
  refine ⟨aj ?_,(((Bl.refl _).alloc _).alloc _).alloc _⟩
  rw [Bool.eq_iff_iff];simp [bE];try omega
theorem JH (eU:cs.length<=12) (eY:nm<=8) (aW:m.code.length<=maxLen) (hlo:0<=m.locs) (dR:m.locs<=60) :
  Calls Tryz.prog 23 #[fU cs.length nm A B x y,iW m P C K p c k,inV ⟨20,a,0,0,0,[]⟩ Q q] w fun e w'=>e=.returned (.bool (bE cs nm m.code.length m.locs ⟨20,a,0,0,0,[]⟩))/\Bl w w':=by
 unfold maxLen at aW
 go_enter Tryz.func23,Tryz.ntmps23
 go_wp2_with (go_at_call 20;refine (aE _ _ _ _).mono ?_;rintro e w' ⟨rfl,rfl⟩)
 all_goals
  go_ret
  refine ⟨aj ?_,(((Bl.refl _).alloc _).alloc _).alloc _⟩
  rw [Bool.eq_iff_iff];simp [bE];try omega
theorem JI (eU:cs.length<=12) (eY:nm<=8) (aW:m.code.length<=maxLen) (hlo:0<=m.locs) (dR:m.locs<=60) :
  Calls Tryz.prog 23 #[fU cs.length nm A B x y,iW m P C K p c k,inV ⟨21,a,0,0,0,[]⟩ Q q] w fun e w'=>e=.returned (.bool (bE cs nm m.code.length m.locs ⟨21,a,0,0,0,[]⟩))/\Bl w w':=by
 unfold maxLen at aW
 go_enter Tryz.func23,Tryz.ntmps23
 go_wp2_with (go_at_call 20;refine (aE _ _ _ _).mono ?_;rintro e w' ⟨rfl,rfl⟩)
 all_goals
  go_ret
  refine ⟨aj ?_,(((Bl.refl _).alloc _).alloc _).alloc _⟩
  rw [Bool.eq_iff_iff];simp [bE];try omega
theorem JJ (eU:cs.length<=12) (eY:nm<=8) (aW:m.code.length<=maxLen) (hlo:0<=m.locs) (dR:m.locs<=60) :
  Calls Tryz.prog 23 #[fU cs.length nm A B x y,iW m P C K p c k,inV ⟨22,a,0,0,0,[]⟩ Q q] w fun e w'=>e=.returned (.bool (bE cs nm m.code.length m.locs ⟨22,a,0,0,0,[]⟩))/\Bl w w':=by
 unfold maxLen at aW
 go_enter Tryz.func23,Tryz.ntmps23
 go_wp2_with (go_at_call 20;refine (aE _ _ _ _).mono ?_;rintro e w' ⟨rfl,rfl⟩)
 all_goals
  go_ret
  refine ⟨aj ?_,(((Bl.refl _).alloc _).alloc _).alloc _⟩
  rw [Bool.eq_iff_iff];simp [bE];try omega
theorem JK (eU:cs.length<=12) (eY:nm<=8) (aW:m.code.length<=maxLen) (hlo:0<=m.locs) (dR:m.locs<=60) :
  Calls Tryz.prog 23 #[fU cs.length nm A B x y,iW m P C K p c k,inV ⟨23,a,0,0,0,[]⟩ Q q] w fun e w'=>e=.returned (.bool (bE cs nm m.code.length m.locs ⟨23,a,0,0,0,[]⟩))/\Bl w w':=by
 unfold maxLen at aW
 go_enter Tryz.func23,Tryz.ntmps23
 go_wp2_with (go_at_call 20;refine (aE _ _ _ _).mono ?_;rintro e w' ⟨rfl,rfl⟩)
 all_goals
  go_ret
  refine ⟨aj ?_,(((Bl.refl _).alloc _).alloc _).alloc _⟩
  rw [Bool.eq_iff_iff];simp [bE];try omega
theorem JL (eU:cs.length<=12) (eY:nm<=8) (aW:m.code.length<=maxLen) (hlo:0<=m.locs) (dR:m.locs<=60) :
  Calls Tryz.prog 23 #[fU cs.length nm A B x y,iW m P C K p c k,inV ⟨25,a,0,0,0,[]⟩ Q q] w fun e w'=>e=.returned (.bool (bE cs nm m.code.length m.locs ⟨25,a,0,0,0,[]⟩))/\Bl w w':=by
 unfold maxLen at aW
 go_enter Tryz.func23,Tryz.ntmps23
 go_wp2_with (go_at_call 20;refine (aE _ _ _ _).mono ?_;rintro e w' ⟨rfl,rfl⟩)
 all_goals
  go_ret
  refine ⟨aj ?_,(((Bl.refl _).alloc _).alloc _).alloc _⟩
  rw [Bool.eq_iff_iff];simp [bE];try omega
theorem MV (eU:cs.length<=12) (eY:nm<=8) (aW:m.code.length<=maxLen) (hlo:0<=m.locs) (dR:m.locs<=60) :
  Calls Tryz.prog 23 #[fU cs.length nm A B x y,iW m P C K p c k,inV ⟨6,a,0,0,0,[]⟩ Q q] w fun e w'=>e=.returned (.bool (bE cs nm m.code.length m.locs ⟨6,a,0,0,0,[]⟩))/\Bl w w':=by
 unfold maxLen at aW
 go_enter Tryz.func23,Tryz.ntmps23
 go_wp2_with (go_at_call 20;refine (aE _ _ _ _).mono ?_;rintro e w' ⟨rfl,rfl⟩)
 all_goals
  go_ret
  refine ⟨aj ?_,(((Bl.refl _).alloc _).alloc _).alloc _⟩
  rw [Bool.eq_iff_iff];simp [bE];try omega
theorem MW (eU:cs.length<=12) (eY:nm<=8) (aW:m.code.length<=maxLen) (hlo:0<=m.locs) (dR:m.locs<=60) :
  Calls Tryz.prog 23 #[fU cs.length nm A B x y,iW m P C K p c k,inV ⟨7,a,0,0,0,[]⟩ Q q] w fun e w'=>e=.returned (.bool (bE cs nm m.code.length m.locs ⟨7,a,0,0,0,[]⟩))/\Bl w w':=by
 unfold maxLen at aW
 go_enter Tryz.func23,Tryz.ntmps23
 go_wp2_with (go_at_call 20;refine (aE _ _ _ _).mono ?_;rintro e w' ⟨rfl,rfl⟩)
 all_goals
  go_ret
  refine ⟨aj ?_,(((Bl.refl _).alloc _).alloc _).alloc _⟩
  rw [Bool.eq_iff_iff];simp [bE];try omega
theorem JM (eU:cs.length<=12) (eY:nm<=8) (aW:m.code.length<=maxLen) (hlo:0<=m.locs) (dR:m.locs<=60) :
  Calls Tryz.prog 23 #[fU cs.length nm A B x y,iW m P C K p c k,inV ⟨11,a,0,0,0,[]⟩ Q q] w fun e w'=>e=.returned (.bool (bE cs nm m.code.length m.locs ⟨11,a,0,0,0,[]⟩))/\Bl w w':=by
 unfold maxLen at aW
 go_enter Tryz.func23,Tryz.ntmps23
 go_wp2_with (go_at_call 20;refine (aE _ _ _ _).mono ?_;rintro e w' ⟨rfl,rfl⟩)
 all_goals
  go_ret
  refine ⟨aj ?_,(((Bl.refl _).alloc _).alloc _).alloc _⟩
  rw [Bool.eq_iff_iff];simp [bE];try omega
theorem JN (eU:cs.length<=12) (eY:nm<=8) (aW:m.code.length<=maxLen) (hlo:0<=m.locs) (dR:m.locs<=60) :
  Calls Tryz.prog 23 #[fU cs.length nm A B x y,iW m P C K p c k,inV ⟨13,a,0,0,0,[]⟩ Q q] w fun e w'=>e=.returned (.bool (bE cs nm m.code.length m.locs ⟨13,a,0,0,0,[]⟩))/\Bl w w':=by
 unfold maxLen at aW
 go_enter Tryz.func23,Tryz.ntmps23
 go_wp2_with (go_at_call 20;refine (aE _ _ _ _).mono ?_;rintro e w' ⟨rfl,rfl⟩)
 all_goals
  go_ret
  refine ⟨aj ?_,(((Bl.refl _).alloc _).alloc _).alloc _⟩
  rw [Bool.eq_iff_iff];simp [bE];try omega
theorem JO (eU:cs.length<=12) (eY:nm<=8) (aW:m.code.length<=maxLen) (hlo:0<=m.locs) (dR:m.locs<=60) :
  Calls Tryz.prog 23 #[fU cs.length nm A B x y,iW m P C K p c k,inV ⟨14,a,0,0,0,[]⟩ Q q] w fun e w'=>e=.returned (.bool (bE cs nm m.code.length m.locs ⟨14,a,0,0,0,[]⟩))/\Bl w w':=by
 unfold maxLen at aW
 go_enter Tryz.func23,Tryz.ntmps23
 go_wp2_with (go_at_call 20;refine (aE _ _ _ _).mono ?_;rintro e w' ⟨rfl,rfl⟩)
 all_goals
  go_ret
  refine ⟨aj ?_,(((Bl.refl _).alloc _).alloc _).alloc _⟩
  rw [Bool.eq_iff_iff];simp [bE];try omega
theorem JP (eU:cs.length<=12) (eY:nm<=8) (aW:m.code.length<=maxLen) (hlo:0<=m.locs) (dR:m.locs<=60) :
  Calls Tryz.prog 23 #[fU cs.length nm A B x y,iW m P C K p c k,inV ⟨17,a,0,0,0,[]⟩ Q q] w fun e w'=>e=.returned (.bool (bE cs nm m.code.length m.locs ⟨17,a,0,0,0,[]⟩))/\Bl w w':=by
 unfold maxLen at aW
 go_enter Tryz.func23,Tryz.ntmps23
 go_wp2_with (go_at_call 20;refine (aE _ _ _ _).mono ?_;rintro e w' ⟨rfl,rfl⟩)
 all_goals
  go_ret
  refine ⟨aj ?_,(((Bl.refl _).alloc _).alloc _).alloc _⟩
  rw [Bool.eq_iff_iff];simp [bE];try omega
theorem JQ (eU:cs.length<=12) (eY:nm<=8) (aW:m.code.length<=maxLen) (hlo:0<=m.locs) (dR:m.locs<=60) :
  Calls Tryz.prog 23 #[fU cs.length nm A B x y,iW m P C K p c k,inV ⟨18,a,0,0,0,[]⟩ Q q] w fun e w'=>e=.returned (.bool (bE cs nm m.code.length m.locs ⟨18,a,0,0,0,[]⟩))/\Bl w w':=by
 unfold maxLen at aW
 go_enter Tryz.func23,Tryz.ntmps23
 go_wp2_with (go_at_call 20;refine (aE _ _ _ _).mono ?_;rintro e w' ⟨rfl,rfl⟩)
 all_goals
  go_ret
  refine ⟨aj ?_,(((Bl.refl _).alloc _).alloc _).alloc _⟩
  rw [Bool.eq_iff_iff];simp [bE];try omega
theorem JR (eU:cs.length<=12) (eY:nm<=8) (aW:m.code.length<=maxLen) (hlo:0<=m.locs) (dR:m.locs<=60) :
  Calls Tryz.prog 23 #[fU cs.length nm A B x y,iW m P C K p c k,inV ⟨19,a,0,0,0,[]⟩ Q q] w fun e w'=>e=.returned (.bool (bE cs nm m.code.length m.locs ⟨19,a,0,0,0,[]⟩))/\Bl w w':=by
 unfold maxLen at aW
 go_enter Tryz.func23,Tryz.ntmps23
 go_wp2_with (go_at_call 20;refine (aE _ _ _ _).mono ?_;rintro e w' ⟨rfl,rfl⟩)
 all_goals
  go_ret
  refine ⟨aj ?_,(((Bl.refl _).alloc _).alloc _).alloc _⟩
  rw [Bool.eq_iff_iff];simp [bE];try omega
theorem JS (eU:cs.length<=12) (eY:nm<=8) (aW:m.code.length<=maxLen) (hlo:0<=m.locs) (dR:m.locs<=60) :
  Calls Tryz.prog 23 #[fU cs.length nm A B x y,iW m P C K p c k,inV ⟨24,a,0,0,0,[]⟩ Q q] w fun e w'=>e=.returned (.bool (bE cs nm m.code.length m.locs ⟨24,a,0,0,0,[]⟩))/\Bl w w':=by
 unfold maxLen at aW
 go_enter Tryz.func23,Tryz.ntmps23
 go_wp2_with (go_at_call 20;refine (aE _ _ _ _).mono ?_;rintro e w' ⟨rfl,rfl⟩)
 all_goals
  go_ret
  refine ⟨aj ?_,(((Bl.refl _).alloc _).alloc _).alloc _⟩
  rw [Bool.eq_iff_iff];simp [bE];try omega
end
end Go.Proofs.YtgiiapenmjollaaGreat
