import Derived.Test.YtgiiapenmjollaaGreatSsaf
namespace Go.Proofs.YtgiiapenmjollaaGreat
set_option linter.all false
set_option maxHeartbeats 40000000
set_option maxRecDepth 100000
open Go.RowKit
abbrev inV (i:In) (Q:Option Addr) (q:Nat):Value:=.agg #[.int .i64 i.op,.int .i64 i.a,.int .i64 i.b,.int .i64 i.c,.int .i64 i.n,.slice Q i.args.length q]
abbrev boxed3 (w:World) (nc nm:Nat) (A B:Option Addr) (x y:Nat) (m:Me) (P C K:Option Addr) (p c k:Nat) (i:In) (Q:Option Addr) (q:Nat):World :=
 ((w.alloc (.cells #[.slice A nc x,.slice B nm y] 25)).alloc (.cells #[.slice P m.params.length p,.int .i64 m.ret.kind,.int .i64 m.ret.cls,.int .i64 m.stack,.int .i64 m.locs,.int .i64 m.regs,.slice C m.code.length c,.slice K m.hands.length k] 49)).alloc
  (.cells #[.int .i64 i.op,.int .i64 i.a,.int .i64 i.b,.int .i64 i.c,.int .i64 i.n,.slice Q i.args.length q] 55)
theorem rins_bad (i:In) (cs:List Cl) (nm:Nat) (A B:Option Addr) (x y:Nat) (m:Me) (P C K:Option Addr) (p c k:Nat) (Q:Option Addr) (q:Nat) (w:World) (hnc:cs.length≤12) (hnm:nm≤8) (hcode:m.code.length≤maxLen) (hlo:0≤m.locs) (hhi:m.locs≤60) (h:¬(i.c=0∧i.args.length=0)) :
  Calls Tryz.prog 23 #[fiV cs.length nm A B x y,meV m P C K p c k,inV i Q q] w fun e w'=>e=.returned (.bool (sinB cs nm m.code.length m.locs i))∧Bl w w':=by
 have hb:sinB cs nm m.code.length m.locs i=false:=by unfold sinB;rw [decide_eq_false h];rfl
 rw [hb]
 clear hb
 unfold maxLen at hcode
 by_cases h1:i.c=0
 ·have h2:0<i.args.length:=by omega
  go_enter Tryz.func23,Tryz.ntmps23
  go_wp2
  go_ret
  exact ⟨rfl,(((Bl.refl _).alloc _).alloc _).alloc _⟩
 ·have h1':(i.c !=0)=true:=by simpa using h1
  go_enter Tryz.func23,Tryz.ntmps23
  go_wp2
  go_ret
  exact ⟨rfl,(((Bl.refl _).alloc _).alloc _).alloc _⟩
theorem rins_1 (a b n:Int) (cs:List Cl) (nm:Nat) (A B:Option Addr) (x y:Nat) (m:Me) (P C K:Option Addr) (p c k:Nat) (Q:Option Addr) (q:Nat) (w:World) (hnc:cs.length≤12) (hnm:nm≤8) (hcode:m.code.length≤maxLen) (hlo:0≤m.locs) (hhi:m.locs≤60) :
  Calls Tryz.prog 23 #[fiV cs.length nm A B x y,meV m P C K p c k,inV ⟨1,a,b,0,n,[]⟩ Q q] w fun e w'=>e=.returned (.bool (sinB cs nm m.code.length m.locs ⟨1,a,b,0,n,[]⟩))∧Bl w w':=by
 unfold maxLen at hcode
 by_cases ha:a=0
 ·subst ha
  by_cases hb:b=0
  ·subst hb
   go_enter Tryz.func23,Tryz.ntmps23
   go_wp2_with (go_at_call 20;refine (within_any _ _ _ _).mono ?_;rintro e w' ⟨rfl,rfl⟩)
   all_goals
    go_ret
    refine ⟨ret_bool ?_,(((Bl.refl _).alloc _).alloc _).alloc _⟩
    rw [Bool.eq_iff_iff];simp [sinB];try omega
  ·have hb':(b==0)=false:=by simpa using hb
   go_enter Tryz.func23,Tryz.ntmps23
   go_wp2_with (go_at_call 20;refine (within_any _ _ _ _).mono ?_;rintro e w' ⟨rfl,rfl⟩)
   all_goals
    go_ret
    refine ⟨ret_bool ?_,(((Bl.refl _).alloc _).alloc _).alloc _⟩
    rw [Bool.eq_iff_iff];simp [sinB,hb];try omega
 ·have ha':(a==0)=false:=by simpa using ha
  go_enter Tryz.func23,Tryz.ntmps23
  go_wp2_with (go_at_call 20;refine (within_any _ _ _ _).mono ?_;rintro e w' ⟨rfl,rfl⟩)
  all_goals
   go_ret
   refine ⟨ret_bool ?_,(((Bl.refl _).alloc _).alloc _).alloc _⟩
   rw [Bool.eq_iff_iff];simp [sinB,ha];try omega
theorem rins_2 (a b n:Int) (cs:List Cl) (nm:Nat) (A B:Option Addr) (x y:Nat) (m:Me) (P C K:Option Addr) (p c k:Nat) (Q:Option Addr) (q:Nat) (w:World) (hnc:cs.length≤12) (hnm:nm≤8) (hcode:m.code.length≤maxLen) (hlo:0≤m.locs) (hhi:m.locs≤60) :
  Calls Tryz.prog 23 #[fiV cs.length nm A B x y,meV m P C K p c k,inV ⟨2,a,b,0,n,[]⟩ Q q] w fun e w'=>e=.returned (.bool (sinB cs nm m.code.length m.locs ⟨2,a,b,0,n,[]⟩))∧Bl w w':=by
 unfold maxLen at hcode
 by_cases ha:a=0
 ·subst ha
  by_cases hb:b=0
  ·subst hb
   go_enter Tryz.func23,Tryz.ntmps23
   go_wp2_with (go_at_call 20;refine (within_any _ _ _ _).mono ?_;rintro e w' ⟨rfl,rfl⟩)
   all_goals
    go_ret
    refine ⟨ret_bool ?_,(((Bl.refl _).alloc _).alloc _).alloc _⟩
    rw [Bool.eq_iff_iff];simp [sinB];try omega
  ·have hb':(b==0)=false:=by simpa using hb
   go_enter Tryz.func23,Tryz.ntmps23
   go_wp2_with (go_at_call 20;refine (within_any _ _ _ _).mono ?_;rintro e w' ⟨rfl,rfl⟩)
   all_goals
    go_ret
    refine ⟨ret_bool ?_,(((Bl.refl _).alloc _).alloc _).alloc _⟩
    rw [Bool.eq_iff_iff];simp [sinB,hb];try omega
 ·have ha':(a==0)=false:=by simpa using ha
  go_enter Tryz.func23,Tryz.ntmps23
  go_wp2_with (go_at_call 20;refine (within_any _ _ _ _).mono ?_;rintro e w' ⟨rfl,rfl⟩)
  all_goals
   go_ret
   refine ⟨ret_bool ?_,(((Bl.refl _).alloc _).alloc _).alloc _⟩
   rw [Bool.eq_iff_iff];simp [sinB,ha];try omega
theorem rins_n (op a b n:Int) (h1:op≠1) (h2:op≠2) (hn:n≠0) (cs:List Cl) (nm:Nat) (A B:Option Addr) (x y:Nat) (m:Me) (P C K:Option Addr) (p c k:Nat) (Q:Option Addr) (q:Nat) (w:World) (hnc:cs.length≤12) (hnm:nm≤8) (hcode:m.code.length≤maxLen) (hlo:0≤m.locs) (hhi:m.locs≤60) :
  Calls Tryz.prog 23 #[fiV cs.length nm A B x y,meV m P C K p c k,inV ⟨op,a,b,0,n,[]⟩ Q q] w fun e w'=>e=.returned (.bool (sinB cs nm m.code.length m.locs ⟨op,a,b,0,n,[]⟩))∧Bl w w':=by
 unfold maxLen at hcode
 have hn':(n !=0)=true:=by simpa using hn
 have z1:(op==1)=false:=by simp;omega
 have z2:(op==2)=false:=by simp;omega
 go_enter Tryz.func23,Tryz.ntmps23
 go_wp2_with (go_at_call 20;refine (within_any _ _ _ _).mono ?_;rintro e w' ⟨rfl,rfl⟩)
 all_goals
  go_ret
  refine ⟨ret_bool ?_,(((Bl.refl _).alloc _).alloc _).alloc _⟩
  rw [Bool.eq_iff_iff];simp [sinB,h1,h2,hn];try omega
theorem rins_4 (a b:Int) (cs:List Cl) (nm:Nat) (A B:Option Addr) (x y:Nat) (m:Me) (P C K:Option Addr) (p c k:Nat) (Q:Option Addr) (q:Nat) (w:World) (hnc:cs.length≤12) (hnm:nm≤8) (hcode:m.code.length≤maxLen) (hlo:0≤m.locs) (hhi:m.locs≤60) :
  Calls Tryz.prog 23 #[fiV cs.length nm A B x y,meV m P C K p c k,inV ⟨4,a,b,0,0,[]⟩ Q q] w fun e w'=>e=.returned (.bool (sinB cs nm m.code.length m.locs ⟨4,a,b,0,0,[]⟩))∧Bl w w':=by
 unfold maxLen at hcode
 by_cases hb:b=2
 ·subst hb
  go_enter Tryz.func23,Tryz.ntmps23
  go_wp2_with (go_at_call 20;refine (within_any _ _ _ _).mono ?_;rintro e w' ⟨rfl,rfl⟩)
  all_goals
   go_ret
   refine ⟨ret_bool ?_,(((Bl.refl _).alloc _).alloc _).alloc _⟩
   rw [Bool.eq_iff_iff];simp [sinB];try omega
 ·have hb':(b==2)=false:=by simpa using hb
  go_enter Tryz.func23,Tryz.ntmps23
  go_wp2_with (go_at_call 20;refine (within_any _ _ _ _).mono ?_;rintro e w' ⟨rfl,rfl⟩)
  all_goals
   go_ret
   refine ⟨ret_bool ?_,(((Bl.refl _).alloc _).alloc _).alloc _⟩
   rw [Bool.eq_iff_iff];simp [sinB,hb];try omega
theorem rins_5 (a b:Int) (cs:List Cl) (nm:Nat) (A B:Option Addr) (x y:Nat) (m:Me) (P C K:Option Addr) (p c k:Nat) (Q:Option Addr) (q:Nat) (w:World) (hnc:cs.length≤12) (hnm:nm≤8) (hcode:m.code.length≤maxLen) (hlo:0≤m.locs) (hhi:m.locs≤60) :
  Calls Tryz.prog 23 #[fiV cs.length nm A B x y,meV m P C K p c k,inV ⟨5,a,b,0,0,[]⟩ Q q] w fun e w'=>e=.returned (.bool (sinB cs nm m.code.length m.locs ⟨5,a,b,0,0,[]⟩))∧Bl w w':=by
 unfold maxLen at hcode
 by_cases hb:b=2
 ·subst hb
  go_enter Tryz.func23,Tryz.ntmps23
  go_wp2_with (go_at_call 20;refine (within_any _ _ _ _).mono ?_;rintro e w' ⟨rfl,rfl⟩)
  all_goals
   go_ret
   refine ⟨ret_bool ?_,(((Bl.refl _).alloc _).alloc _).alloc _⟩
   rw [Bool.eq_iff_iff];simp [sinB];try omega
 ·have hb':(b==2)=false:=by simpa using hb
  go_enter Tryz.func23,Tryz.ntmps23
  go_wp2_with (go_at_call 20;refine (within_any _ _ _ _).mono ?_;rintro e w' ⟨rfl,rfl⟩)
  all_goals
   go_ret
   refine ⟨ret_bool ?_,(((Bl.refl _).alloc _).alloc _).alloc _⟩
   rw [Bool.eq_iff_iff];simp [sinB,hb];try omega
theorem rins_12 (a b:Int) (cs:List Cl) (nm:Nat) (A B:Option Addr) (x y:Nat) (m:Me) (P C K:Option Addr) (p c k:Nat) (Q:Option Addr) (q:Nat) (w:World) (hnc:cs.length≤12) (hnm:nm≤8) (hcode:m.code.length≤maxLen) (hlo:0≤m.locs) (hhi:m.locs≤60) :
  Calls Tryz.prog 23 #[fiV cs.length nm A B x y,meV m P C K p c k,inV ⟨12,a,b,0,0,[]⟩ Q q] w fun e w'=>e=.returned (.bool (sinB cs nm m.code.length m.locs ⟨12,a,b,0,0,[]⟩))∧Bl w w':=by
 unfold maxLen at hcode
 go_enter Tryz.func23,Tryz.ntmps23
 go_wp2_with (go_at_call 20;refine (within_any _ _ _ _).mono ?_;rintro e w' ⟨rfl,rfl⟩)
 all_goals
  go_ret
  refine ⟨ret_bool ?_,(((Bl.refl _).alloc _).alloc _).alloc _⟩
  rw [Bool.eq_iff_iff];simp [sinB];try omega
theorem rins_b (op a b:Int) (h:op≠1∧op≠2∧op≠4∧op≠5∧op≠12∧op≠15∧op≠16) (hb:b≠0) (cs:List Cl) (nm:Nat) (A B:Option Addr) (x y:Nat) (m:Me) (P C K:Option Addr) (p c k:Nat) (Q:Option Addr) (q:Nat) (w:World) (hnc:cs.length≤12) (hnm:nm≤8) (hcode:m.code.length≤maxLen) (hlo:0≤m.locs) (hhi:m.locs≤60) :
  Calls Tryz.prog 23 #[fiV cs.length nm A B x y,meV m P C K p c k,inV ⟨op,a,b,0,0,[]⟩ Q q] w fun e w'=>e=.returned (.bool (sinB cs nm m.code.length m.locs ⟨op,a,b,0,0,[]⟩))∧Bl w w':=by
 unfold maxLen at hcode
 have hb':(b !=0)=true:=by simpa using hb
 have z1:(op==1)=false:=by simp;omega
 have z2:(op==2)=false:=by simp;omega
 have z4:(op==4)=false:=by simp;omega
 have z5:(op==5)=false:=by simp;omega
 have z12:(op==12)=false:=by simp;omega
 have z15:(op==15)=false:=by simp;omega
 have z16:(op==16)=false:=by simp;omega
 obtain ⟨h1,h2,h4,h5,h12,h15,h16⟩:=h
 go_enter Tryz.func23,Tryz.ntmps23
 go_wp2_with (go_at_call 20;refine (within_any _ _ _ _).mono ?_;rintro e w' ⟨rfl,rfl⟩)
 all_goals
  go_ret
  refine ⟨ret_bool ?_,(((Bl.refl _).alloc _).alloc _).alloc _⟩
  rw [Bool.eq_iff_iff];simp [sinB,h1,h2,h4,h5,h12,h15,h16,hb];try omega
theorem rins_3 (a:Int) (cs:List Cl) (nm:Nat) (A B:Option Addr) (x y:Nat) (m:Me) (P C K:Option Addr) (p c k:Nat) (Q:Option Addr) (q:Nat) (w:World) (hnc:cs.length≤12) (hnm:nm≤8) (hcode:m.code.length≤maxLen) (hlo:0≤m.locs) (hhi:m.locs≤60) :
  Calls Tryz.prog 23 #[fiV cs.length nm A B x y,meV m P C K p c k,inV ⟨3,a,0,0,0,[]⟩ Q q] w fun e w'=>e=.returned (.bool (sinB cs nm m.code.length m.locs ⟨3,a,0,0,0,[]⟩))∧Bl w w':=by
 unfold maxLen at hcode
 go_enter Tryz.func23,Tryz.ntmps23
 go_wp2_with (go_at_call 20;refine (within_any _ _ _ _).mono ?_;rintro e w' ⟨rfl,rfl⟩)
 all_goals
  go_ret
  refine ⟨ret_bool ?_,(((Bl.refl _).alloc _).alloc _).alloc _⟩
  rw [Bool.eq_iff_iff];simp [sinB];try omega
theorem rins_8 (a:Int) (cs:List Cl) (nm:Nat) (A B:Option Addr) (x y:Nat) (m:Me) (P C K:Option Addr) (p c k:Nat) (Q:Option Addr) (q:Nat) (w:World) (hnc:cs.length≤12) (hnm:nm≤8) (hcode:m.code.length≤maxLen) (hlo:0≤m.locs) (hhi:m.locs≤60) :
  Calls Tryz.prog 23 #[fiV cs.length nm A B x y,meV m P C K p c k,inV ⟨8,a,0,0,0,[]⟩ Q q] w fun e w'=>e=.returned (.bool (sinB cs nm m.code.length m.locs ⟨8,a,0,0,0,[]⟩))∧Bl w w':=by
 unfold maxLen at hcode
 go_enter Tryz.func23,Tryz.ntmps23
 go_wp2_with (go_at_call 20;refine (within_any _ _ _ _).mono ?_;rintro e w' ⟨rfl,rfl⟩)
 all_goals
  go_ret
  refine ⟨ret_bool ?_,(((Bl.refl _).alloc _).alloc _).alloc _⟩
  rw [Bool.eq_iff_iff];simp [sinB];try omega
theorem rins_9 (a:Int) (cs:List Cl) (nm:Nat) (A B:Option Addr) (x y:Nat) (m:Me) (P C K:Option Addr) (p c k:Nat) (Q:Option Addr) (q:Nat) (w:World) (hnc:cs.length≤12) (hnm:nm≤8) (hcode:m.code.length≤maxLen) (hlo:0≤m.locs) (hhi:m.locs≤60) :
  Calls Tryz.prog 23 #[fiV cs.length nm A B x y,meV m P C K p c k,inV ⟨9,a,0,0,0,[]⟩ Q q] w fun e w'=>e=.returned (.bool (sinB cs nm m.code.length m.locs ⟨9,a,0,0,0,[]⟩))∧Bl w w':=by
 unfold maxLen at hcode
 go_enter Tryz.func23,Tryz.ntmps23
 go_wp2_with (go_at_call 20;refine (within_any _ _ _ _).mono ?_;rintro e w' ⟨rfl,rfl⟩)
 all_goals
  go_ret
  refine ⟨ret_bool ?_,(((Bl.refl _).alloc _).alloc _).alloc _⟩
  rw [Bool.eq_iff_iff];simp [sinB];try omega
theorem rins_10 (a:Int) (cs:List Cl) (nm:Nat) (A B:Option Addr) (x y:Nat) (m:Me) (P C K:Option Addr) (p c k:Nat) (Q:Option Addr) (q:Nat) (w:World) (hnc:cs.length≤12) (hnm:nm≤8) (hcode:m.code.length≤maxLen) (hlo:0≤m.locs) (hhi:m.locs≤60) :
  Calls Tryz.prog 23 #[fiV cs.length nm A B x y,meV m P C K p c k,inV ⟨10,a,0,0,0,[]⟩ Q q] w fun e w'=>e=.returned (.bool (sinB cs nm m.code.length m.locs ⟨10,a,0,0,0,[]⟩))∧Bl w w':=by
 unfold maxLen at hcode
 go_enter Tryz.func23,Tryz.ntmps23
 go_wp2_with (go_at_call 20;refine (within_any _ _ _ _).mono ?_;rintro e w' ⟨rfl,rfl⟩)
 all_goals
  go_ret
  refine ⟨ret_bool ?_,(((Bl.refl _).alloc _).alloc _).alloc _⟩
  rw [Bool.eq_iff_iff];simp [sinB];try omega
theorem rins_20 (a:Int) (cs:List Cl) (nm:Nat) (A B:Option Addr) (x y:Nat) (m:Me) (P C K:Option Addr) (p c k:Nat) (Q:Option Addr) (q:Nat) (w:World) (hnc:cs.length≤12) (hnm:nm≤8) (hcode:m.code.length≤maxLen) (hlo:0≤m.locs) (hhi:m.locs≤60) :
  Calls Tryz.prog 23 #[fiV cs.length nm A B x y,meV m P C K p c k,inV ⟨20,a,0,0,0,[]⟩ Q q] w fun e w'=>e=.returned (.bool (sinB cs nm m.code.length m.locs ⟨20,a,0,0,0,[]⟩))∧Bl w w':=by
 unfold maxLen at hcode
 go_enter Tryz.func23,Tryz.ntmps23
 go_wp2_with (go_at_call 20;refine (within_any _ _ _ _).mono ?_;rintro e w' ⟨rfl,rfl⟩)
 all_goals
  go_ret
  refine ⟨ret_bool ?_,(((Bl.refl _).alloc _).alloc _).alloc _⟩
  rw [Bool.eq_iff_iff];simp [sinB];try omega
theorem rins_21 (a:Int) (cs:List Cl) (nm:Nat) (A B:Option Addr) (x y:Nat) (m:Me) (P C K:Option Addr) (p c k:Nat) (Q:Option Addr) (q:Nat) (w:World) (hnc:cs.length≤12) (hnm:nm≤8) (hcode:m.code.length≤maxLen) (hlo:0≤m.locs) (hhi:m.locs≤60) :
  Calls Tryz.prog 23 #[fiV cs.length nm A B x y,meV m P C K p c k,inV ⟨21,a,0,0,0,[]⟩ Q q] w fun e w'=>e=.returned (.bool (sinB cs nm m.code.length m.locs ⟨21,a,0,0,0,[]⟩))∧Bl w w':=by
 unfold maxLen at hcode
 go_enter Tryz.func23,Tryz.ntmps23
 go_wp2_with (go_at_call 20;refine (within_any _ _ _ _).mono ?_;rintro e w' ⟨rfl,rfl⟩)
 all_goals
  go_ret
  refine ⟨ret_bool ?_,(((Bl.refl _).alloc _).alloc _).alloc _⟩
  rw [Bool.eq_iff_iff];simp [sinB];try omega
theorem rins_22 (a:Int) (cs:List Cl) (nm:Nat) (A B:Option Addr) (x y:Nat) (m:Me) (P C K:Option Addr) (p c k:Nat) (Q:Option Addr) (q:Nat) (w:World) (hnc:cs.length≤12) (hnm:nm≤8) (hcode:m.code.length≤maxLen) (hlo:0≤m.locs) (hhi:m.locs≤60) :
  Calls Tryz.prog 23 #[fiV cs.length nm A B x y,meV m P C K p c k,inV ⟨22,a,0,0,0,[]⟩ Q q] w fun e w'=>e=.returned (.bool (sinB cs nm m.code.length m.locs ⟨22,a,0,0,0,[]⟩))∧Bl w w':=by
 unfold maxLen at hcode
 go_enter Tryz.func23,Tryz.ntmps23
 go_wp2_with (go_at_call 20;refine (within_any _ _ _ _).mono ?_;rintro e w' ⟨rfl,rfl⟩)
 all_goals
  go_ret
  refine ⟨ret_bool ?_,(((Bl.refl _).alloc _).alloc _).alloc _⟩
  rw [Bool.eq_iff_iff];simp [sinB];try omega
theorem rins_23 (a:Int) (cs:List Cl) (nm:Nat) (A B:Option Addr) (x y:Nat) (m:Me) (P C K:Option Addr) (p c k:Nat) (Q:Option Addr) (q:Nat) (w:World) (hnc:cs.length≤12) (hnm:nm≤8) (hcode:m.code.length≤maxLen) (hlo:0≤m.locs) (hhi:m.locs≤60) :
  Calls Tryz.prog 23 #[fiV cs.length nm A B x y,meV m P C K p c k,inV ⟨23,a,0,0,0,[]⟩ Q q] w fun e w'=>e=.returned (.bool (sinB cs nm m.code.length m.locs ⟨23,a,0,0,0,[]⟩))∧Bl w w':=by
 unfold maxLen at hcode
 go_enter Tryz.func23,Tryz.ntmps23
 go_wp2_with (go_at_call 20;refine (within_any _ _ _ _).mono ?_;rintro e w' ⟨rfl,rfl⟩)
 all_goals
  go_ret
  refine ⟨ret_bool ?_,(((Bl.refl _).alloc _).alloc _).alloc _⟩
  rw [Bool.eq_iff_iff];simp [sinB];try omega
theorem rins_25 (a:Int) (cs:List Cl) (nm:Nat) (A B:Option Addr) (x y:Nat) (m:Me) (P C K:Option Addr) (p c k:Nat) (Q:Option Addr) (q:Nat) (w:World) (hnc:cs.length≤12) (hnm:nm≤8) (hcode:m.code.length≤maxLen) (hlo:0≤m.locs) (hhi:m.locs≤60) :
  Calls Tryz.prog 23 #[fiV cs.length nm A B x y,meV m P C K p c k,inV ⟨25,a,0,0,0,[]⟩ Q q] w fun e w'=>e=.returned (.bool (sinB cs nm m.code.length m.locs ⟨25,a,0,0,0,[]⟩))∧Bl w w':=by
 unfold maxLen at hcode
 go_enter Tryz.func23,Tryz.ntmps23
 go_wp2_with (go_at_call 20;refine (within_any _ _ _ _).mono ?_;rintro e w' ⟨rfl,rfl⟩)
 all_goals
  go_ret
  refine ⟨ret_bool ?_,(((Bl.refl _).alloc _).alloc _).alloc _⟩
  rw [Bool.eq_iff_iff];simp [sinB];try omega
theorem rins_6 (a:Int) (cs:List Cl) (nm:Nat) (A B:Option Addr) (x y:Nat) (m:Me) (P C K:Option Addr) (p c k:Nat) (Q:Option Addr) (q:Nat) (w:World) (hnc:cs.length≤12) (hnm:nm≤8) (hcode:m.code.length≤maxLen) (hlo:0≤m.locs) (hhi:m.locs≤60) :
  Calls Tryz.prog 23 #[fiV cs.length nm A B x y,meV m P C K p c k,inV ⟨6,a,0,0,0,[]⟩ Q q] w fun e w'=>e=.returned (.bool (sinB cs nm m.code.length m.locs ⟨6,a,0,0,0,[]⟩))∧Bl w w':=by
 unfold maxLen at hcode
 go_enter Tryz.func23,Tryz.ntmps23
 go_wp2_with (go_at_call 20;refine (within_any _ _ _ _).mono ?_;rintro e w' ⟨rfl,rfl⟩)
 all_goals
  go_ret
  refine ⟨ret_bool ?_,(((Bl.refl _).alloc _).alloc _).alloc _⟩
  rw [Bool.eq_iff_iff];simp [sinB];try omega
theorem rins_7 (a:Int) (cs:List Cl) (nm:Nat) (A B:Option Addr) (x y:Nat) (m:Me) (P C K:Option Addr) (p c k:Nat) (Q:Option Addr) (q:Nat) (w:World) (hnc:cs.length≤12) (hnm:nm≤8) (hcode:m.code.length≤maxLen) (hlo:0≤m.locs) (hhi:m.locs≤60) :
  Calls Tryz.prog 23 #[fiV cs.length nm A B x y,meV m P C K p c k,inV ⟨7,a,0,0,0,[]⟩ Q q] w fun e w'=>e=.returned (.bool (sinB cs nm m.code.length m.locs ⟨7,a,0,0,0,[]⟩))∧Bl w w':=by
 unfold maxLen at hcode
 go_enter Tryz.func23,Tryz.ntmps23
 go_wp2_with (go_at_call 20;refine (within_any _ _ _ _).mono ?_;rintro e w' ⟨rfl,rfl⟩)
 all_goals
  go_ret
  refine ⟨ret_bool ?_,(((Bl.refl _).alloc _).alloc _).alloc _⟩
  rw [Bool.eq_iff_iff];simp [sinB];try omega
theorem rins_11 (a:Int) (cs:List Cl) (nm:Nat) (A B:Option Addr) (x y:Nat) (m:Me) (P C K:Option Addr) (p c k:Nat) (Q:Option Addr) (q:Nat) (w:World) (hnc:cs.length≤12) (hnm:nm≤8) (hcode:m.code.length≤maxLen) (hlo:0≤m.locs) (hhi:m.locs≤60) :
  Calls Tryz.prog 23 #[fiV cs.length nm A B x y,meV m P C K p c k,inV ⟨11,a,0,0,0,[]⟩ Q q] w fun e w'=>e=.returned (.bool (sinB cs nm m.code.length m.locs ⟨11,a,0,0,0,[]⟩))∧Bl w w':=by
 unfold maxLen at hcode
 go_enter Tryz.func23,Tryz.ntmps23
 go_wp2_with (go_at_call 20;refine (within_any _ _ _ _).mono ?_;rintro e w' ⟨rfl,rfl⟩)
 all_goals
  go_ret
  refine ⟨ret_bool ?_,(((Bl.refl _).alloc _).alloc _).alloc _⟩
  rw [Bool.eq_iff_iff];simp [sinB];try omega
theorem rins_13 (a:Int) (cs:List Cl) (nm:Nat) (A B:Option Addr) (x y:Nat) (m:Me) (P C K:Option Addr) (p c k:Nat) (Q:Option Addr) (q:Nat) (w:World) (hnc:cs.length≤12) (hnm:nm≤8) (hcode:m.code.length≤maxLen) (hlo:0≤m.locs) (hhi:m.locs≤60) :
  Calls Tryz.prog 23 #[fiV cs.length nm A B x y,meV m P C K p c k,inV ⟨13,a,0,0,0,[]⟩ Q q] w fun e w'=>e=.returned (.bool (sinB cs nm m.code.length m.locs ⟨13,a,0,0,0,[]⟩))∧Bl w w':=by
 unfold maxLen at hcode
 go_enter Tryz.func23,Tryz.ntmps23
 go_wp2_with (go_at_call 20;refine (within_any _ _ _ _).mono ?_;rintro e w' ⟨rfl,rfl⟩)
 all_goals
  go_ret
  refine ⟨ret_bool ?_,(((Bl.refl _).alloc _).alloc _).alloc _⟩
  rw [Bool.eq_iff_iff];simp [sinB];try omega
theorem rins_14 (a:Int) (cs:List Cl) (nm:Nat) (A B:Option Addr) (x y:Nat) (m:Me) (P C K:Option Addr) (p c k:Nat) (Q:Option Addr) (q:Nat) (w:World) (hnc:cs.length≤12) (hnm:nm≤8) (hcode:m.code.length≤maxLen) (hlo:0≤m.locs) (hhi:m.locs≤60) :
  Calls Tryz.prog 23 #[fiV cs.length nm A B x y,meV m P C K p c k,inV ⟨14,a,0,0,0,[]⟩ Q q] w fun e w'=>e=.returned (.bool (sinB cs nm m.code.length m.locs ⟨14,a,0,0,0,[]⟩))∧Bl w w':=by
 unfold maxLen at hcode
 go_enter Tryz.func23,Tryz.ntmps23
 go_wp2_with (go_at_call 20;refine (within_any _ _ _ _).mono ?_;rintro e w' ⟨rfl,rfl⟩)
 all_goals
  go_ret
  refine ⟨ret_bool ?_,(((Bl.refl _).alloc _).alloc _).alloc _⟩
  rw [Bool.eq_iff_iff];simp [sinB];try omega
theorem rins_17 (a:Int) (cs:List Cl) (nm:Nat) (A B:Option Addr) (x y:Nat) (m:Me) (P C K:Option Addr) (p c k:Nat) (Q:Option Addr) (q:Nat) (w:World) (hnc:cs.length≤12) (hnm:nm≤8) (hcode:m.code.length≤maxLen) (hlo:0≤m.locs) (hhi:m.locs≤60) :
  Calls Tryz.prog 23 #[fiV cs.length nm A B x y,meV m P C K p c k,inV ⟨17,a,0,0,0,[]⟩ Q q] w fun e w'=>e=.returned (.bool (sinB cs nm m.code.length m.locs ⟨17,a,0,0,0,[]⟩))∧Bl w w':=by
 unfold maxLen at hcode
 go_enter Tryz.func23,Tryz.ntmps23
 go_wp2_with (go_at_call 20;refine (within_any _ _ _ _).mono ?_;rintro e w' ⟨rfl,rfl⟩)
 all_goals
  go_ret
  refine ⟨ret_bool ?_,(((Bl.refl _).alloc _).alloc _).alloc _⟩
  rw [Bool.eq_iff_iff];simp [sinB];try omega
theorem rins_18 (a:Int) (cs:List Cl) (nm:Nat) (A B:Option Addr) (x y:Nat) (m:Me) (P C K:Option Addr) (p c k:Nat) (Q:Option Addr) (q:Nat) (w:World) (hnc:cs.length≤12) (hnm:nm≤8) (hcode:m.code.length≤maxLen) (hlo:0≤m.locs) (hhi:m.locs≤60) :
  Calls Tryz.prog 23 #[fiV cs.length nm A B x y,meV m P C K p c k,inV ⟨18,a,0,0,0,[]⟩ Q q] w fun e w'=>e=.returned (.bool (sinB cs nm m.code.length m.locs ⟨18,a,0,0,0,[]⟩))∧Bl w w':=by
 unfold maxLen at hcode
 go_enter Tryz.func23,Tryz.ntmps23
 go_wp2_with (go_at_call 20;refine (within_any _ _ _ _).mono ?_;rintro e w' ⟨rfl,rfl⟩)
 all_goals
  go_ret
  refine ⟨ret_bool ?_,(((Bl.refl _).alloc _).alloc _).alloc _⟩
  rw [Bool.eq_iff_iff];simp [sinB];try omega
theorem rins_19 (a:Int) (cs:List Cl) (nm:Nat) (A B:Option Addr) (x y:Nat) (m:Me) (P C K:Option Addr) (p c k:Nat) (Q:Option Addr) (q:Nat) (w:World) (hnc:cs.length≤12) (hnm:nm≤8) (hcode:m.code.length≤maxLen) (hlo:0≤m.locs) (hhi:m.locs≤60) :
  Calls Tryz.prog 23 #[fiV cs.length nm A B x y,meV m P C K p c k,inV ⟨19,a,0,0,0,[]⟩ Q q] w fun e w'=>e=.returned (.bool (sinB cs nm m.code.length m.locs ⟨19,a,0,0,0,[]⟩))∧Bl w w':=by
 unfold maxLen at hcode
 go_enter Tryz.func23,Tryz.ntmps23
 go_wp2_with (go_at_call 20;refine (within_any _ _ _ _).mono ?_;rintro e w' ⟨rfl,rfl⟩)
 all_goals
  go_ret
  refine ⟨ret_bool ?_,(((Bl.refl _).alloc _).alloc _).alloc _⟩
  rw [Bool.eq_iff_iff];simp [sinB];try omega
theorem rins_24 (a:Int) (cs:List Cl) (nm:Nat) (A B:Option Addr) (x y:Nat) (m:Me) (P C K:Option Addr) (p c k:Nat) (Q:Option Addr) (q:Nat) (w:World) (hnc:cs.length≤12) (hnm:nm≤8) (hcode:m.code.length≤maxLen) (hlo:0≤m.locs) (hhi:m.locs≤60) :
  Calls Tryz.prog 23 #[fiV cs.length nm A B x y,meV m P C K p c k,inV ⟨24,a,0,0,0,[]⟩ Q q] w fun e w'=>e=.returned (.bool (sinB cs nm m.code.length m.locs ⟨24,a,0,0,0,[]⟩))∧Bl w w':=by
 unfold maxLen at hcode
 go_enter Tryz.func23,Tryz.ntmps23
 go_wp2_with (go_at_call 20;refine (within_any _ _ _ _).mono ?_;rintro e w' ⟨rfl,rfl⟩)
 all_goals
  go_ret
  refine ⟨ret_bool ?_,(((Bl.refl _).alloc _).alloc _).alloc _⟩
  rw [Bool.eq_iff_iff];simp [sinB];try omega
end Go.Proofs.YtgiiapenmjollaaGreat
