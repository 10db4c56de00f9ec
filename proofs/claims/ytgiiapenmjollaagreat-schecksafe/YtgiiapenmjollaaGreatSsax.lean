import Derived.Test.YtgiiapenmjollaaGreatSsav
namespace Go.Proofs.YtgiiapenmjollaaGreat
set_option linter.all false
set_option maxHeartbeats 40000000
set_option maxRecDepth 100000
open Go.RowKit
theorem rins_o (op a:Int) (h:op<1∨25<op) (cs:List Cl) (nm:Nat) (A B:Option Addr) (x y:Nat) (m:Me) (P C K:Option Addr) (p c k:Nat) (Q:Option Addr) (q:Nat) (w:World) (hnc:cs.length≤12) (hnm:nm≤8) (hcode:m.code.length≤maxLen) (hlo:0≤m.locs) (hhi:m.locs≤60) :
  Calls Tryz.prog 23 #[fiV cs.length nm A B x y,meV m P C K p c k,inV ⟨op,a,0,0,0,[]⟩ Q q] w fun e w'=>e=.returned (.bool (sinB cs nm m.code.length m.locs ⟨op,a,0,0,0,[]⟩))∧Bl w w':=by
 unfold maxLen at hcode
 have z1:(op==1)=false:=by simp;omega
 have z2:(op==2)=false:=by simp;omega
 have z3:(op==3)=false:=by simp;omega
 have z4:(op==4)=false:=by simp;omega
 have z5:(op==5)=false:=by simp;omega
 have z6:(op==6)=false:=by simp;omega
 have z7:(op==7)=false:=by simp;omega
 have z8:(op==8)=false:=by simp;omega
 have z9:(op==9)=false:=by simp;omega
 have z10:(op==10)=false:=by simp;omega
 have z11:(op==11)=false:=by simp;omega
 have z12:(op==12)=false:=by simp;omega
 have z13:(op==13)=false:=by simp;omega
 have z14:(op==14)=false:=by simp;omega
 have z15:(op==15)=false:=by simp;omega
 have z16:(op==16)=false:=by simp;omega
 have z17:(op==17)=false:=by simp;omega
 have z18:(op==18)=false:=by simp;omega
 have z19:(op==19)=false:=by simp;omega
 have z20:(op==20)=false:=by simp;omega
 have z21:(op==21)=false:=by simp;omega
 have z22:(op==22)=false:=by simp;omega
 have z23:(op==23)=false:=by simp;omega
 have z24:(op==24)=false:=by simp;omega
 have z25:(op==25)=false:=by simp;omega
 have hs:sinB cs nm m.code.length m.locs ⟨op,a,0,0,0,[]⟩=false:=by
  unfold sinB
  dsimp only
  rw [if_neg (by omega),if_neg (by omega),if_neg (by omega),if_neg (by omega),if_neg (by omega),if_neg (by omega),if_neg (by omega),if_neg (by omega),if_neg (by omega),if_neg (by omega),if_neg (by omega)]
  simp
 rw [hs]
 clear hs
 go_enter Tryz.func23,Tryz.ntmps23
 go_wp2
 go_ret
 exact ⟨rfl,(((Bl.refl _).alloc _).alloc _).alloc _⟩
theorem rins_15 (a b:Int) (cs:List Cl) (nm:Nat) (A B:Option Addr) (x y:Nat) (m:Me) (P C K:Option Addr) (p c k:Nat) (Q:Option Addr) (q:Nat) (w:World) (hnc:cs.length≤12) (hnm:nm≤8) (hcode:m.code.length≤maxLen) (hlo:0≤m.locs) (hhi:m.locs≤60) (hl:ClsAt w A cs) :
  Calls Tryz.prog 23 #[fiV cs.length nm A B x y,meV m P C K p c k,inV ⟨15,a,b,0,0,[]⟩ Q q] w fun e w'=>e=.returned (.bool (sinB cs nm m.code.length m.locs ⟨15,a,b,0,0,[]⟩))∧Bl w w':=by
 unfold maxLen at hcode
 have f0:(boxed3 w cs.length nm A B x y m P C K p c k ⟨15,a,b,0,0,[]⟩ Q q).cell? ⟨w.heap.size,0,none⟩=some (.slice A cs.length x):=(((Bl.refl _).alloc _).alloc _).cell (cell_of_new rfl)
 have f1:(boxed3 w cs.length nm A B x y m P C K p c k ⟨15,a,b,0,0,[]⟩ Q q).cell? ⟨w.heap.size+1+1,1,none⟩=some (.int .i64 a):=by
  have:=cell_of_new (w:=(w.alloc (.cells #[.slice A cs.length x,.slice B nm y] 25)).alloc (.cells #[.slice P m.params.length p,.int .i64 m.ret.kind,.int .i64 m.ret.cls,.int .i64 m.stack,.int .i64 m.locs,.int .i64 m.regs,.slice C m.code.length c,.slice K m.hands.length k] 49)) (cs:=#[.int .i64 15,.int .i64 a,.int .i64 b,.int .i64 0,.int .i64 0,.slice Q 0 q]) (t:=55) (o:=1) rfl
  rw [World.size_alloc,World.size_alloc] at this
  exact this
 have f2:(boxed3 w cs.length nm A B x y m P C K p c k ⟨15,a,b,0,0,[]⟩ Q q).cell? ⟨w.heap.size+1+1,2,none⟩=some (.int .i64 b):=by
  have:=cell_of_new (w:=(w.alloc (.cells #[.slice A cs.length x,.slice B nm y] 25)).alloc (.cells #[.slice P m.params.length p,.int .i64 m.ret.kind,.int .i64 m.ret.cls,.int .i64 m.stack,.int .i64 m.locs,.int .i64 m.regs,.slice C m.code.length c,.slice K m.hands.length k] 49)) (cs:=#[.int .i64 15,.int .i64 a,.int .i64 b,.int .i64 0,.int .i64 0,.slice Q 0 q]) (t:=55) (o:=2) rfl
  rw [World.size_alloc,World.size_alloc] at this
  exact this
 have g0:=fut_cell f0
 have g1:=fut_cell f1
 have g2:=fut_cell f2
 have hg:Bl w (boxed3 w cs.length nm A B x y m P C K p c k ⟨15,a,b,0,0,[]⟩ Q q):=(((Bl.refl w).alloc _).alloc _).alloc _
 have HL:=hl.bl hg
 clear f0 f1 f2 hl
 have HB:Hid (Bl w (boxed3 w cs.length nm A B x y m P C K p c k ⟨15,a,b,0,0,[]⟩ Q q)):=hg
 clear hg
 unfold boxed3 at g0 g1 g2 HL HB
 by_cases ha:0≤a∧a≤(cs.length:Int)-1
 ·have da:decide (0≤a∧a≤(cs.length:Int)-1)=true:=decide_eq_true ha
  obtain ⟨u,rfl⟩:=Int.eq_ofNat_of_zero_le ha.1
  rcases HL.2 with h0|⟨b',off',rfl,hc⟩
  ·omega
  obtain ⟨-,-,A',c',h1,h2⟩:=hc u (by omega)
  have hfl:=h2.1
  unfold maxLen at hfl
  have g3:=fut_cell h1
  have HS:Hid (sinB cs nm m.code.length m.locs ⟨15,(u:Int),b,0,0,[]⟩=decide (0≤b∧b≤((nth cl0 cs u).fields.length:Int)-1)):=by
   show sinB _ _ _ _ _=_
   rw [Bool.eq_iff_iff];simp [sinB];omega
  clear h1 h2 hc HL
  cases db:decide (0≤b∧b≤((nth cl0 cs u).fields.length:Int)-1)
  all_goals
   rw [db] at HS
   go_enter Tryz.func23,Tryz.ntmps23
   go_wp2
   refine wp_region_fut (by kernel_rfl) (by kernel_rfl) fun hne=>?_
   repeat (go_big_quiet_step ((go_at_call 20;exact Calls.fut_same_eq _ (within_any _ _ _ _) (congrArg Value.bool (by first|exact da|exact db)))))
   refine wpQuiet_nil ?_
   rintro _ ⟨⟨w2,hw2⟩,rfl⟩
   go_wp2
   go_ret
   exact ⟨ret_bool HS.out.symm,HB.out.trans hw2⟩
 ·have da:decide (0≤a∧a≤(cs.length:Int)-1)=false:=decide_eq_false ha
  have HS:Hid (sinB cs nm m.code.length m.locs ⟨15,a,b,0,0,[]⟩=false):=by
   show sinB _ _ _ _ _=_
   rw [Bool.eq_iff_iff];simp [sinB];omega
  clear HL
  go_enter Tryz.func23,Tryz.ntmps23
  go_wp2
  refine wp_region_fut (by kernel_rfl) (by kernel_rfl) fun hne=>?_
  repeat (go_big_quiet_step ((go_at_call 20;exact Calls.fut_same_eq _ (within_any _ _ _ _) (congrArg Value.bool da))))
  refine wpQuiet_nil ?_
  rintro _ ⟨⟨w2,hw2⟩,rfl⟩
  go_wp2
  go_ret
  exact ⟨ret_bool HS.out.symm,HB.out.trans hw2⟩
theorem rins_16 (a b:Int) (cs:List Cl) (nm:Nat) (A B:Option Addr) (x y:Nat) (m:Me) (P C K:Option Addr) (p c k:Nat) (Q:Option Addr) (q:Nat) (w:World) (hnc:cs.length≤12) (hnm:nm≤8) (hcode:m.code.length≤maxLen) (hlo:0≤m.locs) (hhi:m.locs≤60) (hl:ClsAt w A cs) :
  Calls Tryz.prog 23 #[fiV cs.length nm A B x y,meV m P C K p c k,inV ⟨16,a,b,0,0,[]⟩ Q q] w fun e w'=>e=.returned (.bool (sinB cs nm m.code.length m.locs ⟨16,a,b,0,0,[]⟩))∧Bl w w':=by
 unfold maxLen at hcode
 have f0:(boxed3 w cs.length nm A B x y m P C K p c k ⟨16,a,b,0,0,[]⟩ Q q).cell? ⟨w.heap.size,0,none⟩=some (.slice A cs.length x):=(((Bl.refl _).alloc _).alloc _).cell (cell_of_new rfl)
 have f1:(boxed3 w cs.length nm A B x y m P C K p c k ⟨16,a,b,0,0,[]⟩ Q q).cell? ⟨w.heap.size+1+1,1,none⟩=some (.int .i64 a):=by
  have:=cell_of_new (w:=(w.alloc (.cells #[.slice A cs.length x,.slice B nm y] 25)).alloc (.cells #[.slice P m.params.length p,.int .i64 m.ret.kind,.int .i64 m.ret.cls,.int .i64 m.stack,.int .i64 m.locs,.int .i64 m.regs,.slice C m.code.length c,.slice K m.hands.length k] 49)) (cs:=#[.int .i64 16,.int .i64 a,.int .i64 b,.int .i64 0,.int .i64 0,.slice Q 0 q]) (t:=55) (o:=1) rfl
  rw [World.size_alloc,World.size_alloc] at this
  exact this
 have f2:(boxed3 w cs.length nm A B x y m P C K p c k ⟨16,a,b,0,0,[]⟩ Q q).cell? ⟨w.heap.size+1+1,2,none⟩=some (.int .i64 b):=by
  have:=cell_of_new (w:=(w.alloc (.cells #[.slice A cs.length x,.slice B nm y] 25)).alloc (.cells #[.slice P m.params.length p,.int .i64 m.ret.kind,.int .i64 m.ret.cls,.int .i64 m.stack,.int .i64 m.locs,.int .i64 m.regs,.slice C m.code.length c,.slice K m.hands.length k] 49)) (cs:=#[.int .i64 16,.int .i64 a,.int .i64 b,.int .i64 0,.int .i64 0,.slice Q 0 q]) (t:=55) (o:=2) rfl
  rw [World.size_alloc,World.size_alloc] at this
  exact this
 have g0:=fut_cell f0
 have g1:=fut_cell f1
 have g2:=fut_cell f2
 have hg:Bl w (boxed3 w cs.length nm A B x y m P C K p c k ⟨16,a,b,0,0,[]⟩ Q q):=(((Bl.refl w).alloc _).alloc _).alloc _
 have HL:=hl.bl hg
 clear f0 f1 f2 hl
 have HB:Hid (Bl w (boxed3 w cs.length nm A B x y m P C K p c k ⟨16,a,b,0,0,[]⟩ Q q)):=hg
 clear hg
 unfold boxed3 at g0 g1 g2 HL HB
 by_cases ha:0≤a∧a≤(cs.length:Int)-1
 ·have da:decide (0≤a∧a≤(cs.length:Int)-1)=true:=decide_eq_true ha
  obtain ⟨u,rfl⟩:=Int.eq_ofNat_of_zero_le ha.1
  rcases HL.2 with h0|⟨b',off',rfl,hc⟩
  ·omega
  obtain ⟨-,-,A',c',h1,h2⟩:=hc u (by omega)
  have hfl:=h2.1
  unfold maxLen at hfl
  have g3:=fut_cell h1
  have HS:Hid (sinB cs nm m.code.length m.locs ⟨16,(u:Int),b,0,0,[]⟩=decide (0≤b∧b≤((nth cl0 cs u).fields.length:Int)-1)):=by
   show sinB _ _ _ _ _=_
   rw [Bool.eq_iff_iff];simp [sinB];omega
  clear h1 h2 hc HL
  cases db:decide (0≤b∧b≤((nth cl0 cs u).fields.length:Int)-1)
  all_goals
   rw [db] at HS
   go_enter Tryz.func23,Tryz.ntmps23
   go_wp2
   refine wp_region_fut (by kernel_rfl) (by kernel_rfl) fun hne=>?_
   repeat (go_big_quiet_step ((go_at_call 20;exact Calls.fut_same_eq _ (within_any _ _ _ _) (congrArg Value.bool (by first|exact da|exact db)))))
   refine wpQuiet_nil ?_
   rintro _ ⟨⟨w2,hw2⟩,rfl⟩
   go_wp2
   go_ret
   exact ⟨ret_bool HS.out.symm,HB.out.trans hw2⟩
 ·have da:decide (0≤a∧a≤(cs.length:Int)-1)=false:=decide_eq_false ha
  have HS:Hid (sinB cs nm m.code.length m.locs ⟨16,a,b,0,0,[]⟩=false):=by
   show sinB _ _ _ _ _=_
   rw [Bool.eq_iff_iff];simp [sinB];omega
  clear HL
  go_enter Tryz.func23,Tryz.ntmps23
  go_wp2
  refine wp_region_fut (by kernel_rfl) (by kernel_rfl) fun hne=>?_
  repeat (go_big_quiet_step ((go_at_call 20;exact Calls.fut_same_eq _ (within_any _ _ _ _) (congrArg Value.bool da))))
  refine wpQuiet_nil ?_
  rintro _ ⟨⟨w2,hw2⟩,rfl⟩
  go_wp2
  go_ret
  exact ⟨ret_bool HS.out.symm,HB.out.trans hw2⟩
theorem rins_any (i:In) (cs:List Cl) (nm:Nat) (A B:Option Addr) (x y:Nat) (m:Me) (P C K:Option Addr) (p c k:Nat) (Q:Option Addr) (q:Nat) (w:World) (hnc:cs.length≤12) (hnm:nm≤8) (hcode:m.code.length≤maxLen) (hlo:0≤m.locs) (hhi:m.locs≤60) (hl:ClsAt w A cs) :
  Calls Tryz.prog 23 #[fiV cs.length nm A B x y,meV m P C K p c k,inV i Q q] w fun e w'=>e=.returned (.bool (sinB cs nm m.code.length m.locs i))∧Bl w w':=by
 by_cases hbad:i.c=0∧i.args.length=0
 ·obtain ⟨op,a,b,c',n,ar⟩:=i
  obtain ⟨rfl,has⟩:c'=0∧ar.length=0:=hbad
  obtain rfl:ar=[]:=List.length_eq_zero_iff.1 has
  by_cases h1:op=1
  ·subst h1;exact rins_1 a b n cs nm A B x y m P C K p c k Q q w hnc hnm hcode hlo hhi
  by_cases h2:op=2
  ·subst h2;exact rins_2 a b n cs nm A B x y m P C K p c k Q q w hnc hnm hcode hlo hhi
  by_cases hn:n=0
  ·subst hn
   by_cases h4:op=4
   ·subst h4;exact rins_4 a b cs nm A B x y m P C K p c k Q q w hnc hnm hcode hlo hhi
   by_cases h5:op=5
   ·subst h5;exact rins_5 a b cs nm A B x y m P C K p c k Q q w hnc hnm hcode hlo hhi
   by_cases h12:op=12
   ·subst h12;exact rins_12 a b cs nm A B x y m P C K p c k Q q w hnc hnm hcode hlo hhi
   by_cases h15:op=15
   ·subst h15;exact rins_15 a b cs nm A B x y m P C K p c k Q q w hnc hnm hcode hlo hhi hl
   by_cases h16:op=16
   ·subst h16;exact rins_16 a b cs nm A B x y m P C K p c k Q q w hnc hnm hcode hlo hhi hl
   by_cases hb:b=0
   ·subst hb
    by_cases h3:op=3
    ·subst h3;exact rins_3 a cs nm A B x y m P C K p c k Q q w hnc hnm hcode hlo hhi
    by_cases h8:op=8
    ·subst h8;exact rins_8 a cs nm A B x y m P C K p c k Q q w hnc hnm hcode hlo hhi
    by_cases h9:op=9
    ·subst h9;exact rins_9 a cs nm A B x y m P C K p c k Q q w hnc hnm hcode hlo hhi
    by_cases h10:op=10
    ·subst h10;exact rins_10 a cs nm A B x y m P C K p c k Q q w hnc hnm hcode hlo hhi
    by_cases h20:op=20
    ·subst h20;exact rins_20 a cs nm A B x y m P C K p c k Q q w hnc hnm hcode hlo hhi
    by_cases h21:op=21
    ·subst h21;exact rins_21 a cs nm A B x y m P C K p c k Q q w hnc hnm hcode hlo hhi
    by_cases h22:op=22
    ·subst h22;exact rins_22 a cs nm A B x y m P C K p c k Q q w hnc hnm hcode hlo hhi
    by_cases h23:op=23
    ·subst h23;exact rins_23 a cs nm A B x y m P C K p c k Q q w hnc hnm hcode hlo hhi
    by_cases h25:op=25
    ·subst h25;exact rins_25 a cs nm A B x y m P C K p c k Q q w hnc hnm hcode hlo hhi
    by_cases h6:op=6
    ·subst h6;exact rins_6 a cs nm A B x y m P C K p c k Q q w hnc hnm hcode hlo hhi
    by_cases h7:op=7
    ·subst h7;exact rins_7 a cs nm A B x y m P C K p c k Q q w hnc hnm hcode hlo hhi
    by_cases h11:op=11
    ·subst h11;exact rins_11 a cs nm A B x y m P C K p c k Q q w hnc hnm hcode hlo hhi
    by_cases h13:op=13
    ·subst h13;exact rins_13 a cs nm A B x y m P C K p c k Q q w hnc hnm hcode hlo hhi
    by_cases h14:op=14
    ·subst h14;exact rins_14 a cs nm A B x y m P C K p c k Q q w hnc hnm hcode hlo hhi
    by_cases h17:op=17
    ·subst h17;exact rins_17 a cs nm A B x y m P C K p c k Q q w hnc hnm hcode hlo hhi
    by_cases h18:op=18
    ·subst h18;exact rins_18 a cs nm A B x y m P C K p c k Q q w hnc hnm hcode hlo hhi
    by_cases h19:op=19
    ·subst h19;exact rins_19 a cs nm A B x y m P C K p c k Q q w hnc hnm hcode hlo hhi
    by_cases h24:op=24
    ·subst h24;exact rins_24 a cs nm A B x y m P C K p c k Q q w hnc hnm hcode hlo hhi
    exact rins_o op a (by omega) cs nm A B x y m P C K p c k Q q w hnc hnm hcode hlo hhi
   ·exact rins_b op a b (by omega) hb cs nm A B x y m P C K p c k Q q w hnc hnm hcode hlo hhi
  ·exact rins_n op a b n h1 h2 hn cs nm A B x y m P C K p c k Q q w hnc hnm hcode hlo hhi
 ·exact rins_bad i cs nm A B x y m P C K p c k Q q w hnc hnm hcode hlo hhi hbad
end Go.Proofs.YtgiiapenmjollaaGreat
