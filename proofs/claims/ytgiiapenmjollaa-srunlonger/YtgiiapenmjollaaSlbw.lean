import Derived.Test.YtgiiapenmjollaaSlbv
namespace Go.Proofs.Ytgiiapenmjollaa
set_option linter.all false
set_option maxHeartbeats 40000000
open Go.RowKit
theorem mayLocal_any (m:Me) (P C K:Option Addr) (p c k:Nat) (a b:Int) (w:World) (hlo:0≤m.locs) (hhi:m.locs≤60) :
  Calls Try.prog 109 #[meV m P C K p c k,.int .i64 a,.int .i64 b] w fun e w'=>e=.returned (.bool (decide (0≤a∧a≤m.locs-widI b)))∧Bl w w':=by
 have hw:=widI_bounds b
 have hal:Bl w (w.alloc (meO m P C K p c k)):=(Bl.refl _).alloc _
 obtain ⟨x0,x1,x2,x3,x4,x5,x6,x7⟩:=MeCells.new w m P C K p c k
 have y4:=fut_cell x4
 clear x0 x1 x2 x3 x4 x5 x6 x7
 obtain ⟨W,hW⟩:∃W,widI b=W:=⟨_,rfl⟩
 obtain ⟨R,hR⟩:∃R,decide (0≤a∧a≤m.locs-W)=R:=⟨_,rfl⟩
 rw [hW] at hw
 rw [hW,hR]
 go_enter Try.func109,Try.ntmps109
 go_wp2
 refine wp_region_fut (by kernel_rfl) (by kernel_rfl) fun hne=>?_
 repeat (go_big_quiet_step (first
  | (go_at_call 82;exact Calls.fut_same_eq _ (width_any _ _) (congrArg (Value.int .i64) hW))
  | (go_at_call 37;exact Calls.fut_same_eq _ (span_any _ _ _ _) (congrArg Value.bool hR))))
 refine wpQuiet_nil ?_
 rintro _ ⟨⟨w2,hw2⟩,rfl⟩
 go_wp2
 go_ret
 exact ⟨rfl,hal.trans hw2⟩
theorem mayField_any (A:Option Addr) (x:Nat) (cs:List Cl) (c k:Int) (w:World) (hl:ClsAt w A cs) :
  Calls Try.prog 110 #[.slice A cs.length x,.int .i64 c,.int .i64 k] w fun e w'=>e=.returned (.bool (fieldB cs c k))∧w'=w:=by
 obtain ⟨hm,hl⟩:=hl
 unfold maxLen at hm
 by_cases h:0≤c∧c<cs.length
 ·have hd:decide (0≤c∧c<(cs.length:Int))=true:=decide_eq_true h
  obtain ⟨n,rfl⟩:∃n:Nat,c=n:=⟨c.toNat,by omega⟩
  rcases hl with h0|⟨b,off,rfl,hc⟩
  ·omega
  obtain ⟨-,-,A',c',hfl,hty⟩:=hc n (by omega)
  have hfm:=hty.1
  unfold maxLen at hfm
  have hb:fieldB cs n k=decide (0≤k∧k<((nth cl0 cs n).fields.length:Int)):=by
   unfold fieldB;rw [Int.toNat_natCast,Bool.eq_iff_iff,decide_eq_true_eq,decide_eq_true_eq];omega
  rw [hb]
  clear hb hc hty
  go_enter Try.func110,Try.ntmps110
  go_wp2_with (go_at_call 58;refine (numbers_any _ _ _).mono ?_;rintro e w1 ⟨he,rfl⟩;(first|rw [hd] at he|skip);subst he)
  go_ret
  exact ⟨ret_bool (by simp),rfl⟩
 ·have hd:decide (0≤c∧c<(cs.length:Int))=false:=decide_eq_false h
  have hb:fieldB cs c k=false:=by unfold fieldB;rw [decide_eq_false_iff_not];omega
  rw [hb]
  clear hb hl
  go_enter Try.func110,Try.ntmps110
  go_wp2_with (go_at_call 58;refine (numbers_any _ _ _).mono ?_;rintro e w1 ⟨he,rfl⟩;rw [hd] at he;subst he)
  go_ret
  exact ⟨rfl,rfl⟩
theorem narrow_eq (n:Int):(n==wrap32 n)=decide (-2147483648≤n∧n≤2147483647):=by
 rw [Bool.eq_iff_iff];simp;unfold wrap32;omega
abbrev inO (i:In) (Q:Option Addr) (q:Nat):Obj:=.cells #[.int .i64 i.op,.int .i64 i.a,.int .i64 i.b,.int .i64 i.c,.int .i64 i.n,.slice Q i.args.length q] 51
abbrev fiO (nc nm:Nat) (A B:Option Addr) (x y:Nat):Obj:=.cells #[.slice A nc x,.slice B nm y] 36
theorem mayN_any (i:In) (Q:Option Addr) (q:Nat) (w:World) :
  Calls Try.prog 85 #[inV i Q q] w fun e w'=>e=.returned (.bool (nB i))∧Bl w w':=by
 obtain ⟨op,a,b,c,n,args⟩:=i
 have hal:Bl w (w.alloc (inO ⟨op,a,b,c,n,args⟩ Q q)):=(Bl.refl _).alloc _
 by_cases h1:op=1
 ·subst h1
  have hb:nB ⟨1,a,b,c,n,args⟩=(n==wrap32 n):=by rw [narrow_eq];rfl
  have y4:∀x:Fut (w.alloc (inO ⟨1,a,b,c,n,args⟩ Q q)),x.to.cell? ⟨w.heap.size,4,none⟩=some (.int .i64 n):=fut_cell (cell_of_new rfl)
  rw [hb]
  obtain ⟨N,hN⟩:∃N,wrap32 n=N:=⟨_,rfl⟩
  rw [hN]
  clear hb
  go_enter Try.func85,Try.ntmps85
  go_wp2
  refine wp_region_fut (by kernel_rfl) (by kernel_rfl) fun hne=>?_
  repeat (go_big_quiet_step ((go_at_call 15;exact Calls.fut_same_eq _ (narrow_any _ _) (congrArg (Value.int .i64) hN))))
  refine wpQuiet_nil ?_
  rintro _ ⟨⟨w2,hw2⟩,rfl⟩
  go_wp2
  go_ret
  exact ⟨ret_bool rfl,hal.trans hw2⟩
 by_cases h2:op=2
 ·subst h2
  go_enter Try.func85,Try.ntmps85
  go_wp2
  go_ret
  exact ⟨rfl,hal⟩
 have z1:(op==1)=false:=by simp;omega
 have z2:(op==2)=false:=by simp;omega
 have hb:nB ⟨op,a,b,c,n,args⟩=(n==0):=by unfold nB;dsimp only;rw [if_neg h1,if_neg h2];rw [Bool.eq_iff_iff];simp
 rw [hb]
 go_enter Try.func85,Try.ntmps85
 go_wp2
 all_goals
  go_ret
  exact ⟨ret_bool (by simp [*]),hal⟩
theorem mayB_any (i:In) (cs:List Cl) (nm:Nat) (A B:Option Addr) (x y:Nat) (Q:Option Addr) (q:Nat) (w:World) (hl:ClsAt w A cs) :
  Calls Try.prog 84 #[fiV cs.length nm A B x y,inV i Q q] w fun e w'=>e=.returned (.bool (bB cs i))∧Bl w w':=by
 obtain ⟨op,a,b,c,n,args⟩:=i
 have HAL:Hid (∀o o',Bl w ((w.alloc o).alloc o')):=fun o o'=>((Bl.refl _).alloc _).alloc _
 have HL:Hid (ClsAt w A cs):=hl
 clear hl
 have hop:op=4∨op=5∨op=12∨op=15∨op=16∨(op≠4∧op≠5∧op≠12∧op≠15∧op≠16):=by omega
 rcases hop with rfl|rfl|rfl|rfl|rfl|hop
 ·go_enter Try.func84,Try.ntmps84
  go_wp2_with (first
   | (go_at_call 37;refine (span_any _ _ _ _).mono ?_;rintro e w1 ⟨rfl,rfl⟩)
   | (go_at_call 110;refine (mayField_any _ _ _ _ _ _ (HL.out.bl (HAL.out _ _))).mono ?_;rintro e w1 ⟨rfl,rfl⟩))
  go_ret
  exact ⟨ret_bool (by simp [bB]),HAL.out _ _⟩
 ·go_enter Try.func84,Try.ntmps84
  go_wp2_with (first
   | (go_at_call 37;refine (span_any _ _ _ _).mono ?_;rintro e w1 ⟨rfl,rfl⟩)
   | (go_at_call 110;refine (mayField_any _ _ _ _ _ _ (HL.out.bl (HAL.out _ _))).mono ?_;rintro e w1 ⟨rfl,rfl⟩))
  go_ret
  exact ⟨ret_bool (by simp [bB]),HAL.out _ _⟩
 ·go_enter Try.func84,Try.ntmps84
  go_wp2_with (first
   | (go_at_call 37;refine (span_any _ _ _ _).mono ?_;rintro e w1 ⟨rfl,rfl⟩)
   | (go_at_call 110;refine (mayField_any _ _ _ _ _ _ (HL.out.bl (HAL.out _ _))).mono ?_;rintro e w1 ⟨rfl,rfl⟩))
  go_ret
  exact ⟨ret_bool (by simp [bB]),HAL.out _ _⟩
 ·go_enter Try.func84,Try.ntmps84
  go_wp2_with (first
   | (go_at_call 37;refine (span_any _ _ _ _).mono ?_;rintro e w1 ⟨rfl,rfl⟩)
   | (go_at_call 110;refine (mayField_any _ _ _ _ _ _ (HL.out.bl (HAL.out _ _))).mono ?_;rintro e w1 ⟨rfl,rfl⟩))
  go_ret
  exact ⟨ret_bool (by simp [bB]),HAL.out _ _⟩
 ·go_enter Try.func84,Try.ntmps84
  go_wp2_with (first
   | (go_at_call 37;refine (span_any _ _ _ _).mono ?_;rintro e w1 ⟨rfl,rfl⟩)
   | (go_at_call 110;refine (mayField_any _ _ _ _ _ _ (HL.out.bl (HAL.out _ _))).mono ?_;rintro e w1 ⟨rfl,rfl⟩))
  go_ret
  exact ⟨ret_bool (by simp [bB]),HAL.out _ _⟩
 ·obtain ⟨h4,h5,h12,h15,h16⟩:=hop
  have z4:(op==4)=false:=by simp;omega
  have z5:(op==5)=false:=by simp;omega
  have z12:(op==12)=false:=by simp;omega
  have z15:(op==15)=false:=by simp;omega
  have z16:(op==16)=false:=by simp;omega
  have hb:bB cs ⟨op,a,b,c,n,args⟩=(b==0):=by
   unfold bB;dsimp only;rw [if_neg (by omega),if_neg (by omega),if_neg (by omega)];rw [Bool.eq_iff_iff];simp
  rw [hb]
  clear hb h4 h5 h12 h15 h16
  go_enter Try.func84,Try.ntmps84
  go_wp2
  all_goals
   go_ret
   exact ⟨ret_bool (by simp [*]),HAL.out _ _⟩
theorem mayA_any (i:In) (nc nm:Nat) (A B:Option Addr) (x y:Nat) (m:Me) (P C K:Option Addr) (p c k:Nat) (Q:Option Addr) (q:Nat) (w:World) (hlo:0≤m.locs) (hhi:m.locs≤60) (hnc:nc≤maxLen) (hnm:nm≤maxLen) (hcode:m.code.length≤maxLen) :
  Calls Try.prog 83 #[fiV nc nm A B x y,meV m P C K p c k,inV i Q q] w fun e w'=>e=.returned (.bool (aB nc nm m.code.length m.locs i))∧Bl w w':=by
 obtain ⟨op,a,b,d,n,args⟩:=i
 unfold maxLen at hnc hnm hcode
 have HAL:Hid (∀o o' o'',Bl w (((w.alloc o).alloc o').alloc o'')):=fun o o' o''=>(((Bl.refl _).alloc _).alloc _).alloc _
 have hop:op=4∨op=5∨op=6∨op=7∨op=11∨op=12∨op=13∨op=14∨op=15∨op=16∨op=17∨op=18∨op=19∨op=24∨(op≠4∧op≠5∧op≠6∧op≠7∧op≠11∧op≠12∧op≠13∧op≠14∧op≠15∧op≠16∧op≠17∧op≠18∧op≠19∧op≠24):=by omega
 rcases hop with rfl|rfl|rfl|rfl|rfl|rfl|rfl|rfl|rfl|rfl|rfl|rfl|rfl|rfl|hop
 ·have hb:aB nc nm m.code.length m.locs ⟨4,a,b,d,n,args⟩=decide (0≤a∧a≤m.locs-widI b):=by simp [aB]
  rw [hb]
  obtain ⟨R,hR⟩:∃R,decide (0≤a∧a≤m.locs-widI b)=R:=⟨_,rfl⟩
  rw [hR]
  clear hb
  go_enter Try.func83,Try.ntmps83
  go_wp2_with (go_at_call 109;refine (mayLocal_any m _ _ _ _ _ _ _ _ _ hlo hhi).mono ?_;rintro e w1 ⟨he,hg1⟩;rw [hR] at he;subst he)
  go_ret
  exact ⟨rfl,(HAL.out _ _ _).trans hg1⟩
 ·have hb:aB nc nm m.code.length m.locs ⟨5,a,b,d,n,args⟩=decide (0≤a∧a≤m.locs-widI b):=by simp [aB]
  rw [hb]
  obtain ⟨R,hR⟩:∃R,decide (0≤a∧a≤m.locs-widI b)=R:=⟨_,rfl⟩
  rw [hR]
  clear hb
  go_enter Try.func83,Try.ntmps83
  go_wp2_with (go_at_call 109;refine (mayLocal_any m _ _ _ _ _ _ _ _ _ hlo hhi).mono ?_;rintro e w1 ⟨he,hg1⟩;rw [hR] at he;subst he)
  go_ret
  exact ⟨rfl,(HAL.out _ _ _).trans hg1⟩
 ·go_enter Try.func83,Try.ntmps83
  go_wp2_with (first
   | (go_at_call 37;refine (span_any _ _ _ _).mono ?_;rintro e w1 ⟨rfl,rfl⟩)
   | (go_at_call 58;refine (numbers_any _ _ _).mono ?_;rintro e w1 ⟨rfl,rfl⟩))
  go_ret
  exact ⟨ret_bool (by simp [aB]),HAL.out _ _ _⟩
 ·go_enter Try.func83,Try.ntmps83
  go_wp2_with (first
   | (go_at_call 37;refine (span_any _ _ _ _).mono ?_;rintro e w1 ⟨rfl,rfl⟩)
   | (go_at_call 58;refine (numbers_any _ _ _).mono ?_;rintro e w1 ⟨rfl,rfl⟩))
  go_ret
  exact ⟨ret_bool (by simp [aB]),HAL.out _ _ _⟩
 ·go_enter Try.func83,Try.ntmps83
  go_wp2_with (first
   | (go_at_call 37;refine (span_any _ _ _ _).mono ?_;rintro e w1 ⟨rfl,rfl⟩)
   | (go_at_call 58;refine (numbers_any _ _ _).mono ?_;rintro e w1 ⟨rfl,rfl⟩))
  go_ret
  exact ⟨ret_bool (by simp [aB]),HAL.out _ _ _⟩
 ·go_enter Try.func83,Try.ntmps83
  go_wp2_with (first
   | (go_at_call 37;refine (span_any _ _ _ _).mono ?_;rintro e w1 ⟨rfl,rfl⟩)
   | (go_at_call 58;refine (numbers_any _ _ _).mono ?_;rintro e w1 ⟨rfl,rfl⟩))
  go_ret
  exact ⟨ret_bool (by simp [aB]),HAL.out _ _ _⟩
 ·go_enter Try.func83,Try.ntmps83
  go_wp2_with (first
   | (go_at_call 37;refine (span_any _ _ _ _).mono ?_;rintro e w1 ⟨rfl,rfl⟩)
   | (go_at_call 58;refine (numbers_any _ _ _).mono ?_;rintro e w1 ⟨rfl,rfl⟩))
  go_ret
  exact ⟨ret_bool (by simp [aB]),HAL.out _ _ _⟩
 ·go_enter Try.func83,Try.ntmps83
  go_wp2_with (first
   | (go_at_call 37;refine (span_any _ _ _ _).mono ?_;rintro e w1 ⟨rfl,rfl⟩)
   | (go_at_call 58;refine (numbers_any _ _ _).mono ?_;rintro e w1 ⟨rfl,rfl⟩))
  go_ret
  exact ⟨ret_bool (by simp [aB]),HAL.out _ _ _⟩
 ·go_enter Try.func83,Try.ntmps83
  go_wp2_with (first
   | (go_at_call 37;refine (span_any _ _ _ _).mono ?_;rintro e w1 ⟨rfl,rfl⟩)
   | (go_at_call 58;refine (numbers_any _ _ _).mono ?_;rintro e w1 ⟨rfl,rfl⟩))
  go_ret
  exact ⟨ret_bool (by simp [aB]),HAL.out _ _ _⟩
 ·go_enter Try.func83,Try.ntmps83
  go_wp2_with (first
   | (go_at_call 37;refine (span_any _ _ _ _).mono ?_;rintro e w1 ⟨rfl,rfl⟩)
   | (go_at_call 58;refine (numbers_any _ _ _).mono ?_;rintro e w1 ⟨rfl,rfl⟩))
  go_ret
  exact ⟨ret_bool (by simp [aB]),HAL.out _ _ _⟩
 ·go_enter Try.func83,Try.ntmps83
  go_wp2_with (first
   | (go_at_call 37;refine (span_any _ _ _ _).mono ?_;rintro e w1 ⟨rfl,rfl⟩)
   | (go_at_call 58;refine (numbers_any _ _ _).mono ?_;rintro e w1 ⟨rfl,rfl⟩))
  go_ret
  exact ⟨ret_bool (by simp [aB]),HAL.out _ _ _⟩
 ·go_enter Try.func83,Try.ntmps83
  go_wp2_with (first
   | (go_at_call 37;refine (span_any _ _ _ _).mono ?_;rintro e w1 ⟨rfl,rfl⟩)
   | (go_at_call 58;refine (numbers_any _ _ _).mono ?_;rintro e w1 ⟨rfl,rfl⟩))
  go_ret
  exact ⟨ret_bool (by simp [aB]),HAL.out _ _ _⟩
 ·go_enter Try.func83,Try.ntmps83
  go_wp2_with (first
   | (go_at_call 37;refine (span_any _ _ _ _).mono ?_;rintro e w1 ⟨rfl,rfl⟩)
   | (go_at_call 58;refine (numbers_any _ _ _).mono ?_;rintro e w1 ⟨rfl,rfl⟩))
  go_ret
  exact ⟨ret_bool (by simp [aB]),HAL.out _ _ _⟩
 ·go_enter Try.func83,Try.ntmps83
  go_wp2_with (first
   | (go_at_call 37;refine (span_any _ _ _ _).mono ?_;rintro e w1 ⟨rfl,rfl⟩)
   | (go_at_call 58;refine (numbers_any _ _ _).mono ?_;rintro e w1 ⟨rfl,rfl⟩))
  go_ret
  exact ⟨ret_bool (by simp [aB]),HAL.out _ _ _⟩
 ·obtain ⟨h4,h5,h6,h7,h11,h12,h13,h14,h15,h16,h17,h18,h19,h24⟩:=hop
  have z4:(op==4)=false:=by simp;omega
  have z5:(op==5)=false:=by simp;omega
  have z6:(op==6)=false:=by simp;omega
  have z7:(op==7)=false:=by simp;omega
  have z11:(op==11)=false:=by simp;omega
  have z12:(op==12)=false:=by simp;omega
  have z13:(op==13)=false:=by simp;omega
  have z14:(op==14)=false:=by simp;omega
  have z15:(op==15)=false:=by simp;omega
  have z16:(op==16)=false:=by simp;omega
  have z17:(op==17)=false:=by simp;omega
  have z18:(op==18)=false:=by simp;omega
  have z19:(op==19)=false:=by simp;omega
  have z24:(op==24)=false:=by simp;omega
  have hb:aB nc nm m.code.length m.locs ⟨op,a,b,d,n,args⟩=(a==0):=by
   unfold aB;dsimp only;rw [if_neg (by omega),if_neg (by omega),if_neg (by omega),if_neg (by omega),if_neg (by omega),if_neg (by omega)];rw [Bool.eq_iff_iff];simp
  rw [hb]
  clear hb h4 h5 h6 h7 h11 h12 h13 h14 h15 h16 h17 h18 h19 h24
  go_enter Try.func83,Try.ntmps83
  go_wp2
  all_goals
   go_ret
   exact ⟨ret_bool (by simp [*]),HAL.out _ _ _⟩
end Go.Proofs.Ytgiiapenmjollaa
