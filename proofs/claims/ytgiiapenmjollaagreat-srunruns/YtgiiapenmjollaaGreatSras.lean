import Derived.Test.YtgiiapenmjollaaGreatSraq
import Derived.Test.YtgiiapenmjollaaGreatSrar
import Derived.Test.YtgiiapenmjollaaGreatChecked
import Derived.KernelRfl
import Derived.ProofKit
import Derived.OpenShut
import Derived.ReadAgain
namespace Go.Proofs.YtgiiapenmjollaaGreat
set_option linter.all false
set_option maxHeartbeats 40000000
set_option maxRecDepth 100000
open Go.RowKit
open Go.Value (int)
open Go.IntKind (i64)
variable {f:Fi} {cs:List Value} {m:Me} {fuel nc o q:Nat}
theorem nR (m:Me) (P C K:Option Addr) (p c k:Nat) (a b:Int) (w:World) (hlo:0<=m.locs) (dR:m.locs<=60) :
  Calls Tryz.prog 188 #[iW m P C K p c k,int i64 a,int i64 b] w fun e w'=>e=.returned (.bool (decide (0<=a/\a<=m.locs-jq b)))/\Bl w w':=by
 have hw:=lI b
 have hal:Bl w (w.alloc (n7 m P C K p c k)):=(Bl.refl _).alloc _
 obtain ⟨x0,x1,x2,x3,x4,x5,x6,x7⟩:=eB.new w m P C K p c k
 have y4:=aU x4
 clear x0 x1 x2 x3 x4 x5 x6 x7
 obtain ⟨W,hW⟩:∃W,jq b=W:=⟨_,rfl⟩
 obtain ⟨R,hR⟩:∃R,decide (0<=a/\a<=m.locs-W)=R:=⟨_,rfl⟩
 rw [hW] at hw
 rw [hW,hR]
 go_enter Tryz.func188,Tryz.ntmps188
 go_wp2
 refine bh (by kernel_rfl) (by kernel_rfl) fun hne=>?_
 repeat (go_big_quiet_step (first
  | (go_at_call 85;exact Calls.fut_same_eq _ (mc _ _) (congrArg (Value.int .i64) hW))
  | (go_at_call 35;exact Calls.fut_same_eq _ (bj _ _ _ _) (congrArg Value.bool hR))))
 refine wpQuiet_nil ?_
 rintro _ ⟨⟨w2,eK⟩,rfl⟩
 go_wp2
 go_ret
 exact ⟨rfl,hal.trans eK⟩
theorem gA (A:Option Addr) (x:Nat) (cs:List Cl) (c k:Int) (w:World) (hl:ct w A cs) :
  Calls Tryz.prog 189 #[.slice A cs.length x,int i64 c,int i64 k] w fun e w'=>e=.returned (.bool (mQ cs c k))/\w'=w:=by
 obtain ⟨hm,hl⟩:=hl
 unfold maxLen at hm
 by_cases h:0<=c/\c<cs.length
 ·have hd:decide (0<=c/\c<(cs.length:Int))=true:=decide_eq_true h
  obtain ⟨n,rfl⟩:∃n:Nat,c=n:=⟨c.toNat,by omega⟩
  rcases hl with h0|⟨b,off,rfl,hc⟩
  ·omega
  obtain ⟨-,-,A',c',jC,hty⟩:=hc n (by omega)
  have KC:=hty.1
  unfold maxLen at KC
  have hb:mQ cs n k=decide (0<=k/\k<((nth cg cs n).fields.length:Int)):=by
   unfold mQ;rw [Int.toNat_natCast,Bool.eq_iff_iff,decide_eq_true_eq,decide_eq_true_eq];omega
  rw [hb]
  clear hb hc hty
  go_enter Tryz.func189,Tryz.ntmps189
  go_wp2_with (go_at_call 97;refine (bg _ _ _).mono ?_;rintro e w1 ⟨he,rfl⟩;(first|rw [hd] at he|skip);subst he)
  go_ret
  exact ⟨aj (by simp),rfl⟩
 ·have hd:decide (0<=c/\c<(cs.length:Int))=false:=decide_eq_false h
  have hb:mQ cs c k=false:=by unfold mQ;rw [decide_eq_false_iff_not];omega
  rw [hb]
  clear hb hl
  go_enter Tryz.func189,Tryz.ntmps189
  go_wp2_with (go_at_call 97;refine (bg _ _ _).mono ?_;rintro e w1 ⟨he,rfl⟩;rw [hd] at he;subst he)
  go_ret
  exact ⟨rfl,rfl⟩
theorem CD (n:Int):(n==wrap32 n)=decide (-2147483648<=n/\n<=2147483647):=by
 rw [Bool.eq_iff_iff];simp;unfold wrap32;omega
abbrev Sw (i:In) (Q:Option Addr) (q:Nat):Obj:=.cells #[int i64 i.op,int i64 i.a,int i64 i.b,int i64 i.c,int i64 i.n,.slice Q i.args.length q] 55
abbrev yW (nc nm:Nat) (A B:Option Addr) (x y:Nat):Obj:=.cells #[.slice A nc x,.slice B nm y] 25
theorem wu (i:In) (Q:Option Addr) (q:Nat) (w:World) :
  Calls Tryz.prog 141 #[inV i Q q] w fun e w'=>e=.returned (.bool (nB i))/\Bl w w':=by
 obtain ⟨op,a,b,c,n,args⟩:=i
 have hal:Bl w (w.alloc (Sw ⟨op,a,b,c,n,args⟩ Q q)):=(Bl.refl _).alloc _
 by_cases h1:op=1
 ·subst h1
  have hb:nB ⟨1,a,b,c,n,args⟩=(n==wrap32 n):=by rw [CD];rfl
  have y4:∀x:pk (w.alloc (Sw ⟨1,a,b,c,n,args⟩ Q q)),x.to.cell? ⟨w.heap.size,4,none⟩=some (int i64 n):=aU (ak rfl)
  rw [hb]
  obtain ⟨N,hN⟩:∃N,wrap32 n=N:=⟨_,rfl⟩
  rw [hN]
  clear hb
  go_enter Tryz.func141,Tryz.ntmps141
  go_wp2
  refine bh (by kernel_rfl) (by kernel_rfl) fun hne=>?_
  repeat (go_big_quiet_step ((go_at_call 102;exact Calls.fut_same_eq _ (kF _ _) (congrArg (Value.int .i64) hN))))
  refine wpQuiet_nil ?_
  rintro _ ⟨⟨w2,eK⟩,rfl⟩
  go_wp2
  go_ret
  exact ⟨aj rfl,hal.trans eK⟩
 by_cases h2:op=2
 ·subst h2
  go_enter Tryz.func141,Tryz.ntmps141
  go_wp2
  go_ret
  exact ⟨rfl,hal⟩
 have z1:(op==1)=false:=by simp;omega
 have z2:(op==2)=false:=by simp;omega
 have hb:nB ⟨op,a,b,c,n,args⟩=(n==0):=by unfold nB;dsimp only;rw [if_neg h1,if_neg h2];rw [Bool.eq_iff_iff];simp
 rw [hb]
 go_enter Tryz.func141,Tryz.ntmps141
 go_wp2
 all_goals
  go_ret
  exact ⟨aj (by simp [*]),hal⟩
theorem nS (i:In) (cs:List Cl) (nm:Nat) (A B:Option Addr) (x y:Nat) (Q:Option Addr) (q:Nat) (w:World) (hl:ct w A cs) :
  Calls Tryz.prog 140 #[fU cs.length nm A B x y,inV i Q q] w fun e w'=>e=.returned (.bool (bB cs i))/\Bl w w':=by
 obtain ⟨op,a,b,c,n,args⟩:=i
 have cE:Hid (∀o o',Bl w ((w.alloc o).alloc o')):=fun o o'=>((Bl.refl _).alloc _).alloc _
 have HL:Hid (ct w A cs):=hl
 clear hl
 have hop:op=4∨op=5∨op=12∨op=15∨op=16∨(op≠4/\op≠5/\op≠12/\op≠15/\op≠16):=by omega
 rcases hop with rfl|rfl|rfl|rfl|rfl|hop
 ·go_enter Tryz.func140,Tryz.ntmps140
  go_wp2_with (first
   | (go_at_call 35;refine (bj _ _ _ _).mono ?_;rintro e w1 ⟨rfl,rfl⟩)
   | (go_at_call 189;refine (gA _ _ _ _ _ _ (HL.out.bl (cE.out _ _))).mono ?_;rintro e w1 ⟨rfl,rfl⟩))
  go_ret
  exact ⟨aj (by simp [bB]),cE.out _ _⟩
 ·go_enter Tryz.func140,Tryz.ntmps140
  go_wp2_with (first
   | (go_at_call 35;refine (bj _ _ _ _).mono ?_;rintro e w1 ⟨rfl,rfl⟩)
   | (go_at_call 189;refine (gA _ _ _ _ _ _ (HL.out.bl (cE.out _ _))).mono ?_;rintro e w1 ⟨rfl,rfl⟩))
  go_ret
  exact ⟨aj (by simp [bB]),cE.out _ _⟩
 ·go_enter Tryz.func140,Tryz.ntmps140
  go_wp2_with (first
   | (go_at_call 35;refine (bj _ _ _ _).mono ?_;rintro e w1 ⟨rfl,rfl⟩)
   | (go_at_call 189;refine (gA _ _ _ _ _ _ (HL.out.bl (cE.out _ _))).mono ?_;rintro e w1 ⟨rfl,rfl⟩))
  go_ret
  exact ⟨aj (by simp [bB]),cE.out _ _⟩
 ·go_enter Tryz.func140,Tryz.ntmps140
  go_wp2_with (first
   | (go_at_call 35;refine (bj _ _ _ _).mono ?_;rintro e w1 ⟨rfl,rfl⟩)
   | (go_at_call 189;refine (gA _ _ _ _ _ _ (HL.out.bl (cE.out _ _))).mono ?_;rintro e w1 ⟨rfl,rfl⟩))
  go_ret
  exact ⟨aj (by simp [bB]),cE.out _ _⟩
 ·go_enter Tryz.func140,Tryz.ntmps140
  go_wp2_with (first
   | (go_at_call 35;refine (bj _ _ _ _).mono ?_;rintro e w1 ⟨rfl,rfl⟩)
   | (go_at_call 189;refine (gA _ _ _ _ _ _ (HL.out.bl (cE.out _ _))).mono ?_;rintro e w1 ⟨rfl,rfl⟩))
  go_ret
  exact ⟨aj (by simp [bB]),cE.out _ _⟩
 ·obtain ⟨h4,h5,pQ,G0,MR⟩:=hop
  have z4:(op==4)=false:=by simp;omega
  have z5:(op==5)=false:=by simp;omega
  have z12:(op==12)=false:=by simp;omega
  have Sv:(op==15)=false:=by simp;omega
  have Qj:(op==16)=false:=by simp;omega
  have hb:bB cs ⟨op,a,b,c,n,args⟩=(b==0):=by
   unfold bB;dsimp only;rw [if_neg (by omega),if_neg (by omega),if_neg (by omega)];rw [Bool.eq_iff_iff];simp
  rw [hb]
  clear hb h4 h5 pQ G0 MR
  go_enter Tryz.func140,Tryz.ntmps140
  go_wp2
  all_goals
   go_ret
   exact ⟨aj (by simp [*]),cE.out _ _⟩
theorem lL (i:In) (nc nm:Nat) (A B:Option Addr) (x y:Nat) (m:Me) (P C K:Option Addr) (p c k:Nat) (Q:Option Addr) (q:Nat) (w:World) (hlo:0<=m.locs) (dR:m.locs<=60) (eU:nc<=maxLen) (eY:nm<=maxLen) (aW:m.code.length<=maxLen) :
  Calls Tryz.prog 139 #[fU nc nm A B x y,iW m P C K p c k,inV i Q q] w fun e w'=>e=.returned (.bool (aB nc nm m.code.length m.locs i))/\Bl w w':=by
 obtain ⟨op,a,b,d,n,args⟩:=i
 unfold maxLen at eU eY aW
 have cE:Hid (∀o o' Uy,Bl w (((w.alloc o).alloc o').alloc Uy)):=fun o o' Uy=>(((Bl.refl _).alloc _).alloc _).alloc _
 have hop:op=4∨op=5∨op=6∨op=7∨op=11∨op=12∨op=13∨op=14∨op=15∨op=16∨op=17∨op=18∨op=19∨op=24∨(op≠4/\op≠5/\op≠6/\op≠7/\op≠11/\op≠12/\op≠13/\op≠14/\op≠15/\op≠16/\op≠17/\op≠18/\op≠19/\op≠24):=by omega
 rcases hop with rfl|rfl|rfl|rfl|rfl|rfl|rfl|rfl|rfl|rfl|rfl|rfl|rfl|rfl|hop
 ·have hb:aB nc nm m.code.length m.locs ⟨4,a,b,d,n,args⟩=decide (0<=a/\a<=m.locs-jq b):=by simp [aB]
  rw [hb]
  obtain ⟨R,hR⟩:∃R,decide (0<=a/\a<=m.locs-jq b)=R:=⟨_,rfl⟩
  rw [hR]
  clear hb
  go_enter Tryz.func139,Tryz.ntmps139
  go_wp2_with (go_at_call 188;refine (nR m _ _ _ _ _ _ _ _ _ hlo dR).mono ?_;rintro e w1 ⟨he,iL⟩;rw [hR] at he;subst he)
  go_ret
  exact ⟨rfl,(cE.out _ _ _).trans iL⟩
 ·have hb:aB nc nm m.code.length m.locs ⟨5,a,b,d,n,args⟩=decide (0<=a/\a<=m.locs-jq b):=by simp [aB]
  rw [hb]
  obtain ⟨R,hR⟩:∃R,decide (0<=a/\a<=m.locs-jq b)=R:=⟨_,rfl⟩
  rw [hR]
  clear hb
  go_enter Tryz.func139,Tryz.ntmps139
  go_wp2_with (go_at_call 188;refine (nR m _ _ _ _ _ _ _ _ _ hlo dR).mono ?_;rintro e w1 ⟨he,iL⟩;rw [hR] at he;subst he)
  go_ret
  exact ⟨rfl,(cE.out _ _ _).trans iL⟩
 ·go_enter Tryz.func139,Tryz.ntmps139
  go_wp2_with (first
   | (go_at_call 35;refine (bj _ _ _ _).mono ?_;rintro e w1 ⟨rfl,rfl⟩)
   | (go_at_call 97;refine (bg _ _ _).mono ?_;rintro e w1 ⟨rfl,rfl⟩))
  go_ret
  exact ⟨aj (by simp [aB]),cE.out _ _ _⟩
 ·go_enter Tryz.func139,Tryz.ntmps139
  go_wp2_with (first
   | (go_at_call 35;refine (bj _ _ _ _).mono ?_;rintro e w1 ⟨rfl,rfl⟩)
   | (go_at_call 97;refine (bg _ _ _).mono ?_;rintro e w1 ⟨rfl,rfl⟩))
  go_ret
  exact ⟨aj (by simp [aB]),cE.out _ _ _⟩
 ·go_enter Tryz.func139,Tryz.ntmps139
  go_wp2_with (first
   | (go_at_call 35;refine (bj _ _ _ _).mono ?_;rintro e w1 ⟨rfl,rfl⟩)
   | (go_at_call 97;refine (bg _ _ _).mono ?_;rintro e w1 ⟨rfl,rfl⟩))
  go_ret
  exact ⟨aj (by simp [aB]),cE.out _ _ _⟩
 ·go_enter Tryz.func139,Tryz.ntmps139
  go_wp2_with (first
   | (go_at_call 35;refine (bj _ _ _ _).mono ?_;rintro e w1 ⟨rfl,rfl⟩)
   | (go_at_call 97;refine (bg _ _ _).mono ?_;rintro e w1 ⟨rfl,rfl⟩))
  go_ret
  exact ⟨aj (by simp [aB]),cE.out _ _ _⟩
 ·go_enter Tryz.func139,Tryz.ntmps139
  go_wp2_with (first
   | (go_at_call 35;refine (bj _ _ _ _).mono ?_;rintro e w1 ⟨rfl,rfl⟩)
   | (go_at_call 97;refine (bg _ _ _).mono ?_;rintro e w1 ⟨rfl,rfl⟩))
  go_ret
  exact ⟨aj (by simp [aB]),cE.out _ _ _⟩
 ·go_enter Tryz.func139,Tryz.ntmps139
  go_wp2_with (first
   | (go_at_call 35;refine (bj _ _ _ _).mono ?_;rintro e w1 ⟨rfl,rfl⟩)
   | (go_at_call 97;refine (bg _ _ _).mono ?_;rintro e w1 ⟨rfl,rfl⟩))
  go_ret
  exact ⟨aj (by simp [aB]),cE.out _ _ _⟩
 ·go_enter Tryz.func139,Tryz.ntmps139
  go_wp2_with (first
   | (go_at_call 35;refine (bj _ _ _ _).mono ?_;rintro e w1 ⟨rfl,rfl⟩)
   | (go_at_call 97;refine (bg _ _ _).mono ?_;rintro e w1 ⟨rfl,rfl⟩))
  go_ret
  exact ⟨aj (by simp [aB]),cE.out _ _ _⟩
 ·go_enter Tryz.func139,Tryz.ntmps139
  go_wp2_with (first
   | (go_at_call 35;refine (bj _ _ _ _).mono ?_;rintro e w1 ⟨rfl,rfl⟩)
   | (go_at_call 97;refine (bg _ _ _).mono ?_;rintro e w1 ⟨rfl,rfl⟩))
  go_ret
  exact ⟨aj (by simp [aB]),cE.out _ _ _⟩
 ·go_enter Tryz.func139,Tryz.ntmps139
  go_wp2_with (first
   | (go_at_call 35;refine (bj _ _ _ _).mono ?_;rintro e w1 ⟨rfl,rfl⟩)
   | (go_at_call 97;refine (bg _ _ _).mono ?_;rintro e w1 ⟨rfl,rfl⟩))
  go_ret
  exact ⟨aj (by simp [aB]),cE.out _ _ _⟩
 ·go_enter Tryz.func139,Tryz.ntmps139
  go_wp2_with (first
   | (go_at_call 35;refine (bj _ _ _ _).mono ?_;rintro e w1 ⟨rfl,rfl⟩)
   | (go_at_call 97;refine (bg _ _ _).mono ?_;rintro e w1 ⟨rfl,rfl⟩))
  go_ret
  exact ⟨aj (by simp [aB]),cE.out _ _ _⟩
 ·go_enter Tryz.func139,Tryz.ntmps139
  go_wp2_with (first
   | (go_at_call 35;refine (bj _ _ _ _).mono ?_;rintro e w1 ⟨rfl,rfl⟩)
   | (go_at_call 97;refine (bg _ _ _).mono ?_;rintro e w1 ⟨rfl,rfl⟩))
  go_ret
  exact ⟨aj (by simp [aB]),cE.out _ _ _⟩
 ·go_enter Tryz.func139,Tryz.ntmps139
  go_wp2_with (first
   | (go_at_call 35;refine (bj _ _ _ _).mono ?_;rintro e w1 ⟨rfl,rfl⟩)
   | (go_at_call 97;refine (bg _ _ _).mono ?_;rintro e w1 ⟨rfl,rfl⟩))
  go_ret
  exact ⟨aj (by simp [aB]),cE.out _ _ _⟩
 ·obtain ⟨h4,h5,h6,h7,G3,pQ,MX,DQ,G0,MR,Sx,Sy,pn,LO⟩:=hop
  have z4:(op==4)=false:=by simp;omega
  have z5:(op==5)=false:=by simp;omega
  have z6:(op==6)=false:=by simp;omega
  have z7:(op==7)=false:=by simp;omega
  have TX:(op==11)=false:=by simp;omega
  have z12:(op==12)=false:=by simp;omega
  have RI:(op==13)=false:=by simp;omega
  have WW:(op==14)=false:=by simp;omega
  have Sv:(op==15)=false:=by simp;omega
  have Qj:(op==16)=false:=by simp;omega
  have WX:(op==17)=false:=by simp;omega
  have WY:(op==18)=false:=by simp;omega
  have TY:(op==19)=false:=by simp;omega
  have z24:(op==24)=false:=by simp;omega
  have hb:aB nc nm m.code.length m.locs ⟨op,a,b,d,n,args⟩=(a==0):=by
   unfold aB;dsimp only;rw [if_neg (by omega),if_neg (by omega),if_neg (by omega),if_neg (by omega),if_neg (by omega),if_neg (by omega)];rw [Bool.eq_iff_iff];simp
  rw [hb]
  clear hb h4 h5 h6 h7 G3 pQ MX DQ G0 MR Sx Sy pn LO
  go_enter Tryz.func139,Tryz.ntmps139
  go_wp2
  all_goals
   go_ret
   exact ⟨aj (by simp [*]),cE.out _ _ _⟩
theorem MY (op a:Int) (h:op<1∨25<op) (cs:List Cl) (nm:Nat) (A B:Option Addr) (x y:Nat) (m:Me) (P C K:Option Addr) (p c k:Nat) (Q:Option Addr) (q:Nat) (w:World) (eU:cs.length<=12) (eY:nm<=8) (aW:m.code.length<=maxLen) (hlo:0<=m.locs) (dR:m.locs<=60) :
  Calls Tryz.prog 23 #[fU cs.length nm A B x y,iW m P C K p c k,inV ⟨op,a,0,0,0,[]⟩ Q q] w fun e w'=>e=.returned (.bool (bE cs nm m.code.length m.locs ⟨op,a,0,0,0,[]⟩))/\Bl w w':=by
 unfold maxLen at aW
 have z1:(op==1)=false:=by simp;omega
 have z2:(op==2)=false:=by simp;omega
 have z3:(op==3)=false:=by simp;omega
 have z4:(op==4)=false:=by simp;omega
 have z5:(op==5)=false:=by simp;omega
 have z6:(op==6)=false:=by simp;omega
 have z7:(op==7)=false:=by simp;omega
 have z8:(op==8)=false:=by simp;omega
 have z9:(op==9)=false:=by simp;omega
 have YB:(op==10)=false:=by simp;omega
 have TX:(op==11)=false:=by simp;omega
 have z12:(op==12)=false:=by simp;omega
 have RI:(op==13)=false:=by simp;omega
 have WW:(op==14)=false:=by simp;omega
 have Sv:(op==15)=false:=by simp;omega
 have Qj:(op==16)=false:=by simp;omega
 have WX:(op==17)=false:=by simp;omega
 have WY:(op==18)=false:=by simp;omega
 have TY:(op==19)=false:=by simp;omega
 have z20:(op==20)=false:=by simp;omega
 have z21:(op==21)=false:=by simp;omega
 have z22:(op==22)=false:=by simp;omega
 have V3:(op==23)=false:=by simp;omega
 have z24:(op==24)=false:=by simp;omega
 have z25:(op==25)=false:=by simp;omega
 have hs:bE cs nm m.code.length m.locs ⟨op,a,0,0,0,[]⟩=false:=by
  unfold bE
  dsimp only
  rw [if_neg (by omega),if_neg (by omega),if_neg (by omega),if_neg (by omega),if_neg (by omega),if_neg (by omega),if_neg (by omega),if_neg (by omega),if_neg (by omega),if_neg (by omega),if_neg (by omega)]
  simp
 rw [hs]
 clear hs
 go_enter Tryz.func23,Tryz.ntmps23
 go_wp2
 go_ret
 exact ⟨rfl,(((Bl.refl _).alloc _).alloc _).alloc _⟩
section
variable (a b:Int) (cs:List Cl) (nm:Nat) (A B:Option Addr) (x y:Nat) (m:Me) (P C K:Option Addr) (p c k:Nat) (Q:Option Addr) (q:Nat) (w:World)
theorem JT (eU:cs.length<=12) (eY:nm<=8) (aW:m.code.length<=maxLen) (hlo:0<=m.locs) (dR:m.locs<=60) (hl:ct w A cs) :
  Calls Tryz.prog 23 #[fU cs.length nm A B x y,iW m P C K p c k,inV ⟨15,a,b,0,0,[]⟩ Q q] w fun e w'=>e=.returned (.bool (bE cs nm m.code.length m.locs ⟨15,a,b,0,0,[]⟩))/\Bl w w':=by
 unfold maxLen at aW
 have f0:(iI w cs.length nm A B x y m P C K p c k ⟨15,a,b,0,0,[]⟩ Q q).cell? ⟨w.heap.size,0,none⟩=some (.slice A cs.length x):=(((Bl.refl _).alloc _).alloc _).cell (ak rfl)
 have f1:(iI w cs.length nm A B x y m P C K p c k ⟨15,a,b,0,0,[]⟩ Q q).cell? ⟨w.heap.size+1+1,1,none⟩=some (int i64 a):=by
  have:=ak (w:=(w.alloc (.cells #[.slice A cs.length x,.slice B nm y] 25)).alloc (.cells #[.slice P m.params.length p,int i64 m.ret.kind,int i64 m.ret.cls,int i64 m.stack,int i64 m.locs,int i64 m.regs,.slice C m.code.length c,.slice K m.hands.length k] 49)) (cs:=#[int i64 15,int i64 a,int i64 b,int i64 0,int i64 0,.slice Q 0 q]) (t:=55) (o:=1) rfl
  rw [World.size_alloc,World.size_alloc] at this
  exact this
 have f2:(iI w cs.length nm A B x y m P C K p c k ⟨15,a,b,0,0,[]⟩ Q q).cell? ⟨w.heap.size+1+1,2,none⟩=some (int i64 b):=by
  have:=ak (w:=(w.alloc (.cells #[.slice A cs.length x,.slice B nm y] 25)).alloc (.cells #[.slice P m.params.length p,int i64 m.ret.kind,int i64 m.ret.cls,int i64 m.stack,int i64 m.locs,int i64 m.regs,.slice C m.code.length c,.slice K m.hands.length k] 49)) (cs:=#[int i64 15,int i64 a,int i64 b,int i64 0,int i64 0,.slice Q 0 q]) (t:=55) (o:=2) rfl
  rw [World.size_alloc,World.size_alloc] at this
  exact this
 have g0:=aU f0
 have g1:=aU f1
 have g2:=aU f2
 have hg:Bl w (iI w cs.length nm A B x y m P C K p c k ⟨15,a,b,0,0,[]⟩ Q q):=(((Bl.refl w).alloc _).alloc _).alloc _
 have HL:=hl.bl hg
 clear f0 f1 f2 hl
 have HB:Hid (Bl w (iI w cs.length nm A B x y m P C K p c k ⟨15,a,b,0,0,[]⟩ Q q)):=hg
 clear hg
 unfold iI at g0 g1 g2 HL HB
 by_cases ha:0<=a/\a<=(cs.length:Int)-1
 ·have da:decide (0<=a/\a<=(cs.length:Int)-1)=true:=decide_eq_true ha
  obtain ⟨u,rfl⟩:=Int.eq_ofNat_of_zero_le ha.1
  rcases HL.2 with h0|⟨b',gj,rfl,hc⟩
  ·omega
  obtain ⟨-,-,A',c',h1,h2⟩:=hc u (by omega)
  have jC:=h2.1
  unfold maxLen at jC
  have g3:=aU h1
  have HS:Hid (bE cs nm m.code.length m.locs ⟨15,(u:Int),b,0,0,[]⟩=decide (0<=b/\b<=((nth cg cs u).fields.length:Int)-1)):=by
   show bE _ _ _ _ _=_
   rw [Bool.eq_iff_iff];simp [bE];omega
  clear h1 h2 hc HL
  cases db:decide (0<=b/\b<=((nth cg cs u).fields.length:Int)-1)
  all_goals
   rw [db] at HS
   go_enter Tryz.func23,Tryz.ntmps23
   go_wp2
   refine bh (by kernel_rfl) (by kernel_rfl) fun hne=>?_
   repeat (go_big_quiet_step ((go_at_call 20;exact Calls.fut_same_eq _ (aE _ _ _ _) (congrArg Value.bool (by first|exact da|exact db)))))
   refine wpQuiet_nil ?_
   rintro _ ⟨⟨w2,eK⟩,rfl⟩
   go_wp2
   go_ret
   exact ⟨aj HS.out.symm,HB.out.trans eK⟩
 ·have da:decide (0<=a/\a<=(cs.length:Int)-1)=false:=decide_eq_false ha
  have HS:Hid (bE cs nm m.code.length m.locs ⟨15,a,b,0,0,[]⟩=false):=by
   show bE _ _ _ _ _=_
   rw [Bool.eq_iff_iff];simp [bE];omega
  clear HL
  go_enter Tryz.func23,Tryz.ntmps23
  go_wp2
  refine bh (by kernel_rfl) (by kernel_rfl) fun hne=>?_
  repeat (go_big_quiet_step ((go_at_call 20;exact Calls.fut_same_eq _ (aE _ _ _ _) (congrArg Value.bool da))))
  refine wpQuiet_nil ?_
  rintro _ ⟨⟨w2,eK⟩,rfl⟩
  go_wp2
  go_ret
  exact ⟨aj HS.out.symm,HB.out.trans eK⟩
theorem JU (eU:cs.length<=12) (eY:nm<=8) (aW:m.code.length<=maxLen) (hlo:0<=m.locs) (dR:m.locs<=60) (hl:ct w A cs) :
  Calls Tryz.prog 23 #[fU cs.length nm A B x y,iW m P C K p c k,inV ⟨16,a,b,0,0,[]⟩ Q q] w fun e w'=>e=.returned (.bool (bE cs nm m.code.length m.locs ⟨16,a,b,0,0,[]⟩))/\Bl w w':=by
 unfold maxLen at aW
 have f0:(iI w cs.length nm A B x y m P C K p c k ⟨16,a,b,0,0,[]⟩ Q q).cell? ⟨w.heap.size,0,none⟩=some (.slice A cs.length x):=(((Bl.refl _).alloc _).alloc _).cell (ak rfl)
 have f1:(iI w cs.length nm A B x y m P C K p c k ⟨16,a,b,0,0,[]⟩ Q q).cell? ⟨w.heap.size+1+1,1,none⟩=some (int i64 a):=by
  have:=ak (w:=(w.alloc (.cells #[.slice A cs.length x,.slice B nm y] 25)).alloc (.cells #[.slice P m.params.length p,int i64 m.ret.kind,int i64 m.ret.cls,int i64 m.stack,int i64 m.locs,int i64 m.regs,.slice C m.code.length c,.slice K m.hands.length k] 49)) (cs:=#[int i64 16,int i64 a,int i64 b,int i64 0,int i64 0,.slice Q 0 q]) (t:=55) (o:=1) rfl
  rw [World.size_alloc,World.size_alloc] at this
  exact this
 have f2:(iI w cs.length nm A B x y m P C K p c k ⟨16,a,b,0,0,[]⟩ Q q).cell? ⟨w.heap.size+1+1,2,none⟩=some (int i64 b):=by
  have:=ak (w:=(w.alloc (.cells #[.slice A cs.length x,.slice B nm y] 25)).alloc (.cells #[.slice P m.params.length p,int i64 m.ret.kind,int i64 m.ret.cls,int i64 m.stack,int i64 m.locs,int i64 m.regs,.slice C m.code.length c,.slice K m.hands.length k] 49)) (cs:=#[int i64 16,int i64 a,int i64 b,int i64 0,int i64 0,.slice Q 0 q]) (t:=55) (o:=2) rfl
  rw [World.size_alloc,World.size_alloc] at this
  exact this
 have g0:=aU f0
 have g1:=aU f1
 have g2:=aU f2
 have hg:Bl w (iI w cs.length nm A B x y m P C K p c k ⟨16,a,b,0,0,[]⟩ Q q):=(((Bl.refl w).alloc _).alloc _).alloc _
 have HL:=hl.bl hg
 clear f0 f1 f2 hl
 have HB:Hid (Bl w (iI w cs.length nm A B x y m P C K p c k ⟨16,a,b,0,0,[]⟩ Q q)):=hg
 clear hg
 unfold iI at g0 g1 g2 HL HB
 by_cases ha:0<=a/\a<=(cs.length:Int)-1
 ·have da:decide (0<=a/\a<=(cs.length:Int)-1)=true:=decide_eq_true ha
  obtain ⟨u,rfl⟩:=Int.eq_ofNat_of_zero_le ha.1
  rcases HL.2 with h0|⟨b',gj,rfl,hc⟩
  ·omega
  obtain ⟨-,-,A',c',h1,h2⟩:=hc u (by omega)
  have jC:=h2.1
  unfold maxLen at jC
  have g3:=aU h1
  have HS:Hid (bE cs nm m.code.length m.locs ⟨16,(u:Int),b,0,0,[]⟩=decide (0<=b/\b<=((nth cg cs u).fields.length:Int)-1)):=by
   show bE _ _ _ _ _=_
   rw [Bool.eq_iff_iff];simp [bE];omega
  clear h1 h2 hc HL
  cases db:decide (0<=b/\b<=((nth cg cs u).fields.length:Int)-1)
  all_goals
   rw [db] at HS
   go_enter Tryz.func23,Tryz.ntmps23
   go_wp2
   refine bh (by kernel_rfl) (by kernel_rfl) fun hne=>?_
   repeat (go_big_quiet_step ((go_at_call 20;exact Calls.fut_same_eq _ (aE _ _ _ _) (congrArg Value.bool (by first|exact da|exact db)))))
   refine wpQuiet_nil ?_
   rintro _ ⟨⟨w2,eK⟩,rfl⟩
   go_wp2
   go_ret
   exact ⟨aj HS.out.symm,HB.out.trans eK⟩
 ·have da:decide (0<=a/\a<=(cs.length:Int)-1)=false:=decide_eq_false ha
  have HS:Hid (bE cs nm m.code.length m.locs ⟨16,a,b,0,0,[]⟩=false):=by
   show bE _ _ _ _ _=_
   rw [Bool.eq_iff_iff];simp [bE];omega
  clear HL
  go_enter Tryz.func23,Tryz.ntmps23
  go_wp2
  refine bh (by kernel_rfl) (by kernel_rfl) fun hne=>?_
  repeat (go_big_quiet_step ((go_at_call 20;exact Calls.fut_same_eq _ (aE _ _ _ _) (congrArg Value.bool da))))
  refine wpQuiet_nil ?_
  rintro _ ⟨⟨w2,eK⟩,rfl⟩
  go_wp2
  go_ret
  exact ⟨aj HS.out.symm,HB.out.trans eK⟩
end
theorem w8 (i:In) (cs:List Cl) (nm:Nat) (A B:Option Addr) (x y:Nat) (m:Me) (P C K:Option Addr) (p c k:Nat) (Q:Option Addr) (q:Nat) (w:World) (eU:cs.length<=12) (eY:nm<=8) (aW:m.code.length<=maxLen) (hlo:0<=m.locs) (dR:m.locs<=60) (hl:ct w A cs) :
  Calls Tryz.prog 23 #[fU cs.length nm A B x y,iW m P C K p c k,inV i Q q] w fun e w'=>e=.returned (.bool (bE cs nm m.code.length m.locs i))/\Bl w w':=by
 by_cases hbad:i.c=0/\i.args.length=0
 ·obtain ⟨op,a,b,c',n,ar⟩:=i
  obtain ⟨rfl,has⟩:c'=0/\ar.length=0:=hbad
  obtain rfl:ar=[]:=List.length_eq_zero_iff.1 has
  by_cases h1:op=1
  ·subst h1;exact ML a b n cs nm A B x y m P C K p c k Q q w eU eY aW hlo dR
  by_cases h2:op=2
  ·subst h2;exact MM a b n cs nm A B x y m P C K p c k Q q w eU eY aW hlo dR
  by_cases hn:n=0
  ·subst hn
   by_cases h4:op=4
   ·subst h4;exact MO a b cs nm A B x y m P C K p c k Q q w eU eY aW hlo dR
   by_cases h5:op=5
   ·subst h5;exact MP a b cs nm A B x y m P C K p c k Q q w eU eY aW hlo dR
   by_cases pQ:op=12
   ·subst pQ;exact JF a b cs nm A B x y m P C K p c k Q q w eU eY aW hlo dR
   by_cases G0:op=15
   ·subst G0;exact JT a b cs nm A B x y m P C K p c k Q q w eU eY aW hlo dR hl
   by_cases MR:op=16
   ·subst MR;exact JU a b cs nm A B x y m P C K p c k Q q w eU eY aW hlo dR hl
   by_cases hb:b=0
   ·subst hb
    by_cases h3:op=3
    ·subst h3;exact MS a cs nm A B x y m P C K p c k Q q w eU eY aW hlo dR
    by_cases h8:op=8
    ·subst h8;exact MT a cs nm A B x y m P C K p c k Q q w eU eY aW hlo dR
    by_cases h9:op=9
    ·subst h9;exact MU a cs nm A B x y m P C K p c k Q q w eU eY aW hlo dR
    by_cases NR:op=10
    ·subst NR;exact JG a cs nm A B x y m P C K p c k Q q w eU eY aW hlo dR
    by_cases oW:op=20
    ·subst oW;exact JH a cs nm A B x y m P C K p c k Q q w eU eY aW hlo dR
    by_cases WZ:op=21
    ·subst WZ;exact JI a cs nm A B x y m P C K p c k Q q w eU eY aW hlo dR
    by_cases Wu:op=22
    ·subst Wu;exact JJ a cs nm A B x y m P C K p c k Q q w eU eY aW hlo dR
    by_cases W1:op=23
    ·subst W1;exact JK a cs nm A B x y m P C K p c k Q q w eU eY aW hlo dR
    by_cases W5:op=25
    ·subst W5;exact JL a cs nm A B x y m P C K p c k Q q w eU eY aW hlo dR
    by_cases h6:op=6
    ·subst h6;exact MV a cs nm A B x y m P C K p c k Q q w eU eY aW hlo dR
    by_cases h7:op=7
    ·subst h7;exact MW a cs nm A B x y m P C K p c k Q q w eU eY aW hlo dR
    by_cases G3:op=11
    ·subst G3;exact JM a cs nm A B x y m P C K p c k Q q w eU eY aW hlo dR
    by_cases MX:op=13
    ·subst MX;exact JN a cs nm A B x y m P C K p c k Q q w eU eY aW hlo dR
    by_cases DQ:op=14
    ·subst DQ;exact JO a cs nm A B x y m P C K p c k Q q w eU eY aW hlo dR
    by_cases Sx:op=17
    ·subst Sx;exact JP a cs nm A B x y m P C K p c k Q q w eU eY aW hlo dR
    by_cases Sy:op=18
    ·subst Sy;exact JQ a cs nm A B x y m P C K p c k Q q w eU eY aW hlo dR
    by_cases pn:op=19
    ·subst pn;exact JR a cs nm A B x y m P C K p c k Q q w eU eY aW hlo dR
    by_cases LO:op=24
    ·subst LO;exact JS a cs nm A B x y m P C K p c k Q q w eU eY aW hlo dR
    exact MY op a (by omega) cs nm A B x y m P C K p c k Q q w eU eY aW hlo dR
   ·exact MQ op a b (by omega) hb cs nm A B x y m P C K p c k Q q w eU eY aW hlo dR
  ·exact MN op a b n h1 h2 hn cs nm A B x y m P C K p c k Q q w eU eY aW hlo dR
 ·exact FI i cs nm A B x y m P C K p c k Q q w eU eY aW hlo dR hbad
section
variable {cs:List Cl} {nm:Nat} {m:Me}
theorem FJ (h:ew cs.length m 400=false):fw cs nm m=false:=by unfold fw;rw [h];rfl
theorem qT (h:¬(m.regs=0/\0<=m.stack/\m.stack<=30/\(bZ m.params:Int)<=m.locs/\m.locs<=60)):fw cs nm m=false:=by
 unfold fw;rw [decide_eq_false h,Bool.and_false];rfl
theorem JV (hq:q<m.code.length) (h:bE cs nm m.code.length m.locs (nth fW m.code q)=false):fw cs nm m=false:=by
 unfold fw;rw [lS hq h,Bool.and_false]
theorem FK (h0:ew cs.length m 400=true) (h:m.regs=0/\0<=m.stack/\m.stack<=30/\(bZ m.params:Int)<=m.locs/\m.locs<=60) (hi:∀q,q<m.code.length->bE cs nm m.code.length m.locs (nth fW m.code q)=true):fw cs nm m=true:=by
 unfold fw;rw [h0,decide_eq_true h,jY hi];rfl
end
theorem xd (h:eQ f.classes=false):bW f=false:=by unfold bW;rw [h];rfl
theorem sN (h:¬(1<=f.methods.length/\f.methods.length<=8)):bW f=false:=by unfold bW;rw [decide_eq_false h,Bool.and_false];rfl
theorem Ao (hq:q<f.methods.length) (h:fw f.classes f.methods.length (nth bO f.methods q)=false):bW f=false:=by
 unfold bW;rw [lS hq h,Bool.and_false]
theorem sO (h0:eQ f.classes=true) (h:1<=f.methods.length/\f.methods.length<=8) (hi:∀q,q<f.methods.length->fw f.classes f.methods.length (nth bO f.methods q)=true):bW f=true:=by
 unfold bW;rw [h0,decide_eq_true h,jY hi];rfl
theorem CE {most:Int} (h:ew nc m most=true):m.params.length<=4/\m.hands.length<=8/\1<=m.code.length/\(m.code.length:Int)<=most :=
 Decidable.byContradiction fun hc=>by rw [np hc] at h;exact absurd h (by decide)
theorem CF (f:Fi) (A B:Option Addr) (a b:Nat) (w:World) (hA:ct w A f.classes) (hB:eE w B f.methods) :
  Calls Tryz.prog 8 #[fU f.classes.length f.methods.length A B a b] w fun e w'=>e=.returned (.bool (bW f))/\Bl w w':=by
 have HA:Hid (ct w A f.classes):=hA
 have HB:Hid (eE w B f.methods):=hB
 have K8:=hA.1
 have jX:=hB.1
 unfold maxLen at K8 jX
 clear hA hB
 have HF:Hid (gu (w.alloc (.cells #[.slice A f.classes.length a,.slice B f.methods.length b] 25)) w.heap.size 0 f.classes.length f.methods.length A B a b):=⟨ak rfl,ak rfl⟩
 have HW:Hid (Bl w (w.alloc (.cells #[.slice A f.classes.length a,.slice B f.methods.length b] 25))):=(Bl.refl w).alloc _
 cases hm:eQ f.classes
 ·have hb:=xd hm
  rw [hb]
  go_enter Tryz.func8,Tryz.ntmps8
  go_wp2_with (go_at_call 19;refine (pP _ _ _ _ (HA.out.bl HW.out)).mono ?_;rintro e w1 ⟨he,g1⟩;rw [hm] at he;subst he)
  go_ret
  exact ⟨rfl,HW.out.trans g1⟩
 by_cases hn:1<=(f.methods.length:Int)/\(f.methods.length:Int)<=8
 ·have dn:decide (1<=(f.methods.length:Int)/\(f.methods.length:Int)<=8)=true:=decide_eq_true hn
  have HG:Hid ((∀q,q<f.methods.length->fw f.classes f.methods.length (nth bO f.methods q)=true)->bW f=true):=sO hm (by omega)
  have eU:=(pL hm).2.2
  go_enter Tryz.func8,Tryz.ntmps8
  go_wp2_with (first
   | (go_at_call 19;refine (pP _ _ _ _ (HA.out.bl HW.out)).mono ?_;rintro e w1 ⟨he,g1⟩;rw [hm] at he;subst he;have q1:=(HF.out.bl g1).2;simp only [Nat.zero_add] at q1)
   | (go_at_call 20;refine (aE _ _ _ _).mono ?_;rintro e w2 ⟨he,rfl⟩;rw [dn] at he;subst he))
  go_loopw [3] (fun i wr=>∃k:Nat,k<=f.methods.length/\i=int i64 k/\Hid (∀j,j<k->fw f.classes f.methods.length (nth bO f.methods j)=true)/\Hid (Bl w wr)/\Hid (gu wr w.heap.size 0 f.classes.length f.methods.length A B a b)) (fun i _=>f.methods.length-(intOf i).toNat)
  case atStart=>exact ⟨0,Nat.zero_le _,rfl,fun j hj=>absurd hj (Nat.not_lt_zero _),HW.out.trans g1,HF.out.bl g1⟩
  case round =>
   clear HF HW q1 g1 hm
   obtain ⟨k,hk,rfl,Pg,hg,HF⟩:=hrel
   rename World=>w0
   have G6:=HF.out.2
   simp only [Nat.zero_add] at G6
   by_cases Cn:k<f.methods.length
   ·have FL:=HB.out.bl hg.out
    rcases FL.2 with h0|⟨b',gj,rfl,hcell⟩
    ·omega
    obtain ⟨P,C,K,p,c,kk,c0,c1,c2,c3,c4,c5,c6,c7,hme⟩:=hcell k Cn
    have kA:Hid (fw f.classes f.methods.length (nth bO f.methods k)=false->bW f=false):=Ao Cn
    generalize hM:nth bO f.methods k=m at *
    have HM:Hid (nth bO f.methods k=m):=hM
    have hcl:=hme.2.1.1
    have yQ:=hme.1.1
    clear FL hcell hM
    have bm:mz (w0.alloc (.cells #[.slice P m.params.length p,int i64 m.ret.kind,int i64 m.ret.cls,int i64 m.stack,int i64 m.locs,int i64 m.regs,.slice C m.code.length c,.slice K m.hands.length kk] 49)) w0.heap.size 0 m P C K p c kk:=⟨ak rfl,ak rfl,ak rfl,ak rfl,ak rfl,ak rfl,ak rfl,ak rfl⟩
    have hal:Bl w0 (w0.alloc (.cells #[.slice P m.params.length p,int i64 m.ret.kind,int i64 m.ret.cls,int i64 m.stack,int i64 m.locs,int i64 m.regs,.slice C m.code.length c,.slice K m.hands.length kk] 49)):=(Bl.refl w0).alloc _
    have bf:=HF.out.bl hal
    have XP:Hid (∀x:pk (w0.alloc (.cells #[.slice P m.params.length p,int i64 m.ret.kind,int i64 m.ret.cls,int i64 m.stack,int i64 m.locs,int i64 m.regs,.slice C m.code.length c,.slice K m.hands.length kk] 49)),dp x.to P m.params):=fun x=>hme.1.bl (hal.trans x.is)
    have XK:Hid (∀x:pk (w0.alloc (.cells #[.slice P m.params.length p,int i64 m.ret.kind,int i64 m.ret.cls,int i64 m.stack,int i64 m.locs,int i64 m.regs,.slice C m.code.length c,.slice K m.hands.length kk] 49)),kQ x.to K m.hands):=fun x=>hme.2.2.1.bl (hal.trans x.is)
    have HC:Hid (oK w0 C m.code):=hme.2.1
    have cE:Hid (Bl w0 (w0.alloc (.cells #[.slice P m.params.length p,int i64 m.ret.kind,int i64 m.ret.cls,int i64 m.stack,int i64 m.locs,int i64 m.regs,.slice C m.code.length c,.slice K m.hands.length kk] 49))):=hal
    have CG:Hid (mz (w0.alloc (.cells #[.slice P m.params.length p,int i64 m.ret.kind,int i64 m.ret.cls,int i64 m.stack,int i64 m.locs,int i64 m.regs,.slice C m.code.length c,.slice K m.hands.length kk] 49)) w0.heap.size 0 m P C K p c kk):=bm
    have MZ:Hid (gu (w0.alloc (.cells #[.slice P m.params.length p,int i64 m.ret.kind,int i64 m.ret.cls,int i64 m.stack,int i64 m.locs,int i64 m.regs,.slice C m.code.length c,.slice K m.hands.length kk] 49)) w.heap.size 0 f.classes.length f.methods.length (A) (some ⟨b',gj,none⟩) a b):=bf
    have x0:=aU bf.1
    have x1:=aU bf.2
    have y0:=aU bm.1
    have y1:=aU bm.2.1
    have y2:=aU bm.2.2.1
    have y3:=aU bm.2.2.2.1
    have y4:=aU bm.2.2.2.2.1
    have y5:=aU bm.2.2.2.2.2.1
    have y6:=aU bm.2.2.2.2.2.2.1
    have y7:=aU bm.2.2.2.2.2.2.2
    clear bm bf hal hme HF
    cases hh:ew f.classes.length m 400
    ·have HN:Hid (bW f=false):=kA.out (FJ hh)
     have ds:=hh
     have dl:=hh
     go_wp2
     refine bh (by kernel_rfl) (by kernel_rfl) fun hne=>?_
     repeat (go_big_quiet_step (first
      | (go_at_call 21;exact Calls.fut_eq _ (kc _ _ _ _ _ _ m _ _ _ _ _ _ _ _ (XP.out _) (XK.out _) eU hcl) (congrArg Value.bool hh))
      | (go_at_call 22;exact Calls.fut_same _ (jg _ _ _ _ (XP.out _) (by omega)))
      | (go_at_call 20;exact Calls.fut_same_eq _ (aE _ _ _ _) (congrArg Value.bool (by first|exact ds|exact dl)))))
     refine wpQuiet_nil ?_
     rintro _ ⟨⟨w2,eK⟩,rfl⟩
     go_wp2
     go_ret
     exact ⟨aj HN.out.symm,(hg.out.trans cE.out).trans eK⟩
    ·have W6:=CE hh
     by_cases hr:m.regs=0
     ·have Sz:(m.regs !=0)=false:=by simpa using hr
      have HR:Hid (m.regs=0):=hr
      clear hr
      by_cases hs:0<=m.stack/\m.stack<=30
      ·have ds:decide (0<=m.stack/\m.stack<=30)=true:=decide_eq_true hs
       by_cases hl:(bZ m.params:Int)<=m.locs/\m.locs<=60
       ·have dl:decide ((bZ m.params:Int)<=m.locs/\m.locs<=60)=true:=decide_eq_true hl
        have W7:Hid ((∀q,q<m.code.length->bE f.classes f.methods.length m.code.length m.locs (nth fW m.code q)=true)->fw f.classes f.methods.length m=true):=FK hh ⟨HR.out,by omega⟩
        go_wp2
        refine bh (by kernel_rfl) (by kernel_rfl) fun hne=>?_
        repeat (go_big_quiet_step (first
         | (go_at_call 21;exact Calls.fut_eq _ (kc _ _ _ _ _ _ m _ _ _ _ _ _ _ _ (XP.out _) (XK.out _) eU hcl) (congrArg Value.bool hh))
         | (go_at_call 22;exact Calls.fut_same _ (jg _ _ _ _ (XP.out _) (by omega)))
         | (go_at_call 20;exact Calls.fut_same_eq _ (aE _ _ _ _) (congrArg Value.bool (by first|exact ds|exact dl)))))
        refine wpQuiet_nil ?_
        rintro _ ⟨⟨w2,eK⟩,rfl⟩
        go_wp2
        clear x0 x1 y0 y1 y2 y3 y4 y5 y6 y7 hne
        go_loopw [5] (fun i SB=>∃q:Nat,q<=m.code.length/\i=int i64 q/\Hid (∀j,j<q->bE f.classes f.methods.length m.code.length m.locs (nth fW m.code j)=true)/\Hid (Bl w0 SB)/\Hid (gu SB w.heap.size 0 f.classes.length f.methods.length A (some ⟨b',gj,none⟩) a b)/\Hid (mz SB w0.heap.size 0 m P C K p c kk)) (fun i _=>m.code.length-(intOf i).toNat)
        case atStart=>exact ⟨0,Nat.zero_le _,rfl,fun j hj=>absurd hj (Nat.not_lt_zero _),cE.out.trans eK,MZ.out.bl eK,CG.out.bl eK⟩
        case round =>
         clear MZ CG cE eK XP XK
         obtain ⟨q,hq,rfl,mG,gE,MZ,CG⟩:=hrel
         have P3:=CG.out.2.2.2.2.2.2.1
         simp only [Nat.zero_add] at P3
         by_cases eR:q<m.code.length
         ·have hic:=HC.out.bl gE.out
          rcases hic.2 with h0|⟨b2,W8,rfl,hcell⟩
          ·omega
          obtain ⟨c0,c1,c2,c3,c4,-,A',ca,c5,-⟩:=hcell q eR
          have W9:Hid (bE f.classes f.methods.length m.code.length m.locs (nth fW m.code q)=false->bW f=false):=fun h=>kA.out (JV eR h)
          generalize hX:nth fW m.code q=X at *
          have HX:Hid (nth fW m.code q=X):=hX
          clear hic hcell hX
          have x0:=aU MZ.out.1
          have x1:=aU MZ.out.2
          have y0:=aU CG.out.1
          have y1:=aU CG.out.2.1
          have y2:=aU CG.out.2.2.1
          have y3:=aU CG.out.2.2.2.1
          have y4:=aU CG.out.2.2.2.2.1
          have y5:=aU CG.out.2.2.2.2.2.1
          have y6:=aU CG.out.2.2.2.2.2.2.1
          have y7:=aU CG.out.2.2.2.2.2.2.2
          have z0:=aU c0
          have z1:=aU c1
          have z2:=aU c2
          have z3:=aU c3
          have z4:=aU c4
          have z5:=aU c5
          clear c0 c1 c2 c3 c4 c5
          have XA:Hid (∀x:pk wr,ct x.to A f.classes):=fun x=>HA.out.bl ((hg.out.trans gE.out).trans x.is)
          have hlo:0<=m.locs:=by omega
          cases hi:bE f.classes f.methods.length m.code.length m.locs X
          ·have HN:Hid (bW f=false):=W9.out hi
           go_wp2
           refine bh (by kernel_rfl) (by kernel_rfl) fun hne=>?_
           repeat (go_big_quiet_step ((go_at_call 23;exact Calls.fut_eq _ (w8 X f.classes _ _ _ _ _ m _ _ _ _ _ _ _ _ _ eU (by omega) hcl hlo hl.2 (XA.out _)) (congrArg Value.bool hi))))
           refine wpQuiet_nil ?_
           rintro _ ⟨⟨w3,lH⟩,rfl⟩
           go_wp2
           go_ret
           exact ⟨aj HN.out.symm,(hg.out.trans gE.out).trans lH⟩
          ·have HI:Hid (bE f.classes f.methods.length m.code.length m.locs X=true):=hi
           go_wp2
           refine bh (by kernel_rfl) (by kernel_rfl) fun hne=>?_
           repeat (go_big_quiet_step ((go_at_call 23;exact Calls.fut_eq _ (w8 X f.classes _ _ _ _ _ m _ _ _ _ _ _ _ _ _ eU (by omega) hcl hlo hl.2 (XA.out _)) (congrArg Value.bool hi))))
           refine wpQuiet_nil ?_
           rintro _ ⟨⟨w3,lH⟩,rfl⟩
           go_wp2
           go_roundw
           case rel=>exact ⟨q+1,by omega,by go_num,fun j hj=>if h:j<q then mG.out j h else by have:j=q:=(by omega);subst this;rw [HX.out];exact HI.out,gE.out.trans lH,MZ.out.bl lH,CG.out.bl lH⟩
           case measure=>simp [intOf];omega
         ·obtain rfl:q=m.code.length:=by omega
          have HT:Hid (fw f.classes f.methods.length m=true):=W7.out mG.out
          go_wp2
          go_roundw
          case rel=>exact ⟨k+1,by omega,by go_num,fun j hj=>if h:j<k then Pg.out j h else by have:j=k:=(by omega);subst this;rw [HM.out];exact HT.out,hg.out.trans gE.out,MZ⟩
          case measure=>simp [intOf];omega
       ·have dl:decide ((bZ m.params:Int)<=m.locs/\m.locs<=60)=false:=decide_eq_false hl
        have HN:Hid (bW f=false):=kA.out (qT (by omega))
        go_wp2
        refine bh (by kernel_rfl) (by kernel_rfl) fun hne=>?_
        repeat (go_big_quiet_step (first
         | (go_at_call 21;exact Calls.fut_eq _ (kc _ _ _ _ _ _ m _ _ _ _ _ _ _ _ (XP.out _) (XK.out _) eU hcl) (congrArg Value.bool hh))
         | (go_at_call 22;exact Calls.fut_same _ (jg _ _ _ _ (XP.out _) (by omega)))
         | (go_at_call 20;exact Calls.fut_same_eq _ (aE _ _ _ _) (congrArg Value.bool (by first|exact ds|exact dl)))))
        refine wpQuiet_nil ?_
        rintro _ ⟨⟨w2,eK⟩,rfl⟩
        go_wp2
        go_ret
        exact ⟨aj HN.out.symm,(hg.out.trans cE.out).trans eK⟩
      ·have ds:decide (0<=m.stack/\m.stack<=30)=false:=decide_eq_false hs
       have dl:=hh
       have HN:Hid (bW f=false):=kA.out (qT (by omega))
       go_wp2
       refine bh (by kernel_rfl) (by kernel_rfl) fun hne=>?_
       repeat (go_big_quiet_step (first
        | (go_at_call 21;exact Calls.fut_eq _ (kc _ _ _ _ _ _ m _ _ _ _ _ _ _ _ (XP.out _) (XK.out _) eU hcl) (congrArg Value.bool hh))
        | (go_at_call 22;exact Calls.fut_same _ (jg _ _ _ _ (XP.out _) (by omega)))
        | (go_at_call 20;exact Calls.fut_same_eq _ (aE _ _ _ _) (congrArg Value.bool (by first|exact ds|exact dl)))))
       refine wpQuiet_nil ?_
       rintro _ ⟨⟨w2,eK⟩,rfl⟩
       go_wp2
       go_ret
       exact ⟨aj HN.out.symm,(hg.out.trans cE.out).trans eK⟩
     ·have Sz:(m.regs !=0)=true:=by simpa using hr
      have ds:=hh
      have dl:=hh
      have HN:Hid (bW f=false):=kA.out (qT (by omega))
      go_wp2
      refine bh (by kernel_rfl) (by kernel_rfl) fun hne=>?_
      repeat (go_big_quiet_step (first
       | (go_at_call 21;exact Calls.fut_eq _ (kc _ _ _ _ _ _ m _ _ _ _ _ _ _ _ (XP.out _) (XK.out _) eU hcl) (congrArg Value.bool hh))
       | (go_at_call 22;exact Calls.fut_same _ (jg _ _ _ _ (XP.out _) (by omega)))
       | (go_at_call 20;exact Calls.fut_same_eq _ (aE _ _ _ _) (congrArg Value.bool (by first|exact ds|exact dl)))))
      refine wpQuiet_nil ?_
      rintro _ ⟨⟨w2,eK⟩,rfl⟩
      go_wp2
      go_ret
      exact ⟨aj HN.out.symm,(hg.out.trans cE.out).trans eK⟩
   ·obtain rfl:k=f.methods.length:=by omega
    have HN:Hid (bW f=true):=HG.out Pg.out
    go_wp2
    go_ret
    exact ⟨aj HN.out.symm,hg.out⟩
 ·have hb:=sN (f:=f) (by omega)
  rw [hb]
  have dn:decide (1<=(f.methods.length:Int)/\(f.methods.length:Int)<=8)=false:=decide_eq_false hn
  go_enter Tryz.func8,Tryz.ntmps8
  go_wp2_with (first
   | (go_at_call 19;refine (pP _ _ _ _ (HA.out.bl HW.out)).mono ?_;rintro e w1 ⟨he,g1⟩;rw [hm] at he;subst he;have q1:=(HF.out.bl g1).2;simp only [Nat.zero_add] at q1)
   | (go_at_call 20;refine (aE _ _ _ _).mono ?_;rintro e w2 ⟨he,rfl⟩;rw [dn] at he;subst he))
  go_ret
  exact ⟨rfl,HW.out.trans g1⟩
theorem gu.new (w:World) (nc nm:Nat) (A B:Option Addr) (x y:Nat):gu (w.alloc (yW nc nm A B x y)) w.heap.size 0 nc nm A B x y:=⟨ak rfl,ak rfl⟩
structure kM (w:World) (b:Nat) (nc nm:Nat) (A B:Option Addr) (x y:Nat) (m:Me) (P C K:Option Addr) (p c k:Nat) (i:In) (Q:Option Addr) (q:Nat):Prop where
 f0:w.cell? ⟨b,0,none⟩=some (.slice A nc x)
 f1:w.cell? ⟨b,1,none⟩=some (.slice B nm y)
 m:eB w (b+1) m P C K p c k
 i0:w.cell? ⟨b+1+1,0,none⟩=some (int i64 i.op)
 i1:w.cell? ⟨b+1+1,1,none⟩=some (int i64 i.a)
 i2:w.cell? ⟨b+1+1,2,none⟩=some (int i64 i.b)
 i3:w.cell? ⟨b+1+1,3,none⟩=some (int i64 i.c)
 i4:w.cell? ⟨b+1+1,4,none⟩=some (int i64 i.n)
 i5:w.cell? ⟨b+1+1,5,none⟩=some (.slice Q i.args.length q)
theorem kM.bl {w w':World} (h:Bl w w') {b nm:Nat} {A B:Option Addr} {x y:Nat} {P C K:Option Addr} {p c k:Nat} {i:In} {Q:Option Addr} (hb:kM w b nc nm A B x y m P C K p c k i Q q):kM w' b nc nm A B x y m P C K p c k i Q q :=
 ⟨h.cell hb.f0,h.cell hb.f1,hb.m.bl h,h.cell hb.i0,h.cell hb.i1,h.cell hb.i2,h.cell hb.i3,h.cell hb.i4,h.cell hb.i5⟩
abbrev W3 (w:World) (nc nm:Nat) (A B:Option Addr) (x y:Nat) (m:Me) (P C K:Option Addr) (p c k:Nat) (i:In) (Q:Option Addr) (q:Nat):World :=
 ((w.alloc (yW nc nm A B x y)).alloc (n7 m P C K p c k)).alloc (Sw i Q q)
theorem kM.new (w:World) (nc nm:Nat) (A B:Option Addr) (x y:Nat) (m:Me) (P C K:Option Addr) (p c k:Nat) (i:In) (Q:Option Addr) (q:Nat) :
  kM (W3 w nc nm A B x y m P C K p c k i Q q) w.heap.size nc nm A B x y m P C K p c k i Q q:=by
 have h1:(w.alloc (yW nc nm A B x y)).heap.size=w.heap.size+1:=World.size_alloc ..
 have h2:((w.alloc (yW nc nm A B x y)).alloc (n7 m P C K p c k)).heap.size=w.heap.size+1+1:=by rw [World.size_alloc,World.size_alloc]
 have b2:Bl (w.alloc (yW nc nm A B x y)) (W3 w nc nm A B x y m P C K p c k i Q q):=((Bl.refl _).alloc _).alloc _
 have b3:Bl ((w.alloc (yW nc nm A B x y)).alloc (n7 m P C K p c k)) (W3 w nc nm A B x y m P C K p c k i Q q):=(Bl.refl _).alloc _
 have hm:=(eB.new (w.alloc (yW nc nm A B x y)) m P C K p c k).bl b3
 rw [h1] at hm
 refine ⟨b2.cell (ak rfl),b2.cell (ak rfl),hm,?_,?_,?_,?_,?_,?_⟩<;>rw [<-h2]<;>exact ak rfl
theorem qU (i:In) (cs:List Cl) (nm:Nat) (A B:Option Addr) (x y:Nat) (m:Me) (P C K:Option Addr) (p c k:Nat) (Q:Option Addr) (q:Nat) (w:World) (hlo:0<=m.locs) (dR:m.locs<=60) (hl:ct w A cs) (eY:nm<=maxLen) (aW:m.code.length<=maxLen) (hargs:i.args.length<=maxLen) :
  Calls Tryz.prog 83 #[fU cs.length nm A B x y,iW m P C K p c k,inV i Q q] w fun e w'=>e=.returned (.bool (bE cs nm m.code.length m.locs i))/\Bl w w':=by
 have HL:Hid (ct w A cs):=hl
 have eU:=hl.1
 have cE:Hid (Bl w (W3 w cs.length nm A B x y m P C K p c k i Q q)):=(((Bl.refl _).alloc _).alloc _).alloc _
 have jQ:Hid (kM (W3 w cs.length nm A B x y m P C K p c k i Q q) w.heap.size cs.length nm A B x y m P C K p c k i Q q):=kM.new ..
 clear hl
 unfold maxLen at hargs
 rw [yV]
 by_cases h1:1<=i.op/\i.op<=25
 ·have d1:decide (1<=i.op/\i.op<=25)=true:=decide_eq_true h1
  rw [d1,Bool.true_and]
  cases ha:aB cs.length nm m.code.length m.locs i
  ·rw [Bool.false_and]
   go_enter Tryz.func83,Tryz.ntmps83
   go_wp2_with (first
    | (go_at_call 35;refine (bj _ _ _ _).mono ?_;rintro e w0 ⟨he,mj⟩;rw [d1] at he;subst he;rw [mj];clear mj w0)
    | (go_at_call 139;refine (lL i _ _ _ _ _ _ m _ _ _ _ _ _ _ _ _ hlo dR eU eY aW).mono ?_;rintro e w1 ⟨he,g1⟩;rw [ha] at he;subst he))
   go_ret
   exact ⟨rfl,cE.out.trans g1⟩
  ·rw [Bool.true_and]
   cases hb:bB cs i
   ·rw [Bool.false_and]
    go_enter Tryz.func83,Tryz.ntmps83
    go_wp2_with (first
     | (go_at_call 35;refine (bj _ _ _ _).mono ?_;rintro e w0 ⟨he,mj⟩;rw [d1] at he;subst he;rw [mj];clear mj w0)
     | (go_at_call 139;refine (lL i _ _ _ _ _ _ m _ _ _ _ _ _ _ _ _ hlo dR eU eY aW).mono ?_;rintro e w1 ⟨he,g1⟩;rw [ha] at he;subst he;obtain ⟨e0,e1,-,a0,a1,a2,a3,a4,a5⟩:=jQ.out.bl g1)
     | (go_at_call 140;refine (nS i _ _ _ _ _ _ _ _ _ (HL.out.bl (cE.out.trans g1))).mono ?_;rintro e w2 ⟨he,g2⟩;rw [hb] at he;subst he))
    go_ret
    exact ⟨rfl,(cE.out.trans g1).trans g2⟩
   ·rw [Bool.true_and]
    by_cases hc:i.c=0
    ·have dc:(i.c==0)=true:=by simpa using hc
     have HC:Hid (i.c=0):=hc
     rw [decide_eq_true hc,Bool.true_and]
     clear hc
     cases hn:nB i
     ·rw [Bool.false_and]
      go_enter Tryz.func83,Tryz.ntmps83
      go_wp2_with (first
       | (go_at_call 35;refine (bj _ _ _ _).mono ?_;rintro e w0 ⟨he,mj⟩;rw [d1] at he;subst he;rw [mj];clear mj w0)
       | (go_at_call 139;refine (lL i _ _ _ _ _ _ m _ _ _ _ _ _ _ _ _ hlo dR eU eY aW).mono ?_;rintro e w1 ⟨he,g1⟩;rw [ha] at he;subst he;obtain ⟨e0,e1,-,a0,a1,a2,a3,a4,a5⟩:=jQ.out.bl g1)
       | (go_at_call 140;refine (nS i _ _ _ _ _ _ _ _ _ (HL.out.bl (cE.out.trans g1))).mono ?_;rintro e w2 ⟨he,g2⟩;rw [hb] at he;subst he;obtain ⟨-,-,-,b0,b1,b2,b3,b4,b5⟩:=jQ.out.bl (g1.trans g2))
       | (go_at_call 141;refine (wu i _ _ _).mono ?_;rintro e w3 ⟨he,g3⟩;rw [hn] at he;subst he))
      go_ret
      exact ⟨rfl,((cE.out.trans g1).trans g2).trans g3⟩
     ·rw [Bool.true_and]
      have hfin:decide (i.args.length=0)=((i.args.length:Int)==0):=by rw [Bool.eq_iff_iff];simp
      rw [hfin]
      clear hfin
      go_enter Tryz.func83,Tryz.ntmps83
      go_wp2_with (first
       | (go_at_call 35;refine (bj _ _ _ _).mono ?_;rintro e w0 ⟨he,mj⟩;rw [d1] at he;subst he;rw [mj];clear mj w0)
       | (go_at_call 139;refine (lL i _ _ _ _ _ _ m _ _ _ _ _ _ _ _ _ hlo dR eU eY aW).mono ?_;rintro e w1 ⟨he,g1⟩;rw [ha] at he;subst he;obtain ⟨e0,e1,-,a0,a1,a2,a3,a4,a5⟩:=jQ.out.bl g1)
       | (go_at_call 140;refine (nS i _ _ _ _ _ _ _ _ _ (HL.out.bl (cE.out.trans g1))).mono ?_;rintro e w2 ⟨he,g2⟩;rw [hb] at he;subst he;obtain ⟨-,-,-,b0,b1,b2,b3,b4,b5⟩:=jQ.out.bl (g1.trans g2))
       | (go_at_call 141;refine (wu i _ _ _).mono ?_;rintro e w3 ⟨he,g3⟩;rw [hn] at he;subst he;obtain ⟨-,-,-,-,-,-,-,-,c5⟩:=jQ.out.bl ((g1.trans g2).trans g3)))
      all_goals
       go_ret
       exact ⟨aj (by simp [*]),((cE.out.trans g1).trans g2).trans g3⟩
    ·have dc:(i.c==0)=false:=by simpa using hc
     rw [decide_eq_false hc,Bool.false_and]
     clear hc
     go_enter Tryz.func83,Tryz.ntmps83
     go_wp2_with (first
      | (go_at_call 35;refine (bj _ _ _ _).mono ?_;rintro e w0 ⟨he,mj⟩;rw [d1] at he;subst he;rw [mj];clear mj w0)
      | (go_at_call 139;refine (lL i _ _ _ _ _ _ m _ _ _ _ _ _ _ _ _ hlo dR eU eY aW).mono ?_;rintro e w1 ⟨he,g1⟩;rw [ha] at he;subst he;obtain ⟨e0,e1,-,a0,a1,a2,a3,a4,a5⟩:=jQ.out.bl g1)
      | (go_at_call 140;refine (nS i _ _ _ _ _ _ _ _ _ (HL.out.bl (cE.out.trans g1))).mono ?_;rintro e w2 ⟨he,g2⟩;rw [hb] at he;subst he;obtain ⟨-,-,-,b0,b1,b2,b3,b4,b5⟩:=jQ.out.bl (g1.trans g2)))
     go_ret
     exact ⟨rfl,(cE.out.trans g1).trans g2⟩
 ·have d1:decide (1<=i.op/\i.op<=25)=false:=decide_eq_false h1
  rw [d1,Bool.false_and]
  go_enter Tryz.func83,Tryz.ntmps83
  go_wp2_with (go_at_call 35;refine (bj _ _ _ _).mono ?_;rintro e w0 ⟨he,mj⟩;rw [d1] at he;subst he;rw [mj];clear mj w0)
  go_ret
  exact ⟨rfl,cE.out⟩
theorem xe {l:List Ty} (h:l.all (fu nc)=true):∀k,k<l.length->(nth cN l k).kind≠0:=by
 intro k hk
 have:=(List.all_eq_true.1 h) _ (bJ (d:=cN) hk)
 unfold fu at this
 rw [decide_eq_true_eq] at this
 omega
theorem lM (m:Me) (P C K:Option Addr) (p c k:Nat) (w:World) (hP:dp w P m.params) (h4:m.params.length<=4) (hk:∀k,k<m.params.length->(nth cN m.params k).kind≠0) :
  Calls Tryz.prog 37 #[iW m P C K p c k] w fun e w'=>e=.returned (.bool (sM m))/\Bl w w':=by
 have hal:Bl w (w.alloc (n7 m P C K p c k)):=(Bl.refl _).alloc _
 have XP:Hid (∀x:pk (w.alloc (n7 m P C K p c k)),dp x.to P m.params):=fun x=>hP.bl (hal.trans x.is)
 have HK:Hid (∀k,k<m.params.length->(nth cN m.params k).kind≠0):=hk
 obtain ⟨x0,x1,x2,x3,x4,x5,x6,x7⟩:=eB.new w m P C K p c k
 have y0:=aU x0
 have y3:=aU x3
 have y4:=aU x4
 have y5:=aU x5
 clear x0 x1 x2 x3 x4 x5 x6 x7 hP hk
 unfold sM
 by_cases hr:m.regs=0
 ·have Sz:(m.regs==0)=true:=by simpa using hr
  rw [decide_eq_true hr,Bool.true_and]
  clear hr
  by_cases hs:0<=m.stack/\m.stack<=30
  ·have ds:decide (0<=m.stack/\m.stack<=30)=true:=decide_eq_true hs
   rw [ds,Bool.true_and]
   obtain ⟨R,hR⟩:∃R,decide ((bZ m.params:Int)<=m.locs/\m.locs<=60)=R:=⟨_,rfl⟩
   rw [hR]
   go_enter Tryz.func37,Tryz.ntmps37
   go_wp2
   refine bh (by kernel_rfl) (by kernel_rfl) fun hne=>?_
   repeat (go_big_quiet_step (first
    | (go_at_call 82;exact Calls.fut _ (oB _ _ _ _ (XP.out _) (by omega) HK.out))
    | (go_at_call 35;exact Calls.fut_same_eq _ (bj _ _ _ _) (congrArg Value.bool (by first|exact ds|exact hR)))))
   refine wpQuiet_nil ?_
   rintro _ ⟨⟨w2,eK⟩,rfl⟩
   go_wp2
   go_ret
   exact ⟨rfl,hal.trans eK⟩
  ·have ds:decide (0<=m.stack/\m.stack<=30)=false:=decide_eq_false hs
   rw [ds,Bool.false_and]
   go_enter Tryz.func37,Tryz.ntmps37
   go_wp2
   refine bh (by kernel_rfl) (by kernel_rfl) fun hne=>?_
   repeat (go_big_quiet_step (first
    | (go_at_call 82;exact Calls.fut _ (oB _ _ _ _ (XP.out _) (by omega) HK.out))
    | (go_at_call 35;exact Calls.fut_same_eq _ (bj _ _ _ _) (congrArg Value.bool ds))))
   refine wpQuiet_nil ?_
   rintro _ ⟨⟨w2,eK⟩,rfl⟩
   go_wp2
   go_ret
   exact ⟨rfl,hal.trans eK⟩
 ·have Sz:(m.regs==0)=false:=by simpa using hr
  rw [decide_eq_false hr,Bool.false_and]
  go_enter Tryz.func37,Tryz.ntmps37
  go_wp2
  refine bh (by kernel_rfl) (by kernel_rfl) fun hne=>?_
  repeat (go_big_quiet_step (first
   | (go_at_call 82;exact Calls.fut _ (oB _ _ _ _ (XP.out _) (by omega) HK.out))
   | (go_at_call 35;exact Calls.fut_same _ (bj _ _ _ _))))
  refine wpQuiet_nil ?_
  rintro _ ⟨⟨w2,eK⟩,rfl⟩
  go_wp2
  go_ret
  exact ⟨rfl,hal.trans eK⟩
structure gX (w:World) (b:Nat) (nc nm:Nat) (A B:Option Addr) (x y:Nat) (m:Me) (P C K:Option Addr) (p c k:Nat):Prop where
 f0:w.cell? ⟨b,0,none⟩=some (.slice A nc x)
 f1:w.cell? ⟨b,1,none⟩=some (.slice B nm y)
 m:eB w (b+1) m P C K p c k
theorem gX.bl {w w':World} (h:Bl w w') {b nm:Nat} {A B:Option Addr} {x y:Nat} {P C K:Option Addr} {p c k:Nat} (hb:gX w b nc nm A B x y m P C K p c k):gX w' b nc nm A B x y m P C K p c k:=⟨h.cell hb.f0,h.cell hb.f1,hb.m.bl h⟩
theorem gX.new (w:World) (nc nm:Nat) (A B:Option Addr) (x y:Nat) (m:Me) (P C K:Option Addr) (p c k:Nat) :
  gX ((w.alloc (yW nc nm A B x y)).alloc (n7 m P C K p c k)) w.heap.size nc nm A B x y m P C K p c k:=by
 have b2:Bl (w.alloc (yW nc nm A B x y)) ((w.alloc (yW nc nm A B x y)).alloc (n7 m P C K p c k)):=(Bl.refl _).alloc _
 have hm:=eB.new (w.alloc (yW nc nm A B x y)) m P C K p c k
 rw [World.size_alloc] at hm
 exact ⟨b2.cell (ak rfl),b2.cell (ak rfl),hm⟩
theorem o8 (cs:List Cl) (nm:Nat) (A B:Option Addr) (x y:Nat) (m:Me) (P C K:Option Addr) (p c k:Nat) (w:World) (hlo:0<=m.locs) (dR:m.locs<=60) (hl:ct w A cs) (eY:nm<=maxLen) (hC:oK w C m.code) :
  Calls Tryz.prog 38 #[fU cs.length nm A B x y,iW m P C K p c k] w fun e w'=>e=.returned (.bool (wZ cs nm m))/\Bl w w':=by
 have HL:Hid (ct w A cs):=hl
 have HC:Hid (oK w C m.code):=hC
 have aW:=hC.1
 have Lr:Hid (m.code.length<=maxLen):=aW
 have Uz:Hid (nm<=maxLen):=eY
 have cE:Hid (Bl w ((w.alloc (yW cs.length nm A B x y)).alloc (n7 m P C K p c k))):=((Bl.refl _).alloc _).alloc _
 have jQ:Hid (gX ((w.alloc (yW cs.length nm A B x y)).alloc (n7 m P C K p c k)) w.heap.size cs.length nm A B x y m P C K p c k):=gX.new ..
 clear hl hC eY
 unfold maxLen at aW
 unfold wZ
 by_cases h1:1<=(m.code.length:Int)/\(m.code.length:Int)<=400
 ·have d1:decide (1<=(m.code.length:Int)/\(m.code.length:Int)<=400)=true:=decide_eq_true h1
  rw [d1,Bool.true_and]
  have HG:Hid ((∀q,q<m.code.length->bE cs nm m.code.length m.locs (nth fW m.code q)=true)->m.code.all (bE cs nm m.code.length m.locs)=true):=jY
  have HB:Hid (∀q,q<m.code.length->bE cs nm m.code.length m.locs (nth fW m.code q)=false->m.code.all (bE cs nm m.code.length m.locs)=false):=fun q=>lS
  obtain ⟨R,hR⟩:∃R,m.code.all (bE cs nm m.code.length m.locs)=R:=⟨_,rfl⟩
  rw [hR] at HG HB ⊢
  clear hR
  go_enter Tryz.func38,Tryz.ntmps38
  go_wp2_with (go_at_call 35;refine (bj _ _ _ _).mono ?_;rintro e w0 ⟨he,mj⟩;rw [d1] at he;subst he;rw [mj];clear mj w0)
  go_loopw [15] (fun i wr=>∃q:Nat,q<=m.code.length/\i=int i64 q/\Hid (∀j,j<q->bE cs nm m.code.length m.locs (nth fW m.code j)=true)/\Hid (Bl w wr)/\Hid (gX wr w.heap.size cs.length nm A B x y m P C K p c k)) (fun i _=>m.code.length-(intOf i).toNat)
  case atStart=>exact ⟨0,Nat.zero_le _,rfl,fun j hj=>absurd hj (Nat.not_lt_zero _),cE.out,jQ.out⟩
  case round =>
   clear jQ cE
   obtain ⟨q,hq,rfl,mG,hg,jQ⟩:=hrel
   by_cases eR:q<m.code.length
   ·rcases HC.out.2 with h0|⟨b,off,rfl,hcell⟩
    ·omega
    obtain ⟨c0,c1,c2,c3,c4,-,Q',q',c5,UA⟩:=hcell q eR
    replace c0:=hg.out.cell c0
    replace c1:=hg.out.cell c1
    replace c2:=hg.out.cell c2
    replace c3:=hg.out.cell c3
    replace c4:=hg.out.cell c4
    replace c5:=hg.out.cell c5
    have HA:Hid ((nth fW m.code q).args.length<=maxLen):=UA.1
    have HN:Hid (bE cs nm m.code.length m.locs (nth fW m.code q)=false->R=false):=HB.out q eR
    generalize hX:nth fW m.code q=X at *
    have HX:Hid (nth fW m.code q=X):=hX
    clear hcell HB hX UA
    have qb:∀o,gX (wr.alloc o) w.heap.size cs.length nm A _ x y m P _ K p c k:=fun o=>jQ.out.bl ((Bl.refl wr).alloc o)
    have Tm:=fun o=>(qb o).f0
    have YC:=fun o=>(qb o).f1
    have YD:=fun o=>(qb o).m.1
    have YE:=fun o=>(qb o).m.2.1
    have YF:=fun o=>(qb o).m.2.2.1
    have YG:=fun o=>(qb o).m.2.2.2.1
    have YH:=fun o=>(qb o).m.2.2.2.2.1
    have YI:=fun o=>(qb o).m.2.2.2.2.2.1
    have Vc:=fun o=>(qb o).m.2.2.2.2.2.2.1
    have YJ:=fun o=>(qb o).m.2.2.2.2.2.2.2
    have Xd:Hid (∀o,gX (wr.alloc o) w.heap.size cs.length nm A _ x y m P _ K p c k):=qb
    clear qb
    cases hT:bE cs nm m.code.length m.locs X
    ·have HF:=HN.out hT
     clear HN HG
     go_wp2_with (go_at_call 83;refine (qU X cs _ _ _ _ _ m _ _ _ _ _ _ _ _ _ hlo dR (HL.out.bl (hg.out.alloc _)) Uz.out Lr.out HA.out).mono ?_;rintro e w1 ⟨he,iL⟩;rw [hT] at he;subst he)
     go_ret
     exact ⟨aj HF.symm,(hg.out.alloc _).trans iL⟩
    ·have vm:Hid (bE cs nm m.code.length m.locs X=true):=hT
     clear HN HG
     go_wp2_with (go_at_call 83;refine (qU X cs _ _ _ _ _ m _ _ _ _ _ _ _ _ _ hlo dR (HL.out.bl (hg.out.alloc _)) Uz.out Lr.out HA.out).mono ?_;rintro e w1 ⟨he,iL⟩;rw [hT] at he;subst he)
     go_roundw
     case rel=>exact ⟨q+1,by omega,by go_num,fun j hj=>if h:j<q then mG.out j h else by have:j=q:=(by omega);subst this;rw [HX.out];exact vm.out,(hg.out.alloc _).trans iL,(Xd.out _).bl iL⟩
     case measure=>simp [intOf];omega
   ·have hkk:q=m.code.length:=by omega
    subst hkk
    have HF:=HG.out mG.out
    clear HG
    go_wp2
    go_ret
    exact ⟨aj HF.symm,hg.out⟩
 ·have d1:decide (1<=(m.code.length:Int)/\(m.code.length:Int)<=400)=false:=decide_eq_false h1
  rw [d1,Bool.false_and]
  go_enter Tryz.func38,Tryz.ntmps38
  go_wp2_with (go_at_call 35;refine (bj _ _ _ _).mono ?_;rintro e w0 ⟨he,mj⟩;rw [d1] at he;subst he;rw [mj];clear mj w0)
  go_ret
  exact ⟨rfl,cE.out⟩
theorem FM (f:Fi) (A B:Option Addr) (a b:Nat) (w:World) (hA:ct w A f.classes) (hB:eE w B f.methods) :
  Calls Tryz.prog 16 #[fU f.classes.length f.methods.length A B a b] w fun e w'=>e=.returned (.bool (bW f))/\Bl w w':=by
 have HA:Hid (ct w A f.classes):=hA
 have HB:Hid (eE w B f.methods):=hB
 have sG:Hid (f.methods.length<=maxLen):=hB.1
 have K8:=hA.1
 have jX:=hB.1
 unfold maxLen at K8 jX
 clear hA hB
 have HF:Hid (gu (w.alloc (yW f.classes.length f.methods.length A B a b)) w.heap.size 0 f.classes.length f.methods.length A B a b):=gu.new ..
 have HW:Hid (Bl w (w.alloc (yW f.classes.length f.methods.length A B a b))):=(Bl.refl w).alloc _
 cases hm:eQ f.classes
 ·have hb:=xd hm
  rw [hb]
  go_enter Tryz.func16,Tryz.ntmps16
  go_wp2_with (go_at_call 34;refine (lW _ _ _ _ (HA.out.bl HW.out)).mono ?_;rintro e w1 ⟨he,g1⟩;rw [hm] at he;subst he)
  go_ret
  exact ⟨rfl,HW.out.trans g1⟩
 by_cases hn:1<=(f.methods.length:Int)/\(f.methods.length:Int)<=8
 ·have dn:decide (1<=(f.methods.length:Int)/\(f.methods.length:Int)<=8)=true:=decide_eq_true hn
  have HG:Hid ((∀q,q<f.methods.length->fw f.classes f.methods.length (nth bO f.methods q)=true)->bW f=true):=sO hm (by omega)
  go_enter Tryz.func16,Tryz.ntmps16
  go_wp2_with (first
   | (go_at_call 34;refine (lW _ _ _ _ (HA.out.bl HW.out)).mono ?_;rintro e w1 ⟨he,g1⟩;rw [hm] at he;subst he;have q1:=(HF.out.bl g1).2;simp only [Nat.zero_add] at q1)
   | (go_at_call 35;refine (bj _ _ _ _).mono ?_;rintro e w2 ⟨he,eK⟩;rw [dn] at he;subst he;rw [eK];clear eK w2))
  go_loopw [19] (fun i wr=>∃k:Nat,k<=f.methods.length/\i=int i64 k/\Hid (∀j,j<k->fw f.classes f.methods.length (nth bO f.methods j)=true)/\Hid (Bl w wr)/\Hid (gu wr w.heap.size 0 f.classes.length f.methods.length A B a b)) (fun i _=>f.methods.length-(intOf i).toNat)
  case atStart=>exact ⟨0,Nat.zero_le _,rfl,fun j hj=>absurd hj (Nat.not_lt_zero _),HW.out.trans g1,HF.out.bl g1⟩
  case round =>
   clear HF HW q1 g1 hm
   obtain ⟨k,hk,rfl,Pg,hg,HF⟩:=hrel
   by_cases Cn:k<f.methods.length
   ·have FL:=HB.out.bl hg.out
    rcases FL.2 with h0|⟨b',gj,rfl,hcell⟩
    ·omega
    obtain ⟨P,C,K,p,c,kk,c0,c1,c2,c3,c4,c5,c6,c7,hme⟩:=hcell k Cn
    have kA:Hid (fw f.classes f.methods.length (nth bO f.methods k)=false->bW f=false):=Ao Cn
    generalize hM:nth bO f.methods k=m at *
    have HM:Hid (nth bO f.methods k=m):=hM
    have vG:Hid (kZ wr m P C K):=hme
    have HP:=Cz f.classes f.methods.length m
    have Tm:∀o,(wr.alloc o).cell? ⟨w.heap.size,0,none⟩=some (.slice A f.classes.length a):=fun o=>((Bl.refl wr).alloc o).cell HF.out.1
    have cE:Hid (Bl wr (wr.alloc (n7 m P C K p c kk))):=(Bl.refl wr).alloc _
    have Ph:Hid (eB (wr.alloc (n7 m P C K p c kk)) wr.heap.size m P C K p c kk):=eB.new ..
    have SC:Hid (gu (wr.alloc (n7 m P C K p c kk)) w.heap.size 0 f.classes.length f.methods.length A _ a b):=HF.out.bl cE.out
    clear FL hcell hM hme
    cases hh:Cy f.classes.length m
    ·have HN:Hid (bW f=false):=kA.out (by rw [HP,hh];rfl)
     clear HP kA
     go_wp2_with (go_at_call 36;refine (jR m _ _ _ _ _ _ _ _ (vG.out.bl cE.out)).mono ?_;rintro e w1 ⟨he,g1⟩;rw [hh] at he;subst he)
     go_ret
     exact ⟨aj HN.out.symm,(hg.out.trans cE.out).trans g1⟩
    ·have yX:m.params.length<=4/\m.params.all (fu f.classes.length)=true:=by
      unfold Cy at hh;simp only [Bool.and_eq_true,decide_eq_true_eq] at hh;exact ⟨hh.1,hh.2.1⟩
     have SD:Hid (∀k,k<m.params.length->(nth cN m.params k).kind≠0):=xe yX.2
     have h4:=yX.1
     clear yX
     cases hr:sM m
     ·have HN:Hid (bW f=false):=kA.out (by rw [HP,hh,hr];rfl)
      clear HP kA
      go_wp2_with (first
       | (go_at_call 36;refine (jR m _ _ _ _ _ _ _ _ (vG.out.bl cE.out)).mono ?_;rintro e w1 ⟨he,g1⟩;rw [hh] at he;subst he;obtain ⟨e0,e1,e2,e3,e4,e5,e6,e7⟩:=Ph.out.bl g1)
       | (go_at_call 37;refine (lM m _ _ _ _ _ _ _ (vG.out.1.bl (cE.out.trans g1)) h4 SD.out).mono ?_;rintro e w2 ⟨he,g2⟩;rw [hr] at he;subst he))
      go_ret
      exact ⟨aj HN.out.symm,((hg.out.trans cE.out).trans g1).trans g2⟩
     ·have Pj:0<=m.locs/\m.locs<=60:=by
       unfold sM at hr;simp only [Bool.and_eq_true,decide_eq_true_eq] at hr;omega
      obtain ⟨hlo,dR⟩:=Pj
      cases hc:wZ f.classes f.methods.length m
      ·have HN:Hid (bW f=false):=kA.out (by rw [HP,hh,hr,hc];rfl)
       clear HP kA
       go_wp2_with (first
        | (go_at_call 36;refine (jR m _ _ _ _ _ _ _ _ (vG.out.bl cE.out)).mono ?_;rintro e w1 ⟨he,g1⟩;rw [hh] at he;subst he;obtain ⟨e0,e1,e2,e3,e4,e5,e6,e7⟩:=Ph.out.bl g1)
        | (go_at_call 37;refine (lM m _ _ _ _ _ _ _ (vG.out.1.bl (cE.out.trans g1)) h4 SD.out).mono ?_;rintro e w2 ⟨he,g2⟩;rw [hr] at he;subst he;obtain ⟨t0,t1,t2,t3,t4,t5,t6,t7⟩:=Ph.out.bl (g1.trans g2);obtain ⟨v0,v1⟩:=SC.out.bl (g1.trans g2);simp only [Nat.zero_add] at v1)
        | (go_at_call 38;refine (o8 _ _ _ _ _ _ m _ _ _ _ _ _ _ hlo dR (HA.out.bl (((hg.out.trans cE.out).trans g1).trans g2)) sG.out (vG.out.2.1.bl ((cE.out.trans g1).trans g2))).mono ?_;rintro e w3 ⟨he,g3⟩;rw [hc] at he;subst he))
       go_ret
       exact ⟨aj HN.out.symm,(((hg.out.trans cE.out).trans g1).trans g2).trans g3⟩
      ·have HT:Hid (fw f.classes f.methods.length m=true):=by rw [HP,hh,hr,hc];rfl
       clear HP kA
       go_wp2_with (first
        | (go_at_call 36;refine (jR m _ _ _ _ _ _ _ _ (vG.out.bl cE.out)).mono ?_;rintro e w1 ⟨he,g1⟩;rw [hh] at he;subst he;obtain ⟨e0,e1,e2,e3,e4,e5,e6,e7⟩:=Ph.out.bl g1)
        | (go_at_call 37;refine (lM m _ _ _ _ _ _ _ (vG.out.1.bl (cE.out.trans g1)) h4 SD.out).mono ?_;rintro e w2 ⟨he,g2⟩;rw [hr] at he;subst he;obtain ⟨t0,t1,t2,t3,t4,t5,t6,t7⟩:=Ph.out.bl (g1.trans g2);obtain ⟨v0,v1⟩:=SC.out.bl (g1.trans g2);simp only [Nat.zero_add] at v1)
        | (go_at_call 38;refine (o8 _ _ _ _ _ _ m _ _ _ _ _ _ _ hlo dR (HA.out.bl (((hg.out.trans cE.out).trans g1).trans g2)) sG.out (vG.out.2.1.bl ((cE.out.trans g1).trans g2))).mono ?_;rintro e w3 ⟨he,g3⟩;rw [hc] at he;subst he))
       go_roundw
       case rel=>exact ⟨k+1,by omega,by go_num,fun j hj=>if h:j<k then Pg.out j h else by have:j=k:=(by omega);subst this;rw [HM.out];exact HT.out,(((hg.out.trans cE.out).trans g1).trans g2).trans g3,SC.out.bl ((g1.trans g2).trans g3)⟩
       case measure=>simp [intOf];omega
   ·obtain rfl:k=f.methods.length:=by omega
    have HN:Hid (bW f=true):=HG.out Pg.out
    go_wp2
    go_ret
    exact ⟨aj HN.out.symm,hg.out⟩
 ·have hb:=sN (f:=f) (by omega)
  rw [hb]
  have dn:decide (1<=(f.methods.length:Int)/\(f.methods.length:Int)<=8)=false:=decide_eq_false hn
  go_enter Tryz.func16,Tryz.ntmps16
  go_wp2_with (first
   | (go_at_call 34;refine (lW _ _ _ _ (HA.out.bl HW.out)).mono ?_;rintro e w1 ⟨he,g1⟩;rw [hm] at he;subst he;have q1:=(HF.out.bl g1).2;simp only [Nat.zero_add] at q1)
   | (go_at_call 35;refine (bj _ _ _ _).mono ?_;rintro e w2 ⟨he,eK⟩;rw [dn] at he;subst he;rw [eK];clear eK w2))
  go_ret
  exact ⟨rfl,HW.out.trans g1⟩
section
open Go.ChangeShapes Go.WideShapes Go.ChangeAt Go.RowKit Go.Deep
theorem Ap:Tryz.prog.cellsOf 45=2:=by kernel_rfl
theorem JW:Tryz.prog.cellsOf 105=2:=by kernel_rfl
theorem FN:Tryz.prog.cellsOf 43=1:=by kernel_rfl
theorem dI:Tryz.prog.cellsOf 3=1:=by kernel_rfl
theorem take_one {v:Value} (h:(cs.drop o).take 1=[v]):cs[o]?=some v:=by
 have h1:((cs.drop o).take 1)[0]?=some v:=by rw [h];rfl
 simpa [List.getElem?_take,List.getElem?_drop] using h1
section
variable {H:Type} {enc:TypeId×Value->H} {w:World} {base:Nat} {spare:Nat->Bool} {held:Bool}
theorem eN {t:TypeId} {P:Program} {y:Option (DataW H×List MemPlace)} (ht:P.underlying t=some (.int .i64)) (hc:P.cellsOf t=1) (hy:y≠none) (h:DataW.trod enc P w base spare held fuel t ((cs.drop o).take (P.cellsOf t))=y):∃n,cs[o]?=some (.int .i64 n)/\cP n:=by
 obtain ⟨x,rfl⟩:=Option.ne_none_iff_exists'.1 hy
 obtain ⟨n,hn,-,hw⟩:=DataW.trod_int ht h
 rw [hc] at hn
 exact ⟨n,take_one hn,bounds_i64 hw⟩
theorem jr {E:Type} (d:E) {R:E->List Value->Prop} {P:Program} {t e:TypeId} {s:Nat} {x:DataW H×List MemPlace} (ht:P.underlying t=some (.slice e)) (hs:P.cellsOf e=s) (h0:0<s) (he:∀(fuel:Nat) (cs:List Value) (x:DataW H×List MemPlace),DataW.trod enc P w base spare held fuel e cs=some x->∃z:E,R z cs) (h:DataW.trod enc P w base spare held fuel t cs=some x) :
  ∃(A:Option Addr) (l:List E) (c:Nat),cs=[.slice A l.length c]/\l.length<=maxLen/\(l.length=0∨∃b off,A=some ⟨b,off,none⟩ /\
   ∀i,i<l.length->∃vs,R (nth d l i) vs/\∀j,j<s->w.cell? ⟨b,off+i*s+j,none⟩=vs[j]?):=by
 rcases open_slice ht h with ⟨rfl,-⟩|⟨a,len,cap,m,n,D,Pl,rfl,hb,hl,hm,jX,-,hx⟩
 ·exact ⟨none,[],0,rfl,Nat.zero_le _,Or.inl rfl⟩
 have Qe:len<=m:=by rw [jX];split<;>omega
 rw [hs] at hx
 obtain ⟨f,hf⟩:=@choose_lt E ⟨d⟩ len ( fun i z=>∃vs,R z vs/\vs.length=s/\∀j,j<s->w.cell? ((a.add (i*s)).add j)=vs[j]?) (fun i hi=>by
  obtain ⟨cs',h1,h2⟩:=hx i (by omega)
  obtain ⟨z,hz⟩:=he _ _ _ h2
  obtain ⟨-,hlen,hcell⟩:=World.cells?_some h1
  exact ⟨z,cs',hz,hlen,hcell⟩)
 refine ⟨some a,(List.range len).map f,cap,by simp,by simp;omega,?_⟩
 simp only [List.length_map,List.length_range]
 by_cases hz:len=0
 ·exact Or.inl hz
 right
 obtain ⟨b,off,spot⟩:=a
 have Pk:spot=none:=by
  obtain ⟨vs,-,hlen,hcell⟩:=hf 0 (by omega)
  have g:=hcell 0 h0
  rw [List.getElem?_eq_getElem (by omega)] at g
  simpa [Addr.add] using World.cell?_spot g
 subst Pk
 refine ⟨b,off,rfl,fun i hi=>?_⟩
 obtain ⟨vs,hR,-,hcell⟩:=hf i hi
 refine ⟨vs,?_,fun j hj=>?_⟩
 ·have:nth d ((List.range len).map f) i=f i:=by rw [bU (by simpa using hi)];simp
  rw [this];exact hR
 ·have:=hcell j hj
  rw [add_add,add_plain,<-Nat.add_assoc] at this
  exact this
theorem Aq {x:DataW H×List MemPlace} (h:DataW.trod enc Tryz.prog w base spare held fuel 45 cs=some x) :
  ∃t:Ty,(cs[0]?=some (.int .i64 t.kind)/\cs[1]?=some (.int .i64 t.cls))/\cP t.kind/\cP t.cls:=by
 obtain ⟨xs,n,rfl,rfl,hl,hn,hf⟩:=DataW.trod_struct Tryz.underlying45 h
 have kV:xs.length=2:=hn
 obtain ⟨k,h0,w0⟩:=eN Tryz.underlying3 dI (by simp [kV]) (hf 0 _ rfl)
 obtain ⟨c,h1,w1⟩:=eN Tryz.underlying3 dI (by simp [kV]) (hf 1 _ rfl)
 exact ⟨⟨k,c⟩,⟨h0,h1⟩,w0,w1⟩
theorem FO {x:DataW H×List MemPlace} (h:DataW.trod enc Tryz.prog w base spare held fuel 43 cs=some x) :
  ∃(A:Option Addr) (l:List Ty) (c:Nat),cs=[.slice A l.length c]/\dp w A l:=by
 obtain ⟨A,l,c,rfl,hm,hr⟩:=jr cN Tryz.underlying43 Ap (by omega) (fun _ _ _=>Aq) h
 rcases hr with h0|⟨b,off,rfl,hi⟩
 ·exact ⟨A,l,c,rfl,hm,Or.inl h0⟩
 refine ⟨_,l,c,rfl,hm,Or.inr ⟨b,off,rfl,fun i hlt=>?_⟩⟩
 obtain ⟨vs,⟨⟨h0,h1⟩,w0,w1⟩,hc⟩:=hi i hlt
 exact ⟨(hc 0 (by omega)).trans h0,(hc 1 (by omega)).trans h1,w0,w1⟩
theorem Ar {y:Option (DataW H×List MemPlace)} (hy:y≠none) (h:DataW.trod enc Tryz.prog w base spare held fuel 43 ((cs.drop o).take (Tryz.prog.cellsOf 43))=y):∃(A:Option Addr) (l:List Ty) (c:Nat),cs[o]?=some (.slice A l.length c)/\dp w A l:=by
 obtain ⟨x,rfl⟩:=Option.ne_none_iff_exists'.1 hy
 obtain ⟨A,l,c,hn,hT⟩:=FO h
 rw [FN] at hn
 exact ⟨A,l,c,take_one hn,hT⟩
theorem JX {x:DataW H×List MemPlace} (h:DataW.trod enc Tryz.prog w base spare held fuel 105 cs=some x) :
  ∃t:Cl,cs[0]?=some (.int .i64 t.super)/\cP t.super/\∃A c,cs[1]?=some (.slice A t.fields.length c)/\dp w A t.fields:=by
 obtain ⟨xs,n,rfl,rfl,hl,hn,hf⟩:=DataW.trod_struct Tryz.underlying105 h
 have kV:xs.length=2:=hn
 obtain ⟨k,h0,w0⟩:=eN Tryz.underlying3 dI (by simp [kV]) (hf 0 _ rfl)
 obtain ⟨A,l,c,h1,w1⟩:=Ar (by simp [kV]) (hf 1 _ rfl)
 exact ⟨⟨k,l⟩,h0,w0,A,c,h1,w1⟩
theorem FP {x:DataW H×List MemPlace} (h:DataW.trod enc Tryz.prog w base spare held fuel 22 cs=some x) :
  ∃(A:Option Addr) (l:List Cl) (c:Nat),cs=[.slice A l.length c]/\ct w A l:=by
 obtain ⟨A,l,c,rfl,hm,hr⟩:=jr cg Tryz.underlying22 JW (by omega) (fun _ _ _=>JX) h
 rcases hr with h0|⟨b,off,rfl,hi⟩
 ·exact ⟨A,l,c,rfl,hm,Or.inl h0⟩
 refine ⟨_,l,c,rfl,hm,Or.inr ⟨b,off,rfl,fun i hlt=>?_⟩⟩
 obtain ⟨vs,⟨h0,w0,A',c',h1,w1⟩,hc⟩:=hi i hlt
 exact ⟨(hc 0 (by omega)).trans h0,w0,A',c',(hc 1 (by omega)).trans h1,w1⟩
end
end
end Go.Proofs.YtgiiapenmjollaaGreat
