import Derived.Test.YtimjmdfokicbkaaGreatSrap
import Derived.Test.YtimjmdfokicbkaaGreatChecked
import Derived.KernelRfl
import Derived.ProofKit
import Derived.OpenShut
import Derived.ReadAgain
namespace Go.Proofs.YtimjmdfokicbkaaGreat
set_option linter.unusedVariables false
set_option linter.unusedSimpArgs false
set_option maxHeartbeats 40000000
set_option maxRecDepth 100000
open Go.RowKit
open Go.Value (int)
open Go.IntKind (i64)
variable {f:Fi} {cs:List Value} {m:Me} {fuel nc o q:Nat}
theorem Nf (op a:Int) (h:op<1∨25<op) (cs:List Cl) (nm:Nat) (A B:Option Addr) (x y:Nat) (m:Me) (P C K:Option Addr) (p c k:Nat) (Q:Option Addr) (q:Nat) (w:World) (eT:cs.length≤12) (eZ:nm≤8) (aW:m.code.length≤maxLen) (hlo:0≤m.locs) (dQ:m.locs≤60) :
  Calls Tryz.prog 23 #[fV cs.length nm A B x y,iU m P C K p c k,inV ⟨op,a,0,0,0,[]⟩ Q q] w fun e w'=>e=.returned (.bool (bD cs nm m.code.length m.locs ⟨op,a,0,0,0,[]⟩))/\Bl w w':=by
 unfold maxLen at aW
 have z1:(op==1)=false:=by simp;omega
 have z2:(op==2)=false:=by simp;omega
 have z3:(op==3)=false:=by simp;omega
 have z4:(op==4)=false:=by simp;omega
 have z5:(op==5)=false:=by simp;omega
 have z6:(op==6)=false:=by simp;omega
 have z7:(op==7)=false:=by simp;omega
 have z8:(op==8)=false:=by simp;omega
 have z9:(op==9)=false:=by simp;omega
 have Zc:(op==10)=false:=by simp;omega
 have Uv:(op==11)=false:=by simp;omega
 have N0:(op==12)=false:=by simp;omega
 have Sj:(op==13)=false:=by simp;omega
 have XH:(op==14)=false:=by simp;omega
 have S0:(op==15)=false:=by simp;omega
 have QK:(op==16)=false:=by simp;omega
 have XI:(op==17)=false:=by simp;omega
 have XJ:(op==18)=false:=by simp;omega
 have Uw:(op==19)=false:=by simp;omega
 have Zd:(op==20)=false:=by simp;omega
 have WJ:(op==21)=false:=by simp;omega
 have z22:(op==22)=false:=by simp;omega
 have WK:(op==23)=false:=by simp;omega
 have z24:(op==24)=false:=by simp;omega
 have z25:(op==25)=false:=by simp;omega
 have hs:bD cs nm m.code.length m.locs ⟨op,a,0,0,0,[]⟩=false:=by
  unfold bD
  dsimp only
  rw [if_neg (by omega),if_neg (by omega),if_neg (by omega),if_neg (by omega),if_neg (by omega),if_neg (by omega),if_neg (by omega),if_neg (by omega),if_neg (by omega),if_neg (by omega),if_neg (by omega)]
  simp
 rw [hs]
 clear hs
 go_enter Tryz.func23,Tryz.ntmps23
 go_wp2
 go_ret
 exact ⟨rfl,(((Bl.refl _).alloc _).alloc _).alloc _⟩
section
variable (a b:Int) (cs:List Cl) (nm:Nat) (A B:Option Addr) (x y:Nat) (m:Me) (P C K:Option Addr) (p c k:Nat) (Q:Option Addr) (q:Nat) (w:World)
theorem JZ (eT:cs.length≤12) (eZ:nm≤8) (aW:m.code.length≤maxLen) (hlo:0≤m.locs) (dQ:m.locs≤60) (hl:cg w A cs) :
  Calls Tryz.prog 23 #[fV cs.length nm A B x y,iU m P C K p c k,inV ⟨15,a,b,0,0,[]⟩ Q q] w fun e w'=>e=.returned (.bool (bD cs nm m.code.length m.locs ⟨15,a,b,0,0,[]⟩))/\Bl w w':=by
 unfold maxLen at aW
 have f0:(iD w cs.length nm A B x y m P C K p c k ⟨15,a,b,0,0,[]⟩ Q q).cell? ⟨w.heap.size,0,none⟩=some (.slice A cs.length x):=(((Bl.refl _).alloc _).alloc _).cell (ak rfl)
 have f1:(iD w cs.length nm A B x y m P C K p c k ⟨15,a,b,0,0,[]⟩ Q q).cell? ⟨w.heap.size+1+1,1,none⟩=some (int i64 a):=by
  have:=ak (w:=(w.alloc (.cells #[.slice A cs.length x,.slice B nm y] 25)).alloc (.cells #[.slice P m.params.length p,int i64 m.ret.kind,int i64 m.ret.cls,int i64 m.stack,int i64 m.locs,int i64 m.regs,.slice C m.code.length c,.slice K m.hands.length k] 49)) (cs:=#[int i64 15,int i64 a,int i64 b,int i64 0,int i64 0,.slice Q 0 q]) (t:=55) (o:=1) rfl
  rw [World.size_alloc,World.size_alloc] at this
  exact this
 have f2:(iD w cs.length nm A B x y m P C K p c k ⟨15,a,b,0,0,[]⟩ Q q).cell? ⟨w.heap.size+1+1,2,none⟩=some (int i64 b):=by
  have:=ak (w:=(w.alloc (.cells #[.slice A cs.length x,.slice B nm y] 25)).alloc (.cells #[.slice P m.params.length p,int i64 m.ret.kind,int i64 m.ret.cls,int i64 m.stack,int i64 m.locs,int i64 m.regs,.slice C m.code.length c,.slice K m.hands.length k] 49)) (cs:=#[int i64 15,int i64 a,int i64 b,int i64 0,int i64 0,.slice Q 0 q]) (t:=55) (o:=2) rfl
  rw [World.size_alloc,World.size_alloc] at this
  exact this
 have g0:=aU f0
 have g1:=aU f1
 have g2:=aU f2
 have hg:Bl w (iD w cs.length nm A B x y m P C K p c k ⟨15,a,b,0,0,[]⟩ Q q):=(((Bl.refl w).alloc _).alloc _).alloc _
 have HL:=hl.bl hg
 clear f0 f1 f2 hl
 have HB:Hid (Bl w (iD w cs.length nm A B x y m P C K p c k ⟨15,a,b,0,0,[]⟩ Q q)):=hg
 clear hg
 unfold iD at g0 g1 g2 HL HB
 by_cases ha:0≤a/\a≤(cs.length:Int)-1
 ·have da:decide (0≤a/\a≤(cs.length:Int)-1)=true:=decide_eq_true ha
  obtain ⟨u,rfl⟩:=Int.eq_ofNat_of_zero_le ha.1
  rcases HL.2 with h0|⟨b',gp,rfl,hc⟩
  ·omega
  obtain ⟨-,-,A',c',h1,h2⟩:=hc u (by omega)
  have jB:=h2.1
  unfold maxLen at jB
  have g3:=aU h1
  have HS:Hid (bD cs nm m.code.length m.locs ⟨15,(u:Int),b,0,0,[]⟩=decide (0≤b/\b≤((nth cd cs u).fields.length:Int)-1)):=by
   show bD _ _ _ _ _=_
   rw [Bool.eq_iff_iff];simp [bD];omega
  clear h1 h2 hc HL
  cases db:decide (0≤b/\b≤((nth cd cs u).fields.length:Int)-1)
  all_goals
   rw [db] at HS
   go_enter Tryz.func23,Tryz.ntmps23
   go_wp2
   refine bg (by kernel_rfl) (by kernel_rfl) fun hne=>?_
   repeat (go_big_quiet_step ((go_at_call 20;exact Calls.fut_same_eq _ (aE _ _ _ _) (congrArg Value.bool (by first|exact da|exact db)))))
   refine wpQuiet_nil ?_
   rintro _ ⟨⟨w2,eK⟩,rfl⟩
   go_wp2
   go_ret
   exact ⟨aj HS.out.symm,HB.out.trans eK⟩
 ·have da:decide (0≤a/\a≤(cs.length:Int)-1)=false:=decide_eq_false ha
  have HS:Hid (bD cs nm m.code.length m.locs ⟨15,a,b,0,0,[]⟩=false):=by
   show bD _ _ _ _ _=_
   rw [Bool.eq_iff_iff];simp [bD];omega
  clear HL
  go_enter Tryz.func23,Tryz.ntmps23
  go_wp2
  refine bg (by kernel_rfl) (by kernel_rfl) fun hne=>?_
  repeat (go_big_quiet_step ((go_at_call 20;exact Calls.fut_same_eq _ (aE _ _ _ _) (congrArg Value.bool da))))
  refine wpQuiet_nil ?_
  rintro _ ⟨⟨w2,eK⟩,rfl⟩
  go_wp2
  go_ret
  exact ⟨aj HS.out.symm,HB.out.trans eK⟩
theorem Ju (eT:cs.length≤12) (eZ:nm≤8) (aW:m.code.length≤maxLen) (hlo:0≤m.locs) (dQ:m.locs≤60) (hl:cg w A cs) :
  Calls Tryz.prog 23 #[fV cs.length nm A B x y,iU m P C K p c k,inV ⟨16,a,b,0,0,[]⟩ Q q] w fun e w'=>e=.returned (.bool (bD cs nm m.code.length m.locs ⟨16,a,b,0,0,[]⟩))/\Bl w w':=by
 unfold maxLen at aW
 have f0:(iD w cs.length nm A B x y m P C K p c k ⟨16,a,b,0,0,[]⟩ Q q).cell? ⟨w.heap.size,0,none⟩=some (.slice A cs.length x):=(((Bl.refl _).alloc _).alloc _).cell (ak rfl)
 have f1:(iD w cs.length nm A B x y m P C K p c k ⟨16,a,b,0,0,[]⟩ Q q).cell? ⟨w.heap.size+1+1,1,none⟩=some (int i64 a):=by
  have:=ak (w:=(w.alloc (.cells #[.slice A cs.length x,.slice B nm y] 25)).alloc (.cells #[.slice P m.params.length p,int i64 m.ret.kind,int i64 m.ret.cls,int i64 m.stack,int i64 m.locs,int i64 m.regs,.slice C m.code.length c,.slice K m.hands.length k] 49)) (cs:=#[int i64 16,int i64 a,int i64 b,int i64 0,int i64 0,.slice Q 0 q]) (t:=55) (o:=1) rfl
  rw [World.size_alloc,World.size_alloc] at this
  exact this
 have f2:(iD w cs.length nm A B x y m P C K p c k ⟨16,a,b,0,0,[]⟩ Q q).cell? ⟨w.heap.size+1+1,2,none⟩=some (int i64 b):=by
  have:=ak (w:=(w.alloc (.cells #[.slice A cs.length x,.slice B nm y] 25)).alloc (.cells #[.slice P m.params.length p,int i64 m.ret.kind,int i64 m.ret.cls,int i64 m.stack,int i64 m.locs,int i64 m.regs,.slice C m.code.length c,.slice K m.hands.length k] 49)) (cs:=#[int i64 16,int i64 a,int i64 b,int i64 0,int i64 0,.slice Q 0 q]) (t:=55) (o:=2) rfl
  rw [World.size_alloc,World.size_alloc] at this
  exact this
 have g0:=aU f0
 have g1:=aU f1
 have g2:=aU f2
 have hg:Bl w (iD w cs.length nm A B x y m P C K p c k ⟨16,a,b,0,0,[]⟩ Q q):=(((Bl.refl w).alloc _).alloc _).alloc _
 have HL:=hl.bl hg
 clear f0 f1 f2 hl
 have HB:Hid (Bl w (iD w cs.length nm A B x y m P C K p c k ⟨16,a,b,0,0,[]⟩ Q q)):=hg
 clear hg
 unfold iD at g0 g1 g2 HL HB
 by_cases ha:0≤a/\a≤(cs.length:Int)-1
 ·have da:decide (0≤a/\a≤(cs.length:Int)-1)=true:=decide_eq_true ha
  obtain ⟨u,rfl⟩:=Int.eq_ofNat_of_zero_le ha.1
  rcases HL.2 with h0|⟨b',gp,rfl,hc⟩
  ·omega
  obtain ⟨-,-,A',c',h1,h2⟩:=hc u (by omega)
  have jB:=h2.1
  unfold maxLen at jB
  have g3:=aU h1
  have HS:Hid (bD cs nm m.code.length m.locs ⟨16,(u:Int),b,0,0,[]⟩=decide (0≤b/\b≤((nth cd cs u).fields.length:Int)-1)):=by
   show bD _ _ _ _ _=_
   rw [Bool.eq_iff_iff];simp [bD];omega
  clear h1 h2 hc HL
  cases db:decide (0≤b/\b≤((nth cd cs u).fields.length:Int)-1)
  all_goals
   rw [db] at HS
   go_enter Tryz.func23,Tryz.ntmps23
   go_wp2
   refine bg (by kernel_rfl) (by kernel_rfl) fun hne=>?_
   repeat (go_big_quiet_step ((go_at_call 20;exact Calls.fut_same_eq _ (aE _ _ _ _) (congrArg Value.bool (by first|exact da|exact db)))))
   refine wpQuiet_nil ?_
   rintro _ ⟨⟨w2,eK⟩,rfl⟩
   go_wp2
   go_ret
   exact ⟨aj HS.out.symm,HB.out.trans eK⟩
 ·have da:decide (0≤a/\a≤(cs.length:Int)-1)=false:=decide_eq_false ha
  have HS:Hid (bD cs nm m.code.length m.locs ⟨16,a,b,0,0,[]⟩=false):=by
   show bD _ _ _ _ _=_
   rw [Bool.eq_iff_iff];simp [bD];omega
  clear HL
  go_enter Tryz.func23,Tryz.ntmps23
  go_wp2
  refine bg (by kernel_rfl) (by kernel_rfl) fun hne=>?_
  repeat (go_big_quiet_step ((go_at_call 20;exact Calls.fut_same_eq _ (aE _ _ _ _) (congrArg Value.bool da))))
  refine wpQuiet_nil ?_
  rintro _ ⟨⟨w2,eK⟩,rfl⟩
  go_wp2
  go_ret
  exact ⟨aj HS.out.symm,HB.out.trans eK⟩
end
theorem wu (i:In) (cs:List Cl) (nm:Nat) (A B:Option Addr) (x y:Nat) (m:Me) (P C K:Option Addr) (p c k:Nat) (Q:Option Addr) (q:Nat) (w:World) (eT:cs.length≤12) (eZ:nm≤8) (aW:m.code.length≤maxLen) (hlo:0≤m.locs) (dQ:m.locs≤60) (hl:cg w A cs) :
  Calls Tryz.prog 23 #[fV cs.length nm A B x y,iU m P C K p c k,inV i Q q] w fun e w'=>e=.returned (.bool (bD cs nm m.code.length m.locs i))/\Bl w w':=by
 by_cases hbad:i.c=0/\i.args.length=0
 ·obtain ⟨op,a,b,c',n,ar⟩:=i
  obtain ⟨rfl,has⟩:c'=0/\ar.length=0:=hbad
  obtain rfl:ar=[]:=List.length_eq_zero_iff.1 has
  by_cases h1:op=1
  ·subst h1;exact MW a b n cs nm A B x y m P C K p c k Q q w eT eZ aW hlo dQ
  by_cases h2:op=2
  ·subst h2;exact MX a b n cs nm A B x y m P C K p c k Q q w eT eZ aW hlo dQ
  by_cases hn:n=0
  ·subst hn
   by_cases h4:op=4
   ·subst h4;exact MZ a b cs nm A B x y m P C K p c k Q q w eT eZ aW hlo dQ
   by_cases h5:op=5
   ·subst h5;exact Mu a b cs nm A B x y m P C K p c k Q q w eT eZ aW hlo dQ
   by_cases pN:op=12
   ·subst pN;exact JL a b cs nm A B x y m P C K p c k Q q w eT eZ aW hlo dQ
   by_cases G7:op=15
   ·subst G7;exact JZ a b cs nm A B x y m P C K p c k Q q w eT eZ aW hlo dQ hl
   by_cases M6:op=16
   ·subst M6;exact Ju a b cs nm A B x y m P C K p c k Q q w eT eZ aW hlo dQ hl
   by_cases hb:b=0
   ·subst hb
    by_cases h3:op=3
    ·subst h3;exact M8 a cs nm A B x y m P C K p c k Q q w eT eZ aW hlo dQ
    by_cases h8:op=8
    ·subst h8;exact M9 a cs nm A B x y m P C K p c k Q q w eT eZ aW hlo dQ
    by_cases h9:op=9
    ·subst h9;exact Na a cs nm A B x y m P C K p c k Q q w eT eZ aW hlo dQ
    by_cases N4:op=10
    ·subst N4;exact JM a cs nm A B x y m P C K p c k Q q w eT eZ aW hlo dQ
    by_cases oV:op=20
    ·subst oV;exact JN a cs nm A B x y m P C K p c k Q q w eT eZ aW hlo dQ
    by_cases XL:op=21
    ·subst XL;exact JO a cs nm A B x y m P C K p c k Q q w eT eZ aW hlo dQ
    by_cases XM:op=22
    ·subst XM;exact JP a cs nm A B x y m P C K p c k Q q w eT eZ aW hlo dQ
    by_cases XN:op=23
    ·subst XN;exact JQ a cs nm A B x y m P C K p c k Q q w eT eZ aW hlo dQ
    by_cases XO:op=25
    ·subst XO;exact JR a cs nm A B x y m P C K p c k Q q w eT eZ aW hlo dQ
    by_cases h6:op=6
    ·subst h6;exact Nb a cs nm A B x y m P C K p c k Q q w eT eZ aW hlo dQ
    by_cases h7:op=7
    ·subst h7;exact Nc a cs nm A B x y m P C K p c k Q q w eT eZ aW hlo dQ
    by_cases G8:op=11
    ·subst G8;exact JS a cs nm A B x y m P C K p c k Q q w eT eZ aW hlo dQ
    by_cases Nd:op=13
    ·subst Nd;exact JT a cs nm A B x y m P C K p c k Q q w eT eZ aW hlo dQ
    by_cases DU:op=14
    ·subst DU;exact JU a cs nm A B x y m P C K p c k Q q w eT eZ aW hlo dQ
    by_cases S4:op=17
    ·subst S4;exact JV a cs nm A B x y m P C K p c k Q q w eT eZ aW hlo dQ
    by_cases S5:op=18
    ·subst S5;exact JW a cs nm A B x y m P C K p c k Q q w eT eZ aW hlo dQ
    by_cases pn:op=19
    ·subst pn;exact JX a cs nm A B x y m P C K p c k Q q w eT eZ aW hlo dQ
    by_cases L4:op=24
    ·subst L4;exact JY a cs nm A B x y m P C K p c k Q q w eT eZ aW hlo dQ
    exact Nf op a (by omega) cs nm A B x y m P C K p c k Q q w eT eZ aW hlo dQ
   ·exact M5 op a b (by omega) hb cs nm A B x y m P C K p c k Q q w eT eZ aW hlo dQ
  ·exact MY op a b n h1 h2 hn cs nm A B x y m P C K p c k Q q w eT eZ aW hlo dQ
 ·exact FN i cs nm A B x y m P C K p c k Q q w eT eZ aW hlo dQ hbad
section
variable {cs:List Cl} {nm:Nat} {m:Me}
theorem FO (h:ew cs.length m 400=false):eX cs nm m=false:=by unfold eX;rw [h];rfl
theorem qP (h:¬(m.regs=0/\0≤m.stack/\m.stack≤30/\(bX m.params:Int)≤m.locs/\m.locs≤60)):eX cs nm m=false:=by
 unfold eX;rw [decide_eq_false h,Bool.and_false];rfl
theorem J0 (hq:q<m.code.length) (h:bD cs nm m.code.length m.locs (nth fX m.code q)=false):eX cs nm m=false:=by
 unfold eX;rw [lQ hq h,Bool.and_false]
theorem FP (h0:ew cs.length m 400=true) (h:m.regs=0/\0≤m.stack/\m.stack≤30/\(bX m.params:Int)≤m.locs/\m.locs≤60) (hi:∀q,q<m.code.length->bD cs nm m.code.length m.locs (nth fX m.code q)=true):eX cs nm m=true:=by
 unfold eX;rw [h0,decide_eq_true h,jT hi];rfl
end
theorem w8 (h:eG f.classes=false):bV f=false:=by unfold bV;rw [h];rfl
theorem sK (h:¬(1≤f.methods.length/\f.methods.length≤8)):bV f=false:=by unfold bV;rw [decide_eq_false h,Bool.and_false];rfl
theorem Ap (hq:q<f.methods.length) (h:eX f.classes f.methods.length (nth bM f.methods q)=false):bV f=false:=by
 unfold bV;rw [lQ hq h,Bool.and_false]
theorem sL (h0:eG f.classes=true) (h:1≤f.methods.length/\f.methods.length≤8) (hi:∀q,q<f.methods.length->eX f.classes f.methods.length (nth bM f.methods q)=true):bV f=true:=by
 unfold bV;rw [h0,decide_eq_true h,jT hi];rfl
theorem CF {most:Int} (h:ew nc m most=true):m.params.length≤4/\m.hands.length≤8/\1≤m.code.length/\(m.code.length:Int)≤most :=
 Decidable.byContradiction fun hc=>by rw [nk hc] at h;exact absurd h (by decide)
theorem CG (f:Fi) (A B:Option Addr) (a b:Nat) (w:World) (hA:cg w A f.classes) (hB:eD w B f.methods) :
  Calls Tryz.prog 8 #[fV f.classes.length f.methods.length A B a b] w fun e w'=>e=.returned (.bool (bV f))/\Bl w w':=by
 have HA:Hid (cg w A f.classes):=hA
 have HB:Hid (eD w B f.methods):=hB
 have Li:=hA.1
 have jy:=hB.1
 unfold maxLen at Li jy
 clear hA hB
 have HF:Hid (g4 (w.alloc (.cells #[.slice A f.classes.length a,.slice B f.methods.length b] 25)) w.heap.size 0 f.classes.length f.methods.length A B a b):=⟨ak rfl,ak rfl⟩
 have HW:Hid (Bl w (w.alloc (.cells #[.slice A f.classes.length a,.slice B f.methods.length b] 25))):=(Bl.refl w).alloc _
 cases hm:eG f.classes
 ·have hb:=w8 hm
  rw [hb]
  go_enter Tryz.func8,Tryz.ntmps8
  go_wp2_with (go_at_call 19;refine (pM _ _ _ _ (HA.out.bl HW.out)).mono ?_;rintro e w1 ⟨he,g1⟩;rw [hm] at he;subst he)
  go_ret
  exact ⟨rfl,HW.out.trans g1⟩
 by_cases hn:1≤(f.methods.length:Int)/\(f.methods.length:Int)≤8
 ·have dn:decide (1≤(f.methods.length:Int)/\(f.methods.length:Int)≤8)=true:=decide_eq_true hn
  have HG:Hid ((∀q,q<f.methods.length->eX f.classes f.methods.length (nth bM f.methods q)=true)->bV f=true):=sL hm (by omega)
  have eT:=(ng hm).2.2
  go_enter Tryz.func8,Tryz.ntmps8
  go_wp2_with (first
   | (go_at_call 19;refine (pM _ _ _ _ (HA.out.bl HW.out)).mono ?_;rintro e w1 ⟨he,g1⟩;rw [hm] at he;subst he;have q1:=(HF.out.bl g1).2;simp only [Nat.zero_add] at q1)
   | (go_at_call 20;refine (aE _ _ _ _).mono ?_;rintro e w2 ⟨he,rfl⟩;rw [dn] at he;subst he))
  go_loopw [3] (fun i wr=>∃k:Nat,k≤f.methods.length/\i=int i64 k/\Hid (∀j,j<k->eX f.classes f.methods.length (nth bM f.methods j)=true)/\Hid (Bl w wr)/\Hid (g4 wr w.heap.size 0 f.classes.length f.methods.length A B a b)) (fun i _=>f.methods.length-(intOf i).toNat)
  case atStart=>exact ⟨0,Nat.zero_le _,rfl,fun j hj=>absurd hj (Nat.not_lt_zero _),HW.out.trans g1,HF.out.bl g1⟩
  case round =>
   clear HF HW q1 g1 hm
   obtain ⟨k,hk,rfl,PE,hg,HF⟩:=hrel
   rename World=>w0
   have Hb:=HF.out.2
   simp only [Nat.zero_add] at Hb
   by_cases Co:k<f.methods.length
   ·have FQ:=HB.out.bl hg.out
    rcases FQ.2 with h0|⟨b',gp,rfl,hcell⟩
    ·omega
    obtain ⟨P,C,K,p,c,kk,c0,c1,c2,c3,c4,c5,c6,c7,hme⟩:=hcell k Co
    have kv:Hid (eX f.classes f.methods.length (nth bM f.methods k)=false->bV f=false):=Ap Co
    generalize hM:nth bM f.methods k=m at *
    have HM:Hid (nth bM f.methods k=m):=hM
    have hcl:=hme.2.1.1
    have yO:=hme.1.1
    clear FQ hcell hM
    have bm:mv (w0.alloc (.cells #[.slice P m.params.length p,int i64 m.ret.kind,int i64 m.ret.cls,int i64 m.stack,int i64 m.locs,int i64 m.regs,.slice C m.code.length c,.slice K m.hands.length kk] 49)) w0.heap.size 0 m P C K p c kk:=⟨ak rfl,ak rfl,ak rfl,ak rfl,ak rfl,ak rfl,ak rfl,ak rfl⟩
    have hal:Bl w0 (w0.alloc (.cells #[.slice P m.params.length p,int i64 m.ret.kind,int i64 m.ret.cls,int i64 m.stack,int i64 m.locs,int i64 m.regs,.slice C m.code.length c,.slice K m.hands.length kk] 49)):=(Bl.refl w0).alloc _
    have bf:=HF.out.bl hal
    have XP:Hid (∀x:pk (w0.alloc (.cells #[.slice P m.params.length p,int i64 m.ret.kind,int i64 m.ret.cls,int i64 m.stack,int i64 m.locs,int i64 m.regs,.slice C m.code.length c,.slice K m.hands.length kk] 49)),dm x.to P m.params):=fun x=>hme.1.bl (hal.trans x.is)
    have XK:Hid (∀x:pk (w0.alloc (.cells #[.slice P m.params.length p,int i64 m.ret.kind,int i64 m.ret.cls,int i64 m.stack,int i64 m.locs,int i64 m.regs,.slice C m.code.length c,.slice K m.hands.length kk] 49)),kP x.to K m.hands):=fun x=>hme.2.2.1.bl (hal.trans x.is)
    have HC:Hid (oI w0 C m.code):=hme.2.1
    have cD:Hid (Bl w0 (w0.alloc (.cells #[.slice P m.params.length p,int i64 m.ret.kind,int i64 m.ret.cls,int i64 m.stack,int i64 m.locs,int i64 m.regs,.slice C m.code.length c,.slice K m.hands.length kk] 49))):=hal
    have CH:Hid (mv (w0.alloc (.cells #[.slice P m.params.length p,int i64 m.ret.kind,int i64 m.ret.cls,int i64 m.stack,int i64 m.locs,int i64 m.regs,.slice C m.code.length c,.slice K m.hands.length kk] 49)) w0.heap.size 0 m P C K p c kk):=bm
    have Ng:Hid (g4 (w0.alloc (.cells #[.slice P m.params.length p,int i64 m.ret.kind,int i64 m.ret.cls,int i64 m.stack,int i64 m.locs,int i64 m.regs,.slice C m.code.length c,.slice K m.hands.length kk] 49)) w.heap.size 0 f.classes.length f.methods.length (A) (some ⟨b',gp,none⟩) a b):=bf
    have x0:=aU bf.1
    have x1:=aU bf.2
    have y0:=aU bm.1
    have y1:=aU bm.2.1
    have y2:=aU bm.2.2.1
    have y3:=aU bm.2.2.2.1
    have y4:=aU bm.2.2.2.2.1
    have y5:=aU bm.2.2.2.2.2.1
    have y6:=aU bm.2.2.2.2.2.2.1
    have y7:=aU bm.2.2.2.2.2.2.2
    clear bm bf hal hme HF
    cases hh:ew f.classes.length m 400
    ·have HN:Hid (bV f=false):=kv.out (FO hh)
     have ds:=hh
     have dl:=hh
     go_wp2
     refine bg (by kernel_rfl) (by kernel_rfl) fun hne=>?_
     repeat (go_big_quiet_step (first
      | (go_at_call 21;exact Calls.fut_eq _ (j8 _ _ _ _ _ _ m _ _ _ _ _ _ _ _ (XP.out _) (XK.out _) eT hcl) (congrArg Value.bool hh))
      | (go_at_call 22;exact Calls.fut_same _ (jg _ _ _ _ (XP.out _) (by omega)))
      | (go_at_call 20;exact Calls.fut_same_eq _ (aE _ _ _ _) (congrArg Value.bool (by first|exact ds|exact dl)))))
     refine wpQuiet_nil ?_
     rintro _ ⟨⟨w2,eK⟩,rfl⟩
     go_wp2
     go_ret
     exact ⟨aj HN.out.symm,(hg.out.trans cD.out).trans eK⟩
    ·have XQ:=CF hh
     by_cases hr:m.regs=0
     ·have S6:(m.regs !=0)=false:=by simpa using hr
      have HR:Hid (m.regs=0):=hr
      clear hr
      by_cases hs:0≤m.stack/\m.stack≤30
      ·have ds:decide (0≤m.stack/\m.stack≤30)=true:=decide_eq_true hs
       by_cases hl:(bX m.params:Int)≤m.locs/\m.locs≤60
       ·have dl:decide ((bX m.params:Int)≤m.locs/\m.locs≤60)=true:=decide_eq_true hl
        have XR:Hid ((∀q,q<m.code.length->bD f.classes f.methods.length m.code.length m.locs (nth fX m.code q)=true)->eX f.classes f.methods.length m=true):=FP hh ⟨HR.out,by omega⟩
        go_wp2
        refine bg (by kernel_rfl) (by kernel_rfl) fun hne=>?_
        repeat (go_big_quiet_step (first
         | (go_at_call 21;exact Calls.fut_eq _ (j8 _ _ _ _ _ _ m _ _ _ _ _ _ _ _ (XP.out _) (XK.out _) eT hcl) (congrArg Value.bool hh))
         | (go_at_call 22;exact Calls.fut_same _ (jg _ _ _ _ (XP.out _) (by omega)))
         | (go_at_call 20;exact Calls.fut_same_eq _ (aE _ _ _ _) (congrArg Value.bool (by first|exact ds|exact dl)))))
        refine wpQuiet_nil ?_
        rintro _ ⟨⟨w2,eK⟩,rfl⟩
        go_wp2
        clear x0 x1 y0 y1 y2 y3 y4 y5 y6 y7 hne
        go_loopw [5] (fun i S7=>∃q:Nat,q≤m.code.length/\i=int i64 q/\Hid (∀j,j<q->bD f.classes f.methods.length m.code.length m.locs (nth fX m.code j)=true)/\Hid (Bl w0 S7)/\Hid (g4 S7 w.heap.size 0 f.classes.length f.methods.length A (some ⟨b',gp,none⟩) a b)/\Hid (mv S7 w0.heap.size 0 m P C K p c kk)) (fun i _=>m.code.length-(intOf i).toNat)
        case atStart=>exact ⟨0,Nat.zero_le _,rfl,fun j hj=>absurd hj (Nat.not_lt_zero _),cD.out.trans eK,Ng.out.bl eK,CH.out.bl eK⟩
        case round =>
         clear Ng CH cD eK XP XK
         obtain ⟨q,hq,rfl,mE,eY,Ng,CH⟩:=hrel
         have Qr:=CH.out.2.2.2.2.2.2.1
         simp only [Nat.zero_add] at Qr
         by_cases eQ:q<m.code.length
         ·have hic:=HC.out.bl eY.out
          rcases hic.2 with h0|⟨b2,XS,rfl,hcell⟩
          ·omega
          obtain ⟨c0,c1,c2,c3,c4,-,A',ca,c5,-⟩:=hcell q eQ
          have XT:Hid (bD f.classes f.methods.length m.code.length m.locs (nth fX m.code q)=false->bV f=false):=fun h=>kv.out (J0 eQ h)
          generalize hX:nth fX m.code q=X at *
          have HX:Hid (nth fX m.code q=X):=hX
          clear hic hcell hX
          have x0:=aU Ng.out.1
          have x1:=aU Ng.out.2
          have y0:=aU CH.out.1
          have y1:=aU CH.out.2.1
          have y2:=aU CH.out.2.2.1
          have y3:=aU CH.out.2.2.2.1
          have y4:=aU CH.out.2.2.2.2.1
          have y5:=aU CH.out.2.2.2.2.2.1
          have y6:=aU CH.out.2.2.2.2.2.2.1
          have y7:=aU CH.out.2.2.2.2.2.2.2
          have z0:=aU c0
          have z1:=aU c1
          have z2:=aU c2
          have z3:=aU c3
          have z4:=aU c4
          have z5:=aU c5
          clear c0 c1 c2 c3 c4 c5
          have XA:Hid (∀x:pk wr,cg x.to A f.classes):=fun x=>HA.out.bl ((hg.out.trans eY.out).trans x.is)
          have hlo:0≤m.locs:=by omega
          cases hi:bD f.classes f.methods.length m.code.length m.locs X
          ·have HN:Hid (bV f=false):=XT.out hi
           go_wp2
           refine bg (by kernel_rfl) (by kernel_rfl) fun hne=>?_
           repeat (go_big_quiet_step ((go_at_call 23;exact Calls.fut_eq _ (wu X f.classes _ _ _ _ _ m _ _ _ _ _ _ _ _ _ eT (by omega) hcl hlo hl.2 (XA.out _)) (congrArg Value.bool hi))))
           refine wpQuiet_nil ?_
           rintro _ ⟨⟨w3,lF⟩,rfl⟩
           go_wp2
           go_ret
           exact ⟨aj HN.out.symm,(hg.out.trans eY.out).trans lF⟩
          ·have HI:Hid (bD f.classes f.methods.length m.code.length m.locs X=true):=hi
           go_wp2
           refine bg (by kernel_rfl) (by kernel_rfl) fun hne=>?_
           repeat (go_big_quiet_step ((go_at_call 23;exact Calls.fut_eq _ (wu X f.classes _ _ _ _ _ m _ _ _ _ _ _ _ _ _ eT (by omega) hcl hlo hl.2 (XA.out _)) (congrArg Value.bool hi))))
           refine wpQuiet_nil ?_
           rintro _ ⟨⟨w3,lF⟩,rfl⟩
           go_wp2
           go_roundw
           case rel=>exact ⟨q+1,by omega,by go_num,fun j hj=>if h:j<q then mE.out j h else by have:j=q:=(by omega);subst this;rw [HX.out];exact HI.out,eY.out.trans lF,Ng.out.bl lF,CH.out.bl lF⟩
           case measure=>simp [intOf];omega
         ·obtain rfl:q=m.code.length:=by omega
          have HT:Hid (eX f.classes f.methods.length m=true):=XR.out mE.out
          go_wp2
          go_roundw
          case rel=>exact ⟨k+1,by omega,by go_num,fun j hj=>if h:j<k then PE.out j h else by have:j=k:=(by omega);subst this;rw [HM.out];exact HT.out,hg.out.trans eY.out,Ng⟩
          case measure=>simp [intOf];omega
       ·have dl:decide ((bX m.params:Int)≤m.locs/\m.locs≤60)=false:=decide_eq_false hl
        have HN:Hid (bV f=false):=kv.out (qP (by omega))
        go_wp2
        refine bg (by kernel_rfl) (by kernel_rfl) fun hne=>?_
        repeat (go_big_quiet_step (first
         | (go_at_call 21;exact Calls.fut_eq _ (j8 _ _ _ _ _ _ m _ _ _ _ _ _ _ _ (XP.out _) (XK.out _) eT hcl) (congrArg Value.bool hh))
         | (go_at_call 22;exact Calls.fut_same _ (jg _ _ _ _ (XP.out _) (by omega)))
         | (go_at_call 20;exact Calls.fut_same_eq _ (aE _ _ _ _) (congrArg Value.bool (by first|exact ds|exact dl)))))
        refine wpQuiet_nil ?_
        rintro _ ⟨⟨w2,eK⟩,rfl⟩
        go_wp2
        go_ret
        exact ⟨aj HN.out.symm,(hg.out.trans cD.out).trans eK⟩
      ·have ds:decide (0≤m.stack/\m.stack≤30)=false:=decide_eq_false hs
       have dl:=hh
       have HN:Hid (bV f=false):=kv.out (qP (by omega))
       go_wp2
       refine bg (by kernel_rfl) (by kernel_rfl) fun hne=>?_
       repeat (go_big_quiet_step (first
        | (go_at_call 21;exact Calls.fut_eq _ (j8 _ _ _ _ _ _ m _ _ _ _ _ _ _ _ (XP.out _) (XK.out _) eT hcl) (congrArg Value.bool hh))
        | (go_at_call 22;exact Calls.fut_same _ (jg _ _ _ _ (XP.out _) (by omega)))
        | (go_at_call 20;exact Calls.fut_same_eq _ (aE _ _ _ _) (congrArg Value.bool (by first|exact ds|exact dl)))))
       refine wpQuiet_nil ?_
       rintro _ ⟨⟨w2,eK⟩,rfl⟩
       go_wp2
       go_ret
       exact ⟨aj HN.out.symm,(hg.out.trans cD.out).trans eK⟩
     ·have S6:(m.regs !=0)=true:=by simpa using hr
      have ds:=hh
      have dl:=hh
      have HN:Hid (bV f=false):=kv.out (qP (by omega))
      go_wp2
      refine bg (by kernel_rfl) (by kernel_rfl) fun hne=>?_
      repeat (go_big_quiet_step (first
       | (go_at_call 21;exact Calls.fut_eq _ (j8 _ _ _ _ _ _ m _ _ _ _ _ _ _ _ (XP.out _) (XK.out _) eT hcl) (congrArg Value.bool hh))
       | (go_at_call 22;exact Calls.fut_same _ (jg _ _ _ _ (XP.out _) (by omega)))
       | (go_at_call 20;exact Calls.fut_same_eq _ (aE _ _ _ _) (congrArg Value.bool (by first|exact ds|exact dl)))))
      refine wpQuiet_nil ?_
      rintro _ ⟨⟨w2,eK⟩,rfl⟩
      go_wp2
      go_ret
      exact ⟨aj HN.out.symm,(hg.out.trans cD.out).trans eK⟩
   ·obtain rfl:k=f.methods.length:=by omega
    have HN:Hid (bV f=true):=HG.out PE.out
    go_wp2
    go_ret
    exact ⟨aj HN.out.symm,hg.out⟩
 ·have hb:=sK (f:=f) (by omega)
  rw [hb]
  have dn:decide (1≤(f.methods.length:Int)/\(f.methods.length:Int)≤8)=false:=decide_eq_false hn
  go_enter Tryz.func8,Tryz.ntmps8
  go_wp2_with (first
   | (go_at_call 19;refine (pM _ _ _ _ (HA.out.bl HW.out)).mono ?_;rintro e w1 ⟨he,g1⟩;rw [hm] at he;subst he;have q1:=(HF.out.bl g1).2;simp only [Nat.zero_add] at q1)
   | (go_at_call 20;refine (aE _ _ _ _).mono ?_;rintro e w2 ⟨he,rfl⟩;rw [dn] at he;subst he))
  go_ret
  exact ⟨rfl,HW.out.trans g1⟩
theorem g4.new (w:World) (nc nm:Nat) (A B:Option Addr) (x y:Nat):g4 (w.alloc (yU nc nm A B x y)) w.heap.size 0 nc nm A B x y:=⟨ak rfl,ak rfl⟩
structure kK (w:World) (b:Nat) (nc nm:Nat) (A B:Option Addr) (x y:Nat) (m:Me) (P C K:Option Addr) (p c k:Nat) (i:In) (Q:Option Addr) (q:Nat):Prop where
 f0:w.cell? ⟨b,0,none⟩=some (.slice A nc x)
 f1:w.cell? ⟨b,1,none⟩=some (.slice B nm y)
 m:eA w (b+1) m P C K p c k
 i0:w.cell? ⟨b+1+1,0,none⟩=some (int i64 i.op)
 i1:w.cell? ⟨b+1+1,1,none⟩=some (int i64 i.a)
 i2:w.cell? ⟨b+1+1,2,none⟩=some (int i64 i.b)
 i3:w.cell? ⟨b+1+1,3,none⟩=some (int i64 i.c)
 i4:w.cell? ⟨b+1+1,4,none⟩=some (int i64 i.n)
 i5:w.cell? ⟨b+1+1,5,none⟩=some (.slice Q i.args.length q)
theorem kK.bl {w w':World} (h:Bl w w') {b nm:Nat} {A B:Option Addr} {x y:Nat} {P C K:Option Addr} {p c k:Nat} {i:In} {Q:Option Addr} (hb:kK w b nc nm A B x y m P C K p c k i Q q):kK w' b nc nm A B x y m P C K p c k i Q q :=
 ⟨h.cell hb.f0,h.cell hb.f1,hb.m.bl h,h.cell hb.i0,h.cell hb.i1,h.cell hb.i2,h.cell hb.i3,h.cell hb.i4,h.cell hb.i5⟩
abbrev W3 (w:World) (nc nm:Nat) (A B:Option Addr) (x y:Nat) (m:Me) (P C K:Option Addr) (p c k:Nat) (i:In) (Q:Option Addr) (q:Nat):World :=
 ((w.alloc (yU nc nm A B x y)).alloc (nZ m P C K p c k)).alloc (S2 i Q q)
theorem kK.new (w:World) (nc nm:Nat) (A B:Option Addr) (x y:Nat) (m:Me) (P C K:Option Addr) (p c k:Nat) (i:In) (Q:Option Addr) (q:Nat) :
  kK (W3 w nc nm A B x y m P C K p c k i Q q) w.heap.size nc nm A B x y m P C K p c k i Q q:=by
 have h1:(w.alloc (yU nc nm A B x y)).heap.size=w.heap.size+1:=World.size_alloc ..
 have h2:((w.alloc (yU nc nm A B x y)).alloc (nZ m P C K p c k)).heap.size=w.heap.size+1+1:=by rw [World.size_alloc,World.size_alloc]
 have b2:Bl (w.alloc (yU nc nm A B x y)) (W3 w nc nm A B x y m P C K p c k i Q q):=((Bl.refl _).alloc _).alloc _
 have b3:Bl ((w.alloc (yU nc nm A B x y)).alloc (nZ m P C K p c k)) (W3 w nc nm A B x y m P C K p c k i Q q):=(Bl.refl _).alloc _
 have hm:=(eA.new (w.alloc (yU nc nm A B x y)) m P C K p c k).bl b3
 rw [h1] at hm
 refine ⟨b2.cell (ak rfl),b2.cell (ak rfl),hm,?_,?_,?_,?_,?_,?_⟩<;>rw [<-h2]<;>exact ak rfl
theorem qQ (i:In) (cs:List Cl) (nm:Nat) (A B:Option Addr) (x y:Nat) (m:Me) (P C K:Option Addr) (p c k:Nat) (Q:Option Addr) (q:Nat) (w:World) (hlo:0≤m.locs) (dQ:m.locs≤60) (hl:cg w A cs) (eZ:nm≤maxLen) (aW:m.code.length≤maxLen) (hargs:i.args.length≤maxLen) :
  Calls Tryz.prog 85 #[fV cs.length nm A B x y,iU m P C K p c k,inV i Q q] w fun e w'=>e=.returned (.bool (bD cs nm m.code.length m.locs i))/\Bl w w':=by
 have HL:Hid (cg w A cs):=hl
 have eT:=hl.1
 have cD:Hid (Bl w (W3 w cs.length nm A B x y m P C K p c k i Q q)):=(((Bl.refl _).alloc _).alloc _).alloc _
 have jO:Hid (kK (W3 w cs.length nm A B x y m P C K p c k i Q q) w.heap.size cs.length nm A B x y m P C K p c k i Q q):=kK.new ..
 clear hl
 unfold maxLen at hargs
 rw [yT]
 by_cases h1:1≤i.op/\i.op≤25
 ·have d1:decide (1≤i.op/\i.op≤25)=true:=decide_eq_true h1
  rw [d1,Bool.true_and]
  cases ha:aB cs.length nm m.code.length m.locs i
  ·rw [Bool.false_and]
   go_enter Tryz.func85,Tryz.ntmps85
   go_wp2_with (first
    | (go_at_call 36;refine (bh _ _ _ _).mono ?_;rintro e w0 ⟨he,mh⟩;rw [d1] at he;subst he;rw [mh];clear mh w0)
    | (go_at_call 149;refine (lJ i _ _ _ _ _ _ m _ _ _ _ _ _ _ _ _ hlo dQ eT eZ aW).mono ?_;rintro e w1 ⟨he,g1⟩;rw [ha] at he;subst he))
   go_ret
   exact ⟨rfl,cD.out.trans g1⟩
  ·rw [Bool.true_and]
   cases hb:bB cs i
   ·rw [Bool.false_and]
    go_enter Tryz.func85,Tryz.ntmps85
    go_wp2_with (first
     | (go_at_call 36;refine (bh _ _ _ _).mono ?_;rintro e w0 ⟨he,mh⟩;rw [d1] at he;subst he;rw [mh];clear mh w0)
     | (go_at_call 149;refine (lJ i _ _ _ _ _ _ m _ _ _ _ _ _ _ _ _ hlo dQ eT eZ aW).mono ?_;rintro e w1 ⟨he,g1⟩;rw [ha] at he;subst he;obtain ⟨e0,e1,-,a0,a1,a2,a3,a4,a5⟩:=jO.out.bl g1)
     | (go_at_call 150;refine (nR i _ _ _ _ _ _ _ _ _ (HL.out.bl (cD.out.trans g1))).mono ?_;rintro e w2 ⟨he,g2⟩;rw [hb] at he;subst he))
    go_ret
    exact ⟨rfl,(cD.out.trans g1).trans g2⟩
   ·rw [Bool.true_and]
    by_cases hc:i.c=0
    ·have dc:(i.c==0)=true:=by simpa using hc
     have HC:Hid (i.c=0):=hc
     rw [decide_eq_true hc,Bool.true_and]
     clear hc
     cases hn:nB i
     ·rw [Bool.false_and]
      go_enter Tryz.func85,Tryz.ntmps85
      go_wp2_with (first
       | (go_at_call 36;refine (bh _ _ _ _).mono ?_;rintro e w0 ⟨he,mh⟩;rw [d1] at he;subst he;rw [mh];clear mh w0)
       | (go_at_call 149;refine (lJ i _ _ _ _ _ _ m _ _ _ _ _ _ _ _ _ hlo dQ eT eZ aW).mono ?_;rintro e w1 ⟨he,g1⟩;rw [ha] at he;subst he;obtain ⟨e0,e1,-,a0,a1,a2,a3,a4,a5⟩:=jO.out.bl g1)
       | (go_at_call 150;refine (nR i _ _ _ _ _ _ _ _ _ (HL.out.bl (cD.out.trans g1))).mono ?_;rintro e w2 ⟨he,g2⟩;rw [hb] at he;subst he;obtain ⟨-,-,-,b0,b1,b2,b3,b4,b5⟩:=jO.out.bl (g1.trans g2))
       | (go_at_call 151;refine (wZ i _ _ _).mono ?_;rintro e w3 ⟨he,g3⟩;rw [hn] at he;subst he))
      go_ret
      exact ⟨rfl,((cD.out.trans g1).trans g2).trans g3⟩
     ·rw [Bool.true_and]
      have hfin:decide (i.args.length=0)=((i.args.length:Int)==0):=by rw [Bool.eq_iff_iff];simp
      rw [hfin]
      clear hfin
      go_enter Tryz.func85,Tryz.ntmps85
      go_wp2_with (first
       | (go_at_call 36;refine (bh _ _ _ _).mono ?_;rintro e w0 ⟨he,mh⟩;rw [d1] at he;subst he;rw [mh];clear mh w0)
       | (go_at_call 149;refine (lJ i _ _ _ _ _ _ m _ _ _ _ _ _ _ _ _ hlo dQ eT eZ aW).mono ?_;rintro e w1 ⟨he,g1⟩;rw [ha] at he;subst he;obtain ⟨e0,e1,-,a0,a1,a2,a3,a4,a5⟩:=jO.out.bl g1)
       | (go_at_call 150;refine (nR i _ _ _ _ _ _ _ _ _ (HL.out.bl (cD.out.trans g1))).mono ?_;rintro e w2 ⟨he,g2⟩;rw [hb] at he;subst he;obtain ⟨-,-,-,b0,b1,b2,b3,b4,b5⟩:=jO.out.bl (g1.trans g2))
       | (go_at_call 151;refine (wZ i _ _ _).mono ?_;rintro e w3 ⟨he,g3⟩;rw [hn] at he;subst he;obtain ⟨-,-,-,-,-,-,-,-,c5⟩:=jO.out.bl ((g1.trans g2).trans g3)))
      all_goals
       go_ret
       exact ⟨aj (by simp [*]),((cD.out.trans g1).trans g2).trans g3⟩
    ·have dc:(i.c==0)=false:=by simpa using hc
     rw [decide_eq_false hc,Bool.false_and]
     clear hc
     go_enter Tryz.func85,Tryz.ntmps85
     go_wp2_with (first
      | (go_at_call 36;refine (bh _ _ _ _).mono ?_;rintro e w0 ⟨he,mh⟩;rw [d1] at he;subst he;rw [mh];clear mh w0)
      | (go_at_call 149;refine (lJ i _ _ _ _ _ _ m _ _ _ _ _ _ _ _ _ hlo dQ eT eZ aW).mono ?_;rintro e w1 ⟨he,g1⟩;rw [ha] at he;subst he;obtain ⟨e0,e1,-,a0,a1,a2,a3,a4,a5⟩:=jO.out.bl g1)
      | (go_at_call 150;refine (nR i _ _ _ _ _ _ _ _ _ (HL.out.bl (cD.out.trans g1))).mono ?_;rintro e w2 ⟨he,g2⟩;rw [hb] at he;subst he;obtain ⟨-,-,-,b0,b1,b2,b3,b4,b5⟩:=jO.out.bl (g1.trans g2)))
     go_ret
     exact ⟨rfl,(cD.out.trans g1).trans g2⟩
 ·have d1:decide (1≤i.op/\i.op≤25)=false:=decide_eq_false h1
  rw [d1,Bool.false_and]
  go_enter Tryz.func85,Tryz.ntmps85
  go_wp2_with (go_at_call 36;refine (bh _ _ _ _).mono ?_;rintro e w0 ⟨he,mh⟩;rw [d1] at he;subst he;rw [mh];clear mh w0)
  go_ret
  exact ⟨rfl,cD.out⟩
theorem xd {l:List Ty} (h:l.all (fO nc)=true):∀k,k<l.length->(nth cL l k).kind≠0:=by
 intro k hk
 have:=(List.all_eq_true.1 h) _ (bE (d:=cL) hk)
 unfold fO at this
 rw [decide_eq_true_eq] at this
 omega
theorem lK (m:Me) (P C K:Option Addr) (p c k:Nat) (w:World) (hP:dm w P m.params) (h4:m.params.length≤4) (hk:∀k,k<m.params.length->(nth cL m.params k).kind≠0) :
  Calls Tryz.prog 38 #[iU m P C K p c k] w fun e w'=>e=.returned (.bool (sJ m))/\Bl w w':=by
 have hal:Bl w (w.alloc (nZ m P C K p c k)):=(Bl.refl _).alloc _
 have XP:Hid (∀x:pk (w.alloc (nZ m P C K p c k)),dm x.to P m.params):=fun x=>hP.bl (hal.trans x.is)
 have HK:Hid (∀k,k<m.params.length->(nth cL m.params k).kind≠0):=hk
 obtain ⟨x0,x1,x2,x3,x4,x5,x6,x7⟩:=eA.new w m P C K p c k
 have y0:=aU x0
 have y3:=aU x3
 have y4:=aU x4
 have y5:=aU x5
 clear x0 x1 x2 x3 x4 x5 x6 x7 hP hk
 unfold sJ
 by_cases hr:m.regs=0
 ·have S6:(m.regs==0)=true:=by simpa using hr
  rw [decide_eq_true hr,Bool.true_and]
  clear hr
  by_cases hs:0≤m.stack/\m.stack≤30
  ·have ds:decide (0≤m.stack/\m.stack≤30)=true:=decide_eq_true hs
   rw [ds,Bool.true_and]
   obtain ⟨R,hR⟩:∃R,decide ((bX m.params:Int)≤m.locs/\m.locs≤60)=R:=⟨_,rfl⟩
   rw [hR]
   go_enter Tryz.func38,Tryz.ntmps38
   go_wp2
   refine bg (by kernel_rfl) (by kernel_rfl) fun hne=>?_
   repeat (go_big_quiet_step (first
    | (go_at_call 84;exact Calls.fut _ (oz _ _ _ _ (XP.out _) (by omega) HK.out))
    | (go_at_call 36;exact Calls.fut_same_eq _ (bh _ _ _ _) (congrArg Value.bool (by first|exact ds|exact hR)))))
   refine wpQuiet_nil ?_
   rintro _ ⟨⟨w2,eK⟩,rfl⟩
   go_wp2
   go_ret
   exact ⟨rfl,hal.trans eK⟩
  ·have ds:decide (0≤m.stack/\m.stack≤30)=false:=decide_eq_false hs
   rw [ds,Bool.false_and]
   go_enter Tryz.func38,Tryz.ntmps38
   go_wp2
   refine bg (by kernel_rfl) (by kernel_rfl) fun hne=>?_
   repeat (go_big_quiet_step (first
    | (go_at_call 84;exact Calls.fut _ (oz _ _ _ _ (XP.out _) (by omega) HK.out))
    | (go_at_call 36;exact Calls.fut_same_eq _ (bh _ _ _ _) (congrArg Value.bool ds))))
   refine wpQuiet_nil ?_
   rintro _ ⟨⟨w2,eK⟩,rfl⟩
   go_wp2
   go_ret
   exact ⟨rfl,hal.trans eK⟩
 ·have S6:(m.regs==0)=false:=by simpa using hr
  rw [decide_eq_false hr,Bool.false_and]
  go_enter Tryz.func38,Tryz.ntmps38
  go_wp2
  refine bg (by kernel_rfl) (by kernel_rfl) fun hne=>?_
  repeat (go_big_quiet_step (first
   | (go_at_call 84;exact Calls.fut _ (oz _ _ _ _ (XP.out _) (by omega) HK.out))
   | (go_at_call 36;exact Calls.fut_same _ (bh _ _ _ _))))
  refine wpQuiet_nil ?_
  rintro _ ⟨⟨w2,eK⟩,rfl⟩
  go_wp2
  go_ret
  exact ⟨rfl,hal.trans eK⟩
structure gY (w:World) (b:Nat) (nc nm:Nat) (A B:Option Addr) (x y:Nat) (m:Me) (P C K:Option Addr) (p c k:Nat):Prop where
 f0:w.cell? ⟨b,0,none⟩=some (.slice A nc x)
 f1:w.cell? ⟨b,1,none⟩=some (.slice B nm y)
 m:eA w (b+1) m P C K p c k
theorem gY.bl {w w':World} (h:Bl w w') {b nm:Nat} {A B:Option Addr} {x y:Nat} {P C K:Option Addr} {p c k:Nat} (hb:gY w b nc nm A B x y m P C K p c k):gY w' b nc nm A B x y m P C K p c k:=⟨h.cell hb.f0,h.cell hb.f1,hb.m.bl h⟩
theorem gY.new (w:World) (nc nm:Nat) (A B:Option Addr) (x y:Nat) (m:Me) (P C K:Option Addr) (p c k:Nat) :
  gY ((w.alloc (yU nc nm A B x y)).alloc (nZ m P C K p c k)) w.heap.size nc nm A B x y m P C K p c k:=by
 have b2:Bl (w.alloc (yU nc nm A B x y)) ((w.alloc (yU nc nm A B x y)).alloc (nZ m P C K p c k)):=(Bl.refl _).alloc _
 have hm:=eA.new (w.alloc (yU nc nm A B x y)) m P C K p c k
 rw [World.size_alloc] at hm
 exact ⟨b2.cell (ak rfl),b2.cell (ak rfl),hm⟩
theorem o7 (cs:List Cl) (nm:Nat) (A B:Option Addr) (x y:Nat) (m:Me) (P C K:Option Addr) (p c k:Nat) (w:World) (hlo:0≤m.locs) (dQ:m.locs≤60) (hl:cg w A cs) (eZ:nm≤maxLen) (hC:oI w C m.code) :
  Calls Tryz.prog 39 #[fV cs.length nm A B x y,iU m P C K p c k] w fun e w'=>e=.returned (.bool (wY cs nm m))/\Bl w w':=by
 have HL:Hid (cg w A cs):=hl
 have HC:Hid (oI w C m.code):=hC
 have aW:=hC.1
 have LC:Hid (m.code.length≤maxLen):=aW
 have Vb:Hid (nm≤maxLen):=eZ
 have cD:Hid (Bl w ((w.alloc (yU cs.length nm A B x y)).alloc (nZ m P C K p c k))):=((Bl.refl _).alloc _).alloc _
 have jO:Hid (gY ((w.alloc (yU cs.length nm A B x y)).alloc (nZ m P C K p c k)) w.heap.size cs.length nm A B x y m P C K p c k):=gY.new ..
 clear hl hC eZ
 unfold maxLen at aW
 unfold wY
 by_cases h1:1≤(m.code.length:Int)/\(m.code.length:Int)≤400
 ·have d1:decide (1≤(m.code.length:Int)/\(m.code.length:Int)≤400)=true:=decide_eq_true h1
  rw [d1,Bool.true_and]
  have HG:Hid ((∀q,q<m.code.length->bD cs nm m.code.length m.locs (nth fX m.code q)=true)->m.code.all (bD cs nm m.code.length m.locs)=true):=jT
  have HB:Hid (∀q,q<m.code.length->bD cs nm m.code.length m.locs (nth fX m.code q)=false->m.code.all (bD cs nm m.code.length m.locs)=false):=fun q=>lQ
  obtain ⟨R,hR⟩:∃R,m.code.all (bD cs nm m.code.length m.locs)=R:=⟨_,rfl⟩
  rw [hR] at HG HB ⊢
  clear hR
  go_enter Tryz.func39,Tryz.ntmps39
  go_wp2_with (go_at_call 36;refine (bh _ _ _ _).mono ?_;rintro e w0 ⟨he,mh⟩;rw [d1] at he;subst he;rw [mh];clear mh w0)
  go_loopw [15] (fun i wr=>∃q:Nat,q≤m.code.length/\i=int i64 q/\Hid (∀j,j<q->bD cs nm m.code.length m.locs (nth fX m.code j)=true)/\Hid (Bl w wr)/\Hid (gY wr w.heap.size cs.length nm A B x y m P C K p c k)) (fun i _=>m.code.length-(intOf i).toNat)
  case atStart=>exact ⟨0,Nat.zero_le _,rfl,fun j hj=>absurd hj (Nat.not_lt_zero _),cD.out,jO.out⟩
  case round =>
   clear jO cD
   obtain ⟨q,hq,rfl,mE,hg,jO⟩:=hrel
   by_cases eQ:q<m.code.length
   ·rcases HC.out.2 with h0|⟨b,off,rfl,hcell⟩
    ·omega
    obtain ⟨c0,c1,c2,c3,c4,-,Q',q',c5,Vc⟩:=hcell q eQ
    replace c0:=hg.out.cell c0
    replace c1:=hg.out.cell c1
    replace c2:=hg.out.cell c2
    replace c3:=hg.out.cell c3
    replace c4:=hg.out.cell c4
    replace c5:=hg.out.cell c5
    have HA:Hid ((nth fX m.code q).args.length≤maxLen):=Vc.1
    have HN:Hid (bD cs nm m.code.length m.locs (nth fX m.code q)=false->R=false):=HB.out q eQ
    generalize hX:nth fX m.code q=X at *
    have HX:Hid (nth fX m.code q=X):=hX
    clear hcell HB hX Vc
    have qb:∀o,gY (wr.alloc o) w.heap.size cs.length nm A _ x y m P _ K p c k:=fun o=>jO.out.bl ((Bl.refl wr).alloc o)
    have TV:=fun o=>(qb o).f0
    have Ze:=fun o=>(qb o).f1
    have Zf:=fun o=>(qb o).m.1
    have Zg:=fun o=>(qb o).m.2.1
    have Zh:=fun o=>(qb o).m.2.2.1
    have Zi:=fun o=>(qb o).m.2.2.2.1
    have Zj:=fun o=>(qb o).m.2.2.2.2.1
    have Zk:=fun o=>(qb o).m.2.2.2.2.2.1
    have VO:=fun o=>(qb o).m.2.2.2.2.2.2.1
    have Zl:=fun o=>(qb o).m.2.2.2.2.2.2.2
    have XU:Hid (∀o,gY (wr.alloc o) w.heap.size cs.length nm A _ x y m P _ K p c k):=qb
    clear qb
    cases hT:bD cs nm m.code.length m.locs X
    ·have HF:=HN.out hT
     clear HN HG
     go_wp2_with (go_at_call 85;refine (qQ X cs _ _ _ _ _ m _ _ _ _ _ _ _ _ _ hlo dQ (HL.out.bl (hg.out.alloc _)) Vb.out LC.out HA.out).mono ?_;rintro e w1 ⟨he,iH⟩;rw [hT] at he;subst he)
     go_ret
     exact ⟨aj HF.symm,(hg.out.alloc _).trans iH⟩
    ·have vi:Hid (bD cs nm m.code.length m.locs X=true):=hT
     clear HN HG
     go_wp2_with (go_at_call 85;refine (qQ X cs _ _ _ _ _ m _ _ _ _ _ _ _ _ _ hlo dQ (HL.out.bl (hg.out.alloc _)) Vb.out LC.out HA.out).mono ?_;rintro e w1 ⟨he,iH⟩;rw [hT] at he;subst he)
     go_roundw
     case rel=>exact ⟨q+1,by omega,by go_num,fun j hj=>if h:j<q then mE.out j h else by have:j=q:=(by omega);subst this;rw [HX.out];exact vi.out,(hg.out.alloc _).trans iH,(XU.out _).bl iH⟩
     case measure=>simp [intOf];omega
   ·have hkk:q=m.code.length:=by omega
    subst hkk
    have HF:=HG.out mE.out
    clear HG
    go_wp2
    go_ret
    exact ⟨aj HF.symm,hg.out⟩
 ·have d1:decide (1≤(m.code.length:Int)/\(m.code.length:Int)≤400)=false:=decide_eq_false h1
  rw [d1,Bool.false_and]
  go_enter Tryz.func39,Tryz.ntmps39
  go_wp2_with (go_at_call 36;refine (bh _ _ _ _).mono ?_;rintro e w0 ⟨he,mh⟩;rw [d1] at he;subst he;rw [mh];clear mh w0)
  go_ret
  exact ⟨rfl,cD.out⟩
theorem FR (f:Fi) (A B:Option Addr) (a b:Nat) (w:World) (hA:cg w A f.classes) (hB:eD w B f.methods) :
  Calls Tryz.prog 16 #[fV f.classes.length f.methods.length A B a b] w fun e w'=>e=.returned (.bool (bV f))/\Bl w w':=by
 have HA:Hid (cg w A f.classes):=hA
 have HB:Hid (eD w B f.methods):=hB
 have sD:Hid (f.methods.length≤maxLen):=hB.1
 have Li:=hA.1
 have jy:=hB.1
 unfold maxLen at Li jy
 clear hA hB
 have HF:Hid (g4 (w.alloc (yU f.classes.length f.methods.length A B a b)) w.heap.size 0 f.classes.length f.methods.length A B a b):=g4.new ..
 have HW:Hid (Bl w (w.alloc (yU f.classes.length f.methods.length A B a b))):=(Bl.refl w).alloc _
 cases hm:eG f.classes
 ·have hb:=w8 hm
  rw [hb]
  go_enter Tryz.func16,Tryz.ntmps16
  go_wp2_with (go_at_call 35;refine (lU _ _ _ _ (HA.out.bl HW.out)).mono ?_;rintro e w1 ⟨he,g1⟩;rw [hm] at he;subst he)
  go_ret
  exact ⟨rfl,HW.out.trans g1⟩
 by_cases hn:1≤(f.methods.length:Int)/\(f.methods.length:Int)≤8
 ·have dn:decide (1≤(f.methods.length:Int)/\(f.methods.length:Int)≤8)=true:=decide_eq_true hn
  have HG:Hid ((∀q,q<f.methods.length->eX f.classes f.methods.length (nth bM f.methods q)=true)->bV f=true):=sL hm (by omega)
  go_enter Tryz.func16,Tryz.ntmps16
  go_wp2_with (first
   | (go_at_call 35;refine (lU _ _ _ _ (HA.out.bl HW.out)).mono ?_;rintro e w1 ⟨he,g1⟩;rw [hm] at he;subst he;have q1:=(HF.out.bl g1).2;simp only [Nat.zero_add] at q1)
   | (go_at_call 36;refine (bh _ _ _ _).mono ?_;rintro e w2 ⟨he,eK⟩;rw [dn] at he;subst he;rw [eK];clear eK w2))
  go_loopw [19] (fun i wr=>∃k:Nat,k≤f.methods.length/\i=int i64 k/\Hid (∀j,j<k->eX f.classes f.methods.length (nth bM f.methods j)=true)/\Hid (Bl w wr)/\Hid (g4 wr w.heap.size 0 f.classes.length f.methods.length A B a b)) (fun i _=>f.methods.length-(intOf i).toNat)
  case atStart=>exact ⟨0,Nat.zero_le _,rfl,fun j hj=>absurd hj (Nat.not_lt_zero _),HW.out.trans g1,HF.out.bl g1⟩
  case round =>
   clear HF HW q1 g1 hm
   obtain ⟨k,hk,rfl,PE,hg,HF⟩:=hrel
   by_cases Co:k<f.methods.length
   ·have FQ:=HB.out.bl hg.out
    rcases FQ.2 with h0|⟨b',gp,rfl,hcell⟩
    ·omega
    obtain ⟨P,C,K,p,c,kk,c0,c1,c2,c3,c4,c5,c6,c7,hme⟩:=hcell k Co
    have kv:Hid (eX f.classes f.methods.length (nth bM f.methods k)=false->bV f=false):=Ap Co
    generalize hM:nth bM f.methods k=m at *
    have HM:Hid (nth bM f.methods k=m):=hM
    have vE:Hid (kX wr m P C K):=hme
    have HP:=CB f.classes f.methods.length m
    have TV:∀o,(wr.alloc o).cell? ⟨w.heap.size,0,none⟩=some (.slice A f.classes.length a):=fun o=>((Bl.refl wr).alloc o).cell HF.out.1
    have cD:Hid (Bl wr (wr.alloc (nZ m P C K p c kk))):=(Bl.refl wr).alloc _
    have PF:Hid (eA (wr.alloc (nZ m P C K p c kk)) wr.heap.size m P C K p c kk):=eA.new ..
    have S8:Hid (g4 (wr.alloc (nZ m P C K p c kk)) w.heap.size 0 f.classes.length f.methods.length A _ a b):=HF.out.bl cD.out
    clear FQ hcell hM hme
    cases hh:Cz f.classes.length m
    ·have HN:Hid (bV f=false):=kv.out (by rw [HP,hh];rfl)
     clear HP kv
     go_wp2_with (go_at_call 37;refine (jP m _ _ _ _ _ _ _ _ (vE.out.bl cD.out)).mono ?_;rintro e w1 ⟨he,g1⟩;rw [hh] at he;subst he)
     go_ret
     exact ⟨aj HN.out.symm,(hg.out.trans cD.out).trans g1⟩
    ·have yV:m.params.length≤4/\m.params.all (fO f.classes.length)=true:=by
      unfold Cz at hh;simp only [Bool.and_eq_true,decide_eq_true_eq] at hh;exact ⟨hh.1,hh.2.1⟩
     have S9:Hid (∀k,k<m.params.length->(nth cL m.params k).kind≠0):=xd yV.2
     have h4:=yV.1
     clear yV
     cases hr:sJ m
     ·have HN:Hid (bV f=false):=kv.out (by rw [HP,hh,hr];rfl)
      clear HP kv
      go_wp2_with (first
       | (go_at_call 37;refine (jP m _ _ _ _ _ _ _ _ (vE.out.bl cD.out)).mono ?_;rintro e w1 ⟨he,g1⟩;rw [hh] at he;subst he;obtain ⟨e0,e1,e2,e3,e4,e5,e6,e7⟩:=PF.out.bl g1)
       | (go_at_call 38;refine (lK m _ _ _ _ _ _ _ (vE.out.1.bl (cD.out.trans g1)) h4 S9.out).mono ?_;rintro e w2 ⟨he,g2⟩;rw [hr] at he;subst he))
      go_ret
      exact ⟨aj HN.out.symm,((hg.out.trans cD.out).trans g1).trans g2⟩
     ·have PG:0≤m.locs/\m.locs≤60:=by
       unfold sJ at hr;simp only [Bool.and_eq_true,decide_eq_true_eq] at hr;omega
      obtain ⟨hlo,dQ⟩:=PG
      cases hc:wY f.classes f.methods.length m
      ·have HN:Hid (bV f=false):=kv.out (by rw [HP,hh,hr,hc];rfl)
       clear HP kv
       go_wp2_with (first
        | (go_at_call 37;refine (jP m _ _ _ _ _ _ _ _ (vE.out.bl cD.out)).mono ?_;rintro e w1 ⟨he,g1⟩;rw [hh] at he;subst he;obtain ⟨e0,e1,e2,e3,e4,e5,e6,e7⟩:=PF.out.bl g1)
        | (go_at_call 38;refine (lK m _ _ _ _ _ _ _ (vE.out.1.bl (cD.out.trans g1)) h4 S9.out).mono ?_;rintro e w2 ⟨he,g2⟩;rw [hr] at he;subst he;obtain ⟨t0,t1,t2,t3,t4,t5,t6,t7⟩:=PF.out.bl (g1.trans g2);obtain ⟨v0,v1⟩:=S8.out.bl (g1.trans g2);simp only [Nat.zero_add] at v1)
        | (go_at_call 39;refine (o7 _ _ _ _ _ _ m _ _ _ _ _ _ _ hlo dQ (HA.out.bl (((hg.out.trans cD.out).trans g1).trans g2)) sD.out (vE.out.2.1.bl ((cD.out.trans g1).trans g2))).mono ?_;rintro e w3 ⟨he,g3⟩;rw [hc] at he;subst he))
       go_ret
       exact ⟨aj HN.out.symm,(((hg.out.trans cD.out).trans g1).trans g2).trans g3⟩
      ·have HT:Hid (eX f.classes f.methods.length m=true):=by rw [HP,hh,hr,hc];rfl
       clear HP kv
       go_wp2_with (first
        | (go_at_call 37;refine (jP m _ _ _ _ _ _ _ _ (vE.out.bl cD.out)).mono ?_;rintro e w1 ⟨he,g1⟩;rw [hh] at he;subst he;obtain ⟨e0,e1,e2,e3,e4,e5,e6,e7⟩:=PF.out.bl g1)
        | (go_at_call 38;refine (lK m _ _ _ _ _ _ _ (vE.out.1.bl (cD.out.trans g1)) h4 S9.out).mono ?_;rintro e w2 ⟨he,g2⟩;rw [hr] at he;subst he;obtain ⟨t0,t1,t2,t3,t4,t5,t6,t7⟩:=PF.out.bl (g1.trans g2);obtain ⟨v0,v1⟩:=S8.out.bl (g1.trans g2);simp only [Nat.zero_add] at v1)
        | (go_at_call 39;refine (o7 _ _ _ _ _ _ m _ _ _ _ _ _ _ hlo dQ (HA.out.bl (((hg.out.trans cD.out).trans g1).trans g2)) sD.out (vE.out.2.1.bl ((cD.out.trans g1).trans g2))).mono ?_;rintro e w3 ⟨he,g3⟩;rw [hc] at he;subst he))
       go_roundw
       case rel=>exact ⟨k+1,by omega,by go_num,fun j hj=>if h:j<k then PE.out j h else by have:j=k:=(by omega);subst this;rw [HM.out];exact HT.out,(((hg.out.trans cD.out).trans g1).trans g2).trans g3,S8.out.bl ((g1.trans g2).trans g3)⟩
       case measure=>simp [intOf];omega
   ·obtain rfl:k=f.methods.length:=by omega
    have HN:Hid (bV f=true):=HG.out PE.out
    go_wp2
    go_ret
    exact ⟨aj HN.out.symm,hg.out⟩
 ·have hb:=sK (f:=f) (by omega)
  rw [hb]
  have dn:decide (1≤(f.methods.length:Int)/\(f.methods.length:Int)≤8)=false:=decide_eq_false hn
  go_enter Tryz.func16,Tryz.ntmps16
  go_wp2_with (first
   | (go_at_call 35;refine (lU _ _ _ _ (HA.out.bl HW.out)).mono ?_;rintro e w1 ⟨he,g1⟩;rw [hm] at he;subst he;have q1:=(HF.out.bl g1).2;simp only [Nat.zero_add] at q1)
   | (go_at_call 36;refine (bh _ _ _ _).mono ?_;rintro e w2 ⟨he,eK⟩;rw [dn] at he;subst he;rw [eK];clear eK w2))
  go_ret
  exact ⟨rfl,HW.out.trans g1⟩
section
open Go.ChangeShapes Go.WideShapes Go.ChangeAt Go.RowKit Go.Deep
theorem Aq:Tryz.prog.cellsOf 45=2:=by kernel_rfl
theorem J1:Tryz.prog.cellsOf 103=2:=by kernel_rfl
theorem FT:Tryz.prog.cellsOf 43=1:=by kernel_rfl
theorem dI:Tryz.prog.cellsOf 3=1:=by kernel_rfl
theorem take_one {v:Value} (h:(cs.drop o).take 1=[v]):cs[o]?=some v:=by
 have h1:((cs.drop o).take 1)[0]?=some v:=by rw [h];rfl
 simpa [List.getElem?_take,List.getElem?_drop] using h1
section
variable {H:Type} {enc:TypeId×Value->H} {w:World} {base:Nat} {spare:Nat->Bool} {held:Bool}
theorem eN {t:TypeId} {P:Program} {y:Option (DataW H×List MemPlace)} (ht:P.underlying t=some (.int .i64)) (hc:P.cellsOf t=1) (hy:y≠none) (h:DataW.trod enc P w base spare held fuel t ((cs.drop o).take (P.cellsOf t))=y):∃n,cs[o]?=some (.int .i64 n)/\cP n:=by
 obtain ⟨x,rfl⟩:=Option.ne_none_iff_exists'.1 hy
 obtain ⟨n,hn,-,hw⟩:=DataW.trod_int ht h
 rw [hc] at hn
 exact ⟨n,take_one hn,bounds_i64 hw⟩
theorem jq {E:Type} (d:E) {R:E->List Value->Prop} {P:Program} {t e:TypeId} {s:Nat} {x:DataW H×List MemPlace} (ht:P.underlying t=some (.slice e)) (hs:P.cellsOf e=s) (h0:0<s) (he:∀(fuel:Nat) (cs:List Value) (x:DataW H×List MemPlace),DataW.trod enc P w base spare held fuel e cs=some x->∃z:E,R z cs) (h:DataW.trod enc P w base spare held fuel t cs=some x) :
  ∃(A:Option Addr) (l:List E) (c:Nat),cs=[.slice A l.length c]/\l.length≤maxLen/\(l.length=0∨∃b off,A=some ⟨b,off,none⟩ /\
   ∀i,i<l.length->∃vs,R (nth d l i) vs/\∀j,j<s->w.cell? ⟨b,off+i*s+j,none⟩=vs[j]?):=by
 rcases open_slice ht h with ⟨rfl,-⟩|⟨a,len,cap,m,n,D,Pl,rfl,hb,hl,hm,jy,-,hx⟩
 ·exact ⟨none,[],0,rfl,Nat.zero_le _,Or.inl rfl⟩
 have QD:len≤m:=by rw [jy];split<;>omega
 rw [hs] at hx
 obtain ⟨f,hf⟩:=@choose_lt E ⟨d⟩ len ( fun i z=>∃vs,R z vs/\vs.length=s/\∀j,j<s->w.cell? ((a.add (i*s)).add j)=vs[j]?) (fun i hi=>by
  obtain ⟨cs',h1,h2⟩:=hx i (by omega)
  obtain ⟨z,hz⟩:=he _ _ _ h2
  obtain ⟨-,hlen,hcell⟩:=World.cells?_some h1
  exact ⟨z,cs',hz,hlen,hcell⟩)
 refine ⟨some a,(List.range len).map f,cap,by simp,by simp;omega,?_⟩
 simp only [List.length_map,List.length_range]
 by_cases hz:len=0
 ·exact Or.inl hz
 right
 obtain ⟨b,off,spot⟩:=a
 have PH:spot=none:=by
  obtain ⟨vs,-,hlen,hcell⟩:=hf 0 (by omega)
  have g:=hcell 0 h0
  rw [List.getElem?_eq_getElem (by omega)] at g
  simpa [Addr.add] using World.cell?_spot g
 subst PH
 refine ⟨b,off,rfl,fun i hi=>?_⟩
 obtain ⟨vs,hR,-,hcell⟩:=hf i hi
 refine ⟨vs,?_,fun j hj=>?_⟩
 ·have:nth d ((List.range len).map f) i=f i:=by rw [bP (by simpa using hi)];simp
  rw [this];exact hR
 ·have:=hcell j hj
  rw [add_add,add_plain,<-Nat.add_assoc] at this
  exact this
theorem Ar {x:DataW H×List MemPlace} (h:DataW.trod enc Tryz.prog w base spare held fuel 45 cs=some x) :
  ∃t:Ty,(cs[0]?=some (.int .i64 t.kind)/\cs[1]?=some (.int .i64 t.cls))/\cP t.kind/\cP t.cls:=by
 obtain ⟨xs,n,rfl,rfl,hl,hn,hf⟩:=DataW.trod_struct Tryz.underlying45 h
 have kU:xs.length=2:=hn
 obtain ⟨k,h0,w0⟩:=eN Tryz.underlying3 dI (by simp [kU]) (hf 0 _ rfl)
 obtain ⟨c,h1,w1⟩:=eN Tryz.underlying3 dI (by simp [kU]) (hf 1 _ rfl)
 exact ⟨⟨k,c⟩,⟨h0,h1⟩,w0,w1⟩
theorem FU {x:DataW H×List MemPlace} (h:DataW.trod enc Tryz.prog w base spare held fuel 43 cs=some x) :
  ∃(A:Option Addr) (l:List Ty) (c:Nat),cs=[.slice A l.length c]/\dm w A l:=by
 obtain ⟨A,l,c,rfl,hm,hr⟩:=jq cL Tryz.underlying43 Aq (by omega) (fun _ _ _=>Ar) h
 rcases hr with h0|⟨b,off,rfl,hi⟩
 ·exact ⟨A,l,c,rfl,hm,Or.inl h0⟩
 refine ⟨_,l,c,rfl,hm,Or.inr ⟨b,off,rfl,fun i hlt=>?_⟩⟩
 obtain ⟨vs,⟨⟨h0,h1⟩,w0,w1⟩,hc⟩:=hi i hlt
 exact ⟨(hc 0 (by omega)).trans h0,(hc 1 (by omega)).trans h1,w0,w1⟩
theorem Av {y:Option (DataW H×List MemPlace)} (hy:y≠none) (h:DataW.trod enc Tryz.prog w base spare held fuel 43 ((cs.drop o).take (Tryz.prog.cellsOf 43))=y):∃(A:Option Addr) (l:List Ty) (c:Nat),cs[o]?=some (.slice A l.length c)/\dm w A l:=by
 obtain ⟨x,rfl⟩:=Option.ne_none_iff_exists'.1 hy
 obtain ⟨A,l,c,hn,hT⟩:=FU h
 rw [FT] at hn
 exact ⟨A,l,c,take_one hn,hT⟩
theorem J2 {x:DataW H×List MemPlace} (h:DataW.trod enc Tryz.prog w base spare held fuel 103 cs=some x) :
  ∃t:Cl,cs[0]?=some (.int .i64 t.super)/\cP t.super/\∃A c,cs[1]?=some (.slice A t.fields.length c)/\dm w A t.fields:=by
 obtain ⟨xs,n,rfl,rfl,hl,hn,hf⟩:=DataW.trod_struct Tryz.underlying103 h
 have kU:xs.length=2:=hn
 obtain ⟨k,h0,w0⟩:=eN Tryz.underlying3 dI (by simp [kU]) (hf 0 _ rfl)
 obtain ⟨A,l,c,h1,w1⟩:=Av (by simp [kU]) (hf 1 _ rfl)
 exact ⟨⟨k,l⟩,h0,w0,A,c,h1,w1⟩
theorem FV {x:DataW H×List MemPlace} (h:DataW.trod enc Tryz.prog w base spare held fuel 22 cs=some x) :
  ∃(A:Option Addr) (l:List Cl) (c:Nat),cs=[.slice A l.length c]/\cg w A l:=by
 obtain ⟨A,l,c,rfl,hm,hr⟩:=jq cd Tryz.underlying22 J1 (by omega) (fun _ _ _=>J2) h
 rcases hr with h0|⟨b,off,rfl,hi⟩
 ·exact ⟨A,l,c,rfl,hm,Or.inl h0⟩
 refine ⟨_,l,c,rfl,hm,Or.inr ⟨b,off,rfl,fun i hlt=>?_⟩⟩
 obtain ⟨vs,⟨h0,w0,A',c',h1,w1⟩,hc⟩:=hi i hlt
 exact ⟨(hc 0 (by omega)).trans h0,w0,A',c',(hc 1 (by omega)).trans h1,w1⟩
end
end
section
open Go.ChangeShapes Go.WideShapes Go.ChangeAt Go.RowKit Go.Deep
theorem sM:Tryz.prog.cellsOf 2=1:=by kernel_rfl
theorem CI:Tryz.prog.cellsOf 53=1:=by kernel_rfl
theorem cellsIn:Tryz.prog.cellsOf 55=6:=by kernel_rfl
theorem FW:Tryz.prog.cellsOf 46=1:=by kernel_rfl
theorem J3:Tryz.prog.cellsOf 106=4:=by kernel_rfl
theorem FX:Tryz.prog.cellsOf 47=1:=by kernel_rfl
theorem J4:Tryz.prog.cellsOf 49=8:=by kernel_rfl
theorem FY:Tryz.prog.cellsOf 23=1:=by kernel_rfl
theorem FZ:Tryz.prog.cellsOf 22=1:=by kernel_rfl
theorem J5:Tryz.prog.cellsOf 25=2:=by kernel_rfl
section
variable {H:Type} {enc:TypeId×Value->H} {w:World} {base:Nat} {spare:Nat->Bool} {held:Bool}
theorem yW {x:DataW H×List MemPlace} (h:DataW.trod enc Tryz.prog w base spare held fuel 53 cs=some x) :
  ∃(A:Option Addr) (l:List Int) (c:Nat),cs=[.slice A l.length c]/\cM w A l:=by
 obtain ⟨A,l,c,rfl,hm,hr⟩:=jq (0:Int) (R:=fun (n:Int) cs=>cs[0]?=some (.int .i64 n)/\cP n) Tryz.underlying53 dI (by omega)
  (fun _ _ _ hh=>by obtain ⟨n,rfl,-,hw⟩:=DataW.trod_int Tryz.underlying3 hh;exact ⟨n,rfl,bounds_i64 hw⟩) h
 rcases hr with h0|⟨b,off,rfl,hi⟩
 ·exact ⟨A,l,c,rfl,hm,Or.inl h0⟩
 refine ⟨_,l,c,rfl,hm,Or.inr ⟨b,off,rfl,fun i hlt=>?_⟩⟩
 obtain ⟨vs,⟨h0,w0⟩,hc⟩:=hi i hlt
 have:=(hc 0 (by omega)).trans h0
 rw [Nat.mul_one,Nat.add_zero] at this
 exact ⟨this,w0⟩
theorem J6 {x:DataW H×List MemPlace} (h:DataW.trod enc Tryz.prog w base spare held fuel 55 cs=some x) :
  ∃t:In,cs[0]?=some (.int .i64 t.op)/\cs[1]?=some (.int .i64 t.a)/\cs[2]?=some (.int .i64 t.b)/\cs[3]?=some (.int .i64 t.c)/\cs[4]?=some (.int .i64 t.n)/\t.ok
   /\ ∃A c,cs[5]?=some (.slice A t.args.length c)/\cM w A t.args:=by
 obtain ⟨xs,n,rfl,rfl,hl,hn,hf⟩:=DataW.trod_struct Tryz.underlying55 h
 have kU:xs.length=6:=hn
 obtain ⟨k0,h0,w0⟩:=eN Tryz.underlying3 dI (by simp [kU]) (hf 0 _ rfl)
 obtain ⟨k1,h1,w1⟩:=eN Tryz.underlying3 dI (by simp [kU]) (hf 1 _ rfl)
 obtain ⟨k2,h2,w2⟩:=eN Tryz.underlying3 dI (by simp [kU]) (hf 2 _ rfl)
 obtain ⟨k3,h3,w3⟩:=eN Tryz.underlying3 dI (by simp [kU]) (hf 3 _ rfl)
 obtain ⟨k4,h4,w4⟩:=eN Tryz.underlying2 sM (by simp [kU]) (hf 4 _ rfl)
 obtain ⟨y,hy⟩:=Option.ne_none_iff_exists'.1 (show xs[5]?≠none by simp [kU])
 have h5:=hf 5 _ rfl
 rw [hy] at h5
 obtain ⟨A,l,c,hn,hT⟩:=yW h5
 exact ⟨⟨k0,k1,k2,k3,k4,l⟩,h0,h1,h2,h3,h4,⟨w0,w1,w2,w3,w4⟩,A,c,take_one (CI▸hn),hT⟩
theorem Fu {x:DataW H×List MemPlace} (h:DataW.trod enc Tryz.prog w base spare held fuel 46 cs=some x) :
  ∃(A:Option Addr) (l:List In) (c:Nat),cs=[.slice A l.length c]/\oI w A l:=by
 obtain ⟨A,l,c,rfl,hm,hr⟩:=jq fX Tryz.underlying46 cellsIn (by omega) (fun _ _ _=>J6) h
 rcases hr with h0|⟨b,off,rfl,hi⟩
 ·exact ⟨A,l,c,rfl,hm,Or.inl h0⟩
 refine ⟨_,l,c,rfl,hm,Or.inr ⟨b,off,rfl,fun i hlt=>?_⟩⟩
 obtain ⟨vs,⟨h0,h1,h2,h3,h4,w0,A',c',h5,w1⟩,hc⟩:=hi i hlt
 exact ⟨(hc 0 (by omega)).trans h0,(hc 1 (by omega)).trans h1,(hc 2 (by omega)).trans h2,(hc 3 (by omega)).trans h3,(hc 4 (by omega)).trans h4,w0,A',c',(hc 5 (by omega)).trans h5,w1⟩
theorem J7 {x:DataW H×List MemPlace} (h:DataW.trod enc Tryz.prog w base spare held fuel 106 cs=some x) :
  ∃t:Hd,cs[0]?=some (.int .i64 t.fr)/\cs[1]?=some (.int .i64 t.til)/\cs[2]?=some (.int .i64 t.pc)/\cs[3]?=some (.int .i64 t.cls)/\t.ok:=by
 obtain ⟨xs,n,rfl,rfl,hl,hn,hf⟩:=DataW.trod_struct Tryz.underlying106 h
 have kU:xs.length=4:=hn
 obtain ⟨k0,h0,w0⟩:=eN Tryz.underlying3 dI (by simp [kU]) (hf 0 _ rfl)
 obtain ⟨k1,h1,w1⟩:=eN Tryz.underlying3 dI (by simp [kU]) (hf 1 _ rfl)
 obtain ⟨k2,h2,w2⟩:=eN Tryz.underlying3 dI (by simp [kU]) (hf 2 _ rfl)
 obtain ⟨k3,h3,w3⟩:=eN Tryz.underlying3 dI (by simp [kU]) (hf 3 _ rfl)
 exact ⟨⟨k0,k1,k2,k3⟩,h0,h1,h2,h3,w0,w1,w2,w3⟩
theorem F4 {x:DataW H×List MemPlace} (h:DataW.trod enc Tryz.prog w base spare held fuel 47 cs=some x) :
  ∃(A:Option Addr) (l:List Hd) (c:Nat),cs=[.slice A l.length c]/\kP w A l:=by
 obtain ⟨A,l,c,rfl,hm,hr⟩:=jq eB Tryz.underlying47 J3 (by omega) (fun _ _ _=>J7) h
 rcases hr with h0|⟨b,off,rfl,hi⟩
 ·exact ⟨A,l,c,rfl,hm,Or.inl h0⟩
 refine ⟨_,l,c,rfl,hm,Or.inr ⟨b,off,rfl,fun i hlt=>?_⟩⟩
 obtain ⟨vs,⟨h0,h1,h2,h3,w0⟩,hc⟩:=hi i hlt
 exact ⟨(hc 0 (by omega)).trans h0,(hc 1 (by omega)).trans h1,(hc 2 (by omega)).trans h2,(hc 3 (by omega)).trans h3,w0⟩
theorem J8 {x:DataW H×List MemPlace} (h:DataW.trod enc Tryz.prog w base spare held fuel 49 cs=some x) :
  ∃t:Me,∃P C K p c k,cs[0]?=some (.slice P t.params.length p)/\cs[1]?=some (.int .i64 t.ret.kind)/\cs[2]?=some (.int .i64 t.ret.cls)/\cs[3]?=some (.int .i64 t.stack)/\cs[4]?=some (.int .i64 t.locs)/\cs[5]?=some (.int .i64 t.regs)
   /\ cs[6]?=some (.slice C t.code.length c)/\cs[7]?=some (.slice K t.hands.length k)/\kX w t P C K:=by
 obtain ⟨xs,n,rfl,rfl,hl,hn,hf⟩:=DataW.trod_struct Tryz.underlying49 h
 have kU:xs.length=7:=hn
 obtain ⟨P,lp,p,h0,w0⟩:=Av (by simp [kU]) (hf 0 _ rfl)
 obtain ⟨k2,h2,w2⟩:=eN Tryz.underlying3 dI (by simp [kU]) (hf 2 _ rfl)
 obtain ⟨k3,h3,w3⟩:=eN Tryz.underlying3 dI (by simp [kU]) (hf 3 _ rfl)
 obtain ⟨k4,h4,w4⟩:=eN Tryz.underlying3 dI (by simp [kU]) (hf 4 _ rfl)
 obtain ⟨y,hy⟩:=Option.ne_none_iff_exists'.1 (show xs[5]?≠none by simp [kU])
 have h5:=hf 5 _ rfl
 rw [hy] at h5
 obtain ⟨C,lc,c,XV,XW⟩:=Fu h5
 obtain ⟨y,hy⟩:=Option.ne_none_iff_exists'.1 (show xs[6]?≠none by simp [kU])
 have h6:=hf 6 _ rfl
 rw [hy] at h6
 obtain ⟨K,lk,k,XX,XY⟩:=F4 h6
 obtain ⟨y,hy⟩:=Option.ne_none_iff_exists'.1 (show xs[1]?≠none by simp [kU])
 have h1:=hf 1 _ rfl
 rw [hy] at h1
 obtain ⟨r,⟨yo,NS⟩,v0,v1⟩:=Ar h1
 have PI:((cs.drop 1).take (Tryz.prog.cellsOf 45))[0]?=some (.int .i64 r.kind):=yo
 have PJ:((cs.drop 1).take (Tryz.prog.cellsOf 45))[1]?=some (.int .i64 r.cls):=NS
 rw [Aq] at PI PJ
 refine ⟨⟨lp,r,k2,k3,k4,lc,lk⟩,P,C,K,p,c,k,h0,?_,?_,h2,h3,h4,take_one (FW▸XV),take_one (FX▸XX),w0,XW,XY,v0,v1,w2,w3,w4⟩
 ·simpa [List.getElem?_take,List.getElem?_drop] using PI
 ·simpa [List.getElem?_take,List.getElem?_drop] using PJ
theorem F6 {x:DataW H×List MemPlace} (h:DataW.trod enc Tryz.prog w base spare held fuel 23 cs=some x) :
  ∃(A:Option Addr) (l:List Me) (c:Nat),cs=[.slice A l.length c]/\eD w A l:=by
 obtain ⟨A,l,c,rfl,hm,hr⟩:=jq bM Tryz.underlying23 J4 (by omega) (fun _ _ _=>J8) h
 rcases hr with h0|⟨b,off,rfl,hi⟩
 ·exact ⟨A,l,c,rfl,hm,Or.inl h0⟩
 refine ⟨_,l,c,rfl,hm,Or.inr ⟨b,off,rfl,fun i hlt=>?_⟩⟩
 obtain ⟨vs,⟨P,C,K,p,c,k,h0,h1,h2,h3,h4,h5,h6,h7,w1⟩,hc⟩:=hi i hlt
 exact ⟨P,C,K,p,c,k,(hc 0 (by omega)).trans h0,(hc 1 (by omega)).trans h1,(hc 2 (by omega)).trans h2,(hc 3 (by omega)).trans h3,(hc 4 (by omega)).trans h4,(hc 5 (by omega)).trans h5,(hc 6 (by omega)).trans h6,(hc 7 (by omega)).trans h7,w1⟩
theorem CJ {x:DataW H×List MemPlace} (h:DataW.trod enc Tryz.prog w base spare held fuel 25 cs=some x) :
  ∃(f:Fi) (A B:Option Addr) (a b:Nat),cs=[.slice A f.classes.length a,.slice B f.methods.length b]/\cg w A f.classes/\eD w B f.methods:=by
 obtain ⟨xs,n,rfl,rfl,hl,hn,hf⟩:=DataW.trod_struct Tryz.underlying25 h
 have kU:xs.length=2:=hn
 rw [J5] at hl
 obtain ⟨y,hy⟩:=Option.ne_none_iff_exists'.1 (show xs[0]?≠none by simp [kU])
 have h0:=hf 0 _ rfl
 rw [hy] at h0
 obtain ⟨A,l,a,hA,hT⟩:=FV h0
 obtain ⟨y,hy⟩:=Option.ne_none_iff_exists'.1 (show xs[1]?≠none by simp [kU])
 have h1:=hf 1 _ rfl
 rw [hy] at h1
 obtain ⟨B,m,b,hB,hM⟩:=F6 h1
 have e0:cs[0]?=some (.slice A l.length a):=take_one (FZ▸hA)
 have e1:cs[1]?=some (.slice B m.length b):=take_one (FY▸hB)
 match cs,hl with
 | [u,v],_ =>
  simp at e0 e1
  subst e0 e1
  exact ⟨⟨l,m⟩,A,B,a,b,rfl,hT,hM⟩
end
end
section
open Go.ChangeShapes Go.WideShapes Go.ChangeAt Go.RowKit Go.Deep
variable {H:Type} {enc:TypeId×Value->H} {w:World} {base:Nat} {spare:Nat->Bool} {held:Bool}
theorem qR {x:DataW H×List MemPlace} (h:DataW.trod enc Tryz.prog w base spare held fuel 26 cs=some x) :
  ∃(A:Option Addr) (l:List Int) (c:Nat),cs=[.slice A l.length c]/\cM w A l:=by
 obtain ⟨A,l,c,rfl,hm,hr⟩:=jq (0:Int) (R:=fun (n:Int) cs=>cs[0]?=some (.int .i64 n)/\cP n) Tryz.underlying26 sM (by omega)
  (fun _ _ _ hh=>by obtain ⟨n,rfl,-,hw⟩:=DataW.trod_int Tryz.underlying2 hh;exact ⟨n,rfl,bounds_i64 hw⟩) h
 rcases hr with h0|⟨b,off,rfl,hi⟩
 ·exact ⟨A,l,c,rfl,hm,Or.inl h0⟩
 refine ⟨_,l,c,rfl,hm,Or.inr ⟨b,off,rfl,fun i hlt=>?_⟩⟩
 obtain ⟨vs,⟨h0,w0⟩,hc⟩:=hi i hlt
 have:=(hc 0 (by omega)).trans h0
 rw [Nat.mul_one,Nat.add_zero] at this
 exact ⟨this,w0⟩
end
end Go.Proofs.YtimjmdfokicbkaaGreat
