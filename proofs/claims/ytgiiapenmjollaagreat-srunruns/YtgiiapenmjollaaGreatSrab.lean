import Derived.Test.YtgiiapenmjollaaGreatSraa
import Derived.Test.YtgiiapenmjollaaGreatChecked
import Derived.WalkKit
import Derived.RowKit3
import Derived.Below
import Derived.Handy
namespace Go.Proofs.YtgiiapenmjollaaGreat
set_option linter.all false
set_option maxHeartbeats 40000000
set_option maxRecDepth 100000
open Go.RowKit
open Go.Value (int)
open Go.IntKind (i64)
variable {c:aH} {h h':Hp} {k nm s:Nat} {v:Va}
theorem eG {k:IntKind} {a b:Int} {x y:Bool} (h:a=b) (h':x=y):Ending.returned (.tuple #[.int k a,.bool x])=.returned (.tuple #[.int k b,.bool y]):=by rw [h,h']
theorem N3 {x y:Bool} (h:x=y):Ending.returned (.bool x)=.returned (.bool y):=by rw [h]
theorem vQ (a b:Int) (w:World) :
  Calls Tryz.prog 160 #[int i64 a,int i64 b] w fun e w'=>e=.returned (int i64 (mf a b))/\w'=w:=by
 unfold mf
 by_cases h:a<b
 ·rw [if_pos h]
  go_enter Tryz.func160,Tryz.ntmps160
  go_wp2
  go_ret
  exact ⟨rfl,rfl⟩
 by_cases h':b<a
 ·rw [if_neg h,if_pos h']
  go_enter Tryz.func160,Tryz.ntmps160
  go_wp2
  go_ret
  exact ⟨rfl,rfl⟩
 ·rw [if_neg h,if_neg h']
  go_enter Tryz.func160,Tryz.ntmps160
  go_wp2
  go_ret
  exact ⟨rfl,rfl⟩
theorem Au (a:Int) (i:Nat) (hlo:-9223372036854775808<=a) (dR:a<=9223372036854775807) :
  -9223372036854775808<=a/2 ^ i/\a/2 ^ i<=9223372036854775807:=by
 have hp:(0:Int)<2 ^ i:=Int.pow_pos (by omega)
 constructor
 ·rw [Int.le_ediv_iff_mul_le hp]
  have:(1:Int)<=2 ^ i:=by omega
  have:=Int.mul_le_mul_of_nonpos_left (a:=(-9223372036854775808:Int)) (by omega) this
  omega
 ·by_cases h:0<=a
  ·have:=Int.ediv_le_self (2 ^ i) h;omega
  ·have:=Int.ediv_neg_of_neg_of_pos (by omega:a<0) hp;omega
theorem DI (n:Int):(n.tmod 2 !=0)=decide (n%2=1):=by
 have:=KB n
 by_cases h:n%2=1
 ·have h':n.tmod 2≠0:=by omega
  simp [h,h']
 ·have h':n.tmod 2=0:=by omega
  simp [h,h']
theorem Hz (a:Int) (k:Nat) (w:World) (hlo:-9223372036854775808<=a) (dR:a<=9223372036854775807) (hk:k<=64) :
  Calls Tryz.prog 247 #[int i64 a,int i64 (k:Int)] w fun e w'=>e=.returned (.bool (fy a k))/\w'=w:=by
 go_enter Tryz.func247,Tryz.ntmps247
 go_wp2
 go_loop [0,5] (fun n i=>∃j:Nat,j<=k/\i=int i64 j/\n=int i64 (a/2 ^ j)) (fun _ i=>k-(intOf i).toNat)
 case atStart=>exact ⟨0,Nat.zero_le _,rfl,by simp⟩
 case round =>
  obtain ⟨j,hj,rfl,rfl⟩:=hrel
  have hb:=Au a j hlo dR
  have hs:=sV a j
  have HS:Hid (a/2 ^ (j+1)=a/2 ^ j/2):=hs
  clear hs
  have N4:Hid (fy a j=decide (a/2 ^ j%2=1)):=rfl
  obtain ⟨n,hn⟩:∃n,a/2 ^ j=n:=⟨_,rfl⟩
  rw [hn] at hb HS N4
  simp only [hn]
  have ht:=KB n
  have hh:=AR n
  by_cases hlt:j<k
  ·by_cases oa:n.tmod 2<0
   ·have h2:=ht.2.1 oa
    go_wp2
    go_round
    case rel=>exact ⟨j+1,by omega,by go_num,by rw [HS.out,<-hh,h2.2]⟩
    case measure=>simp [intOf];omega
   ·go_wp2
    go_round
    case rel=>exact ⟨j+1,by omega,by go_num,by rw [HS.out,<-hh,ht.1 (by omega)]⟩
    case measure=>simp [intOf];omega
  ·have:j=k:=by omega
   subst this
   go_wp2
   go_ret
   exact ⟨N3 (by rw [N4.out,DI n]),rfl⟩
theorem A4 (f:Nat->Bool) (j:Nat):wrap64 (iz f (j+1):Nat)=if f j=true then wrap64 (wrap64 (iz f j:Nat)+wrap64 ((2:Int) ^ j)) else wrap64 (iz f j:Nat):=by
 by_cases h:f j=true
 ·rw [if_pos h,zy];simp [iz,h]
 ·rw [if_neg h];simp [iz,h]
theorem DJ (j:Nat):wrap64 (wrap64 ((2:Int) ^ j)+wrap64 ((2:Int) ^ j))=wrap64 ((2:Int) ^ (j+1)):=by
 rw [zy,Int.pow_succ];congr 1;omega
theorem DK (op a b:Int) (w:World) (ho:op=6∨op=7∨op=8) (hlo:-9223372036854775808<=a) (dR:a<=9223372036854775807) (pW:-9223372036854775808<=b) (pX:b<=9223372036854775807) :
  Calls Tryz.prog 234 #[int i64 op,int i64 a,int i64 b] w fun e w'=>e=.returned (int i64 (wrap64 (iz (fun i=>AV op (fy a i) (fy b i)) 64:Nat)))/\w'=w:=by
 go_enter Tryz.func234,Tryz.ntmps234
 go_wp2
 go_loop [7,8,9] (fun n p i=>∃j:Nat,j<=64/\i=int i64 j/\p=int i64 (wrap64 (2 ^ j))/\n=int i64 (wrap64 (iz (fun i=>AV op (fy a i) (fy b i)) j:Nat))) (fun _ _ i=>64-(intOf i).toNat)
 case atStart=>exact ⟨0,Nat.zero_le _,rfl,by simp [wrap64],by simp [iz,wrap64]⟩
 case round =>
  obtain ⟨j,hj,rfl,rfl,rfl⟩:=hrel
  have Vb:Hid (wrap64 (wrap64 ((2:Int) ^ j)+wrap64 ((2:Int) ^ j))=wrap64 ((2:Int) ^ (j+1))):=DJ j
  have HT:Hid (wrap64 (iz (fun i=>AV op (fy a i) (fy b i)) (j+1):Nat)=if AV op (fy a j) (fy b j)=true then wrap64 (wrap64 (iz (fun i=>AV op (fy a i) (fy b i)) j:Nat)+wrap64 ((2:Int) ^ j)) else wrap64 (iz (fun i=>AV op (fy a i) (fy b i)) j:Nat)):=A4 (fun i=>AV op (fy a i) (fy b i)) j
  by_cases hlt:j<64
  ·rcases ho with rfl|rfl|rfl<;>cases hx:fy a j<;>cases hy:fy b j
   all_goals
    go_wp2_with (go_at_call 247;refine (Hz _ _ _ (by omega) (by omega) (by omega)).mono ?_;rintro e w' ⟨rfl,rfl⟩)
    go_round
    case rel=>exact ⟨j+1,by omega,by go_num,by rw [<-Vb.out],by rw [HT.out];simp [AV,hx,hy]⟩
    case measure=>simp [intOf];omega
  ·have:j=64:=by omega
   subst this
   go_wp2
   go_ret
   exact ⟨rfl,rfl⟩
theorem lh (a:Int) (w:World) :
  Calls Tryz.prog 50 #[int i64 a] w fun e w'=>e=.returned (int i64 (wrap32 a))/\w'=w:=by
 have h:=ya a
 have hb:=AQ a
 by_cases h1:a.tmod 4294967296<0
 ·by_cases h2:a.tmod 4294967296+4294967296≥2147483648
  ·have HE:Hid (wrap32 a=a.tmod 4294967296+4294967296-4294967296):=h.1 h1 h2
   clear h
   go_enter Tryz.func50,Tryz.ntmps50
   go_wp2
   go_ret
   exact ⟨vK (by rw [HE.out];omega),rfl⟩
  ·have HE:Hid (wrap32 a=a.tmod 4294967296+4294967296):=h.2.1 h1 (by omega)
   clear h
   go_enter Tryz.func50,Tryz.ntmps50
   go_wp2
   go_ret
   exact ⟨vK (by rw [HE.out]),rfl⟩
 ·by_cases h2:a.tmod 4294967296≥2147483648
  ·have HE:Hid (wrap32 a=a.tmod 4294967296-4294967296):=h.2.2.1 (by omega) h2
   clear h
   go_enter Tryz.func50,Tryz.ntmps50
   go_wp2
   go_ret
   exact ⟨vK (by rw [HE.out]),rfl⟩
  ·have HE:Hid (wrap32 a=a.tmod 4294967296):=h.2.2.2 (by omega) (by omega)
   clear h
   go_enter Tryz.func50,Tryz.ntmps50
   go_wp2
   go_ret
   exact ⟨vK (by rw [HE.out]),rfl⟩
theorem oU (a:Int):wrap64 (-a)=wrap64 (a.tdiv (-1)):=by
 congr 1;rw [Int.tdiv_neg,Int.tdiv_one]
theorem LL (a b:Int) (h:-9223372036854775808<=a) (h':a<=9223372036854775807):wrap64 (a-wrap64 (wrap64 (a.tdiv b)*b))=a.tmod b:=by
 have h1:=jS a b
 have h2:=Hi a b h h'
 rw [Hh]
 have h3:a-a.tdiv b*b=a.tmod b:=by omega
 have h4:wrap64 (a-wrap64 (a.tdiv b*b))=wrap64 (a-a.tdiv b*b):=by
  generalize a.tdiv b*b=x;unfold wrap64;omega
 rw [h4,h3,LH h2.1 h2.2]
theorem kb (op a b:Int) (w:World) (hlo:-9223372036854775808<=a) (dR:a<=9223372036854775807) (pW:-9223372036854775808<=b) (pX:b<=9223372036854775807) :
  Calls Tryz.prog 200 #[int i64 op,int i64 a,int i64 b] w fun e w'=>e=.returned (.tuple #[int i64 (dF op a b),.bool (ey op b)])/\w'=w:=by
 by_cases h1:op=1
 ·subst h1
  have HE:Hid (dF 1 a b=wrap64 (a+b)/\ey 1 b=true):=⟨by simp [dF],by simp [ey]⟩
  clear hlo dR pW pX
  go_enter Tryz.func200,Tryz.ntmps200
  go_wp2
  go_ret2
  exact ⟨eG HE.out.1.symm HE.out.2.symm,rfl⟩
 by_cases h2:op=2
 ·subst h2
  have HE:Hid (dF 2 a b=wrap64 (a-b)/\ey 2 b=true):=⟨by simp [dF],by simp [ey]⟩
  clear hlo dR pW pX
  go_enter Tryz.func200,Tryz.ntmps200
  go_wp2
  go_ret2
  exact ⟨eG HE.out.1.symm HE.out.2.symm,rfl⟩
 by_cases h3:op=3
 ·subst h3
  have HE:Hid (dF 3 a b=wrap64 (a*b)/\ey 3 b=true):=⟨by simp [dF],by simp [ey]⟩
  clear hlo dR pW pX
  go_enter Tryz.func200,Tryz.ntmps200
  go_wp2
  go_ret2
  exact ⟨eG HE.out.1.symm HE.out.2.symm,rfl⟩
 by_cases vR:op=6∨op=7∨op=8
 ·have HE:Hid (dF op a b=wrap64 (iz (fun i=>AV op (fy a i) (fy b i)) 64:Nat)/\ey op b=true) :=
   ⟨by have h4:¬op=4:=(by omega);have h5:¬op=5:=(by omega);simp only [dF,if_neg h1,if_neg h2,if_neg h3,if_neg h4,if_neg h5,if_pos vR],
    by simp only [ey,decide_eq_true_eq];omega⟩
  have hc:=fun w=>DK op a b w vR hlo dR pW pX
  clear hlo dR pW pX
  rcases vR with rfl|rfl|rfl
  all_goals
   go_enter Tryz.func200,Tryz.ntmps200
   go_wp2_with (go_at_call 234;refine (hc _).mono ?_;rintro e w' ⟨rfl,rfl⟩)
   go_ret2
   exact ⟨eG HE.out.1.symm HE.out.2.symm,rfl⟩
 by_cases h4:op=4
 ·subst h4
  by_cases hb:b=0
  ·subst hb
   have HE:Hid (dF 4 a 0=0/\ey 4 0=false):=⟨by simp [dF],by simp [ey]⟩
   clear hlo dR pW pX
   go_enter Tryz.func200,Tryz.ntmps200
   go_wp2
   go_ret2
   exact ⟨eG HE.out.1.symm HE.out.2.symm,rfl⟩
  ·have HE:Hid (dF 4 a b=wrap64 (a.tdiv b)/\ey 4 b=true):=⟨by simp [dF,hb],by simp [ey,hb]⟩
   clear hlo dR pW pX
   by_cases hm:b=-1
   ·subst hm
    go_enter Tryz.func200,Tryz.ntmps200
    go_wp2
    go_ret2
    exact ⟨eG (by rw [HE.out.1];exact oU a) HE.out.2.symm,rfl⟩
   ·go_enter Tryz.func200,Tryz.ntmps200
    go_wp2
    go_ret2
    exact ⟨eG HE.out.1.symm HE.out.2.symm,rfl⟩
 by_cases h5:op=5
 ·subst h5
  by_cases hb:b=0
  ·subst hb
   have HE:Hid (dF 5 a 0=0/\ey 5 0=false):=⟨by simp [dF],by simp [ey]⟩
   clear hlo dR pW pX
   go_enter Tryz.func200,Tryz.ntmps200
   go_wp2
   go_ret2
   exact ⟨eG HE.out.1.symm HE.out.2.symm,rfl⟩
  ·have HE:Hid (dF 5 a b=a.tmod b/\ey 5 b=true):=⟨by simp [dF,hb],by simp [ey,hb]⟩
   have HR:Hid (wrap64 (a-wrap64 (wrap64 (a.tdiv b)*b))=a.tmod b):=LL a b hlo dR
   clear hlo dR pW pX
   by_cases hm:b=-1
   ·subst hm
    go_enter Tryz.func200,Tryz.ntmps200
    go_wp2
    go_ret2
    exact ⟨eG (by rw [HE.out.1,<-HR.out,<-oU,Int.mul_neg_one]) HE.out.2.symm,rfl⟩
   ·go_enter Tryz.func200,Tryz.ntmps200
    go_wp2
    go_ret2
    exact ⟨eG (by rw [HE.out.1,<-HR.out]) HE.out.2.symm,rfl⟩
 have e1:dF op a b=0:=by
  simp only [dF,if_neg h1,if_neg h2,if_neg h3,if_neg h4,if_neg h5,if_neg vR]
 have e2:ey op b=false:=by simp only [ey,decide_eq_false_iff_not];omega
 rw [e1,e2]
 clear e1 e2 hlo dR pW pX
 have h6:¬op=6:=by omega
 have h7:¬op=7:=by omega
 have h8:¬op=8:=by omega
 clear vR
 go_enter Tryz.func200,Tryz.ntmps200
 go_wp2
 go_ret2
 exact ⟨rfl,rfl⟩
theorem vS (op a b:Int) (w:World) :
  Calls Tryz.prog 201 #[int i64 op,int i64 a,int i64 b] w fun e w'=>e=.returned (.tuple #[int i64 (wrap32 (dF op (wrap32 a) (wrap32 b))),.bool (ey op (wrap32 b))])/\w'=w:=by
 have ha:=x9 a
 have hb:=x9 b
 go_enter Tryz.func201,Tryz.ntmps201
 go_wp2_with (first|(go_at_call 50;refine (lh _ _).mono ?_;rintro e w' ⟨rfl,rfl⟩)|(go_at_call 200;refine (kb _ _ _ _ (by omega) (by omega) (by omega) (by omega)).mono ?_;rintro e w' ⟨rfl,rfl⟩))
 go_ret2
 exact ⟨rfl,rfl⟩
theorem N5 (a:Int):jB 1 a=(a==0):=by unfold jB;by_cases h:a=0<;>simp [h]
theorem N6 (a:Int):jB 2 a=decide (a<0):=by unfold jB;simp
theorem N7 (a:Int):jB 3 a=(a !=0):=by unfold jB;by_cases h:a=0<;>simp [h]
theorem N8 (a:Int):jB 4 a=decide (0<a):=by unfold jB;simp
theorem N9 (c a:Int) (h1:¬c=1) (h2:¬c=2) (h3:¬c=3) (h4:¬c=4):jB c a=false:=by unfold jB;simp [h1,h2,h3,h4]
theorem pY (c a:Int) (w:World) :
  Calls Tryz.prog 111 #[int i64 c,int i64 a] w fun e w'=>e=.returned (.bool (jB c a))/\w'=w:=by
 by_cases h1:c=1
 ·subst h1
  rw [N5]
  go_enter Tryz.func111,Tryz.ntmps111
  go_wp2
  go_ret
  exact ⟨rfl,rfl⟩
 by_cases h2:c=2
 ·subst h2
  rw [N6]
  go_enter Tryz.func111,Tryz.ntmps111
  go_wp2
  go_ret
  exact ⟨rfl,rfl⟩
 by_cases h3:c=3
 ·subst h3
  rw [N7]
  go_enter Tryz.func111,Tryz.ntmps111
  go_wp2
  go_ret
  exact ⟨rfl,rfl⟩
 by_cases h4:c=4
 ·subst h4
  rw [N8]
  go_enter Tryz.func111,Tryz.ntmps111
  go_wp2
  go_ret
  exact ⟨rfl,rfl⟩
 rw [N9 c a h1 h2 h3 h4]
 go_enter Tryz.func111,Tryz.ntmps111
 go_wp2
 go_ret
 exact ⟨rfl,rfl⟩
section
open Go.RowKit (wrap32 wrap64)
theorem kF (a:Int) (w:World) :
  Calls Tryz.prog 102 #[int i64 a] w fun e w'=>e=.returned (int i64 (wrap32 a))/\w'=w:=by
 go_enter Tryz.func102,Tryz.ntmps102
 go_wp2
 go_ret
 exact ⟨vK (Hg a),rfl⟩
end
section
open Go.RowKit (wrap32 wrap64)
theorem sX (a b:Int) (w:World) :
  Calls Tryz.prog 254 #[int i64 a,int i64 b] w fun e w'=>e=.returned (.tuple #[int i64 (dF 4 a b),.bool (ey 4 b)])/\w'=w:=by
 by_cases h:b=0
 ·subst h
  go_enter Tryz.func254,Tryz.ntmps254
  go_wp2
  go_ret2
  exact ⟨eG (by simp [dF]) (by simp [ey]),rfl⟩
 ·go_enter Tryz.func254,Tryz.ntmps254
  go_wp2
  go_ret2
  exact ⟨eG (by simp [dF,h]) (by simp [ey,h]),rfl⟩
theorem rJ (a b:Int) (w:World) :
  Calls Tryz.prog 255 #[int i64 a,int i64 b] w fun e w'=>e=.returned (.tuple #[int i64 (dF 5 a b),.bool (ey 5 b)])/\w'=w:=by
 by_cases h:b=0
 ·subst h
  go_enter Tryz.func255,Tryz.ntmps255
  go_wp2
  go_ret2
  exact ⟨eG (by simp [dF]) (by simp [ey]),rfl⟩
 ·go_enter Tryz.func255,Tryz.ntmps255
  go_wp2
  go_ret2
  exact ⟨eG (by simp [dF,h]) (by simp [ey,h]),rfl⟩
theorem vT (op a b:Int) (w:World) :
  Calls Tryz.prog 245 #[int i64 op,int i64 a,int i64 b] w fun e w'=>e=.returned (.tuple #[int i64 (dF op a b),.bool (ey op b)])/\w'=w:=by
 by_cases h1:op=1
 ·subst h1
  go_enter Tryz.func245,Tryz.ntmps245
  go_wp2
  go_ret2
  exact ⟨eG (by simp [dF]) (by simp [ey]),rfl⟩
 by_cases h2:op=2
 ·subst h2
  go_enter Tryz.func245,Tryz.ntmps245
  go_wp2
  go_ret2
  exact ⟨eG (by simp [dF]) (by simp [ey]),rfl⟩
 by_cases h3:op=3
 ·subst h3
  go_enter Tryz.func245,Tryz.ntmps245
  go_wp2
  go_ret2
  exact ⟨eG (by simp [dF]) (by simp [ey]),rfl⟩
 by_cases h4:op=4
 ·subst h4
  go_enter Tryz.func245,Tryz.ntmps245
  go_wp2_with (go_at_call 254;refine (sX _ _ _).mono ?_;rintro e w' ⟨rfl,rfl⟩)
  go_ret2
  exact ⟨rfl,rfl⟩
 by_cases h5:op=5
 ·subst h5
  go_enter Tryz.func245,Tryz.ntmps245
  go_wp2_with (go_at_call 255;refine (rJ _ _ _).mono ?_;rintro e w' ⟨rfl,rfl⟩)
  go_ret2
  exact ⟨rfl,rfl⟩
 by_cases h6:op=6
 ·subst h6
  go_enter Tryz.func245,Tryz.ntmps245
  go_wp2
  go_ret2
  exact ⟨eG (Hl a b).symm (by simp [ey]),rfl⟩
 by_cases h7:op=7
 ·subst h7
  go_enter Tryz.func245,Tryz.ntmps245
  go_wp2
  go_ret2
  exact ⟨eG (LI a b).symm (by simp [ey]),rfl⟩
 by_cases h8:op=8
 ·subst h8
  go_enter Tryz.func245,Tryz.ntmps245
  go_wp2
  go_ret2
  exact ⟨eG (Hm a b).symm (by simp [ey]),rfl⟩
 have e1:dF op a b=0:=by simp [dF,h1,h2,h3,h4,h5,h6,h7,h8]
 have e2:ey op b=false:=by simp only [ey,decide_eq_false_iff_not];omega
 rw [e1,e2]
 clear e1 e2
 go_enter Tryz.func245,Tryz.ntmps245
 go_wp2
 go_ret2
 exact ⟨rfl,rfl⟩
theorem HJ (op a b:Int) (w:World) :
  Calls Tryz.prog 246 #[int i64 op,int i64 a,int i64 b] w fun e w'=>e=.returned (.tuple #[int i64 (wrap32 (dF op (wrap32 a) (wrap32 b))),.bool (ey op (wrap32 b))])/\w'=w:=by
 go_enter Tryz.func246,Tryz.ntmps246
 go_wp2_with (first|(go_at_call 102;refine (kF _ _).mono ?_;rintro e w' ⟨rfl,rfl⟩)|(go_at_call 245;refine (vT _ _ _ _).mono ?_;rintro e w' ⟨rfl,rfl⟩))
 go_ret2
 exact ⟨rfl,rfl⟩
theorem Hu (a b:Int) (w:World) :
  Calls Tryz.prog 194 #[int i64 a,int i64 b] w fun e w'=>e=.returned (int i64 (mf a b))/\w'=w:=by
 unfold mf
 by_cases h:a<b
 ·rw [if_pos h]
  go_enter Tryz.func194,Tryz.ntmps194
  go_wp2
  go_ret
  exact ⟨rfl,rfl⟩
 by_cases h':b<a
 ·rw [if_neg h,if_pos h']
  go_enter Tryz.func194,Tryz.ntmps194
  go_wp2
  go_ret
  exact ⟨rfl,rfl⟩
 ·rw [if_neg h,if_neg h']
  go_enter Tryz.func194,Tryz.ntmps194
  go_wp2
  go_ret
  exact ⟨rfl,rfl⟩
end
theorem aE (n lo hi:Int) (w:World) :
  Calls Tryz.prog 20 #[int i64 n,int i64 lo,int i64 hi] w fun e w'=>e=.returned (.bool (decide (lo<=n/\n<=hi)))/\w'=w:=by
 go_enter Tryz.func20,Tryz.ntmps20
 go_wp2
 all_goals
  go_ret
  refine ⟨aj ?_,rfl⟩
  rw [Bool.eq_iff_iff];simp;try omega
theorem jg (A:Option Addr) (c:Nat) (F:List Ty) (w:World) (hl:dp w A F) (hb:F.length<=1000000) :
  Calls Tryz.prog 22 #[.slice A F.length c] w fun e w'=>e=.returned (int i64 (bZ F:Nat))/\w'=w:=by
 obtain ⟨hm,hl⟩:=hl
 clear hm
 have HS:Hid (∀k,k<F.length->bZ (F.take (k+1))=bZ (F.take k)+(if (nth cN F k).kind=2 then 2 else 1)):=oL F
 have HB:Hid (∀k,bZ (F.take k)<=2*k):=fun k=>by have:=rY (F.take k);have:=List.length_take_le k F;omega
 go_enter Tryz.func22,Tryz.ntmps22
 go_wp2
 go_loop [3,4] (fun n i=>∃k:Nat,k<=F.length/\i=int i64 k/\n=int i64 ((F.length:Int)+((bZ (F.take k):Nat):Int)-k)) (fun _ i=>F.length-(intOf i).toNat)
 case atStart=>exact ⟨0,Nat.zero_le _,rfl,by simp [bZ]⟩
 case round =>
  obtain ⟨k,hk,rfl,rfl⟩:=hrel
  have h2:=HB.out k
  by_cases hlt:k<F.length
  ·rcases hl with h0|⟨b,off,rfl,hcell⟩
   ·omega
   have ht:=(hcell k hlt).1
   have hs:=HS.out k hlt
   clear hcell
   by_cases mw:(nth cN F k).kind=2
   ·rw [if_pos mw] at hs
    rw [mw] at ht
    have H8:Hid (bZ (F.take (k+1))=bZ (F.take k)+2):=hs
    clear hs mw
    go_wp2
    go_round
    case rel=>exact ⟨k+1,by omega,by go_num,by rw [H8.out];go_num⟩
    case measure=>simp [intOf];omega
   ·rw [if_neg mw] at hs
    have H8:Hid (bZ (F.take (k+1))=bZ (F.take k)+1):=hs
    have QW:((nth cN F k).kind==2)=false:=by simpa using mw
    clear hs mw
    go_wp2
    go_round
    case rel=>exact ⟨k+1,by omega,by go_num,by rw [H8.out];go_num⟩
    case measure=>simp [intOf];omega
  ·obtain rfl:k=F.length:=by omega
   rw [List.take_length] at *
   go_wp2
   go_ret
   exact ⟨lT (by omega),rfl⟩
def mz (w:World) (b off:Nat) (m:Me) (P C K:Option Addr) (p c k:Nat):Prop :=
 w.cell? ⟨b,off,none⟩=some (.slice P m.params.length p)/\w.cell? ⟨b,off+1,none⟩=some (int i64 m.ret.kind)/\w.cell? ⟨b,off+2,none⟩=some (int i64 m.ret.cls)
  /\ w.cell? ⟨b,off+3,none⟩=some (int i64 m.stack)/\w.cell? ⟨b,off+4,none⟩=some (int i64 m.locs)/\w.cell? ⟨b,off+5,none⟩=some (int i64 m.regs)
  /\ w.cell? ⟨b,off+6,none⟩=some (.slice C m.code.length c)/\w.cell? ⟨b,off+7,none⟩=some (.slice K m.hands.length k)
theorem mz.bl {w w':World} (h:Bl w w') {b off:Nat} {m:Me} {P C K:Option Addr} {p c:Nat} (hb:mz w b off m P C K p c k):mz w' b off m P C K p c k :=
 ⟨h.cell hb.1,h.cell hb.2.1,h.cell hb.2.2.1,h.cell hb.2.2.2.1,h.cell hb.2.2.2.2.1,h.cell hb.2.2.2.2.2.1,h.cell hb.2.2.2.2.2.2.1,h.cell hb.2.2.2.2.2.2.2⟩
abbrev iW (m:Me) (P C K:Option Addr) (p c k:Nat):Value :=
 .agg #[.slice P m.params.length p,int i64 m.ret.kind,int i64 m.ret.cls,int i64 m.stack,int i64 m.locs,int i64 m.regs,.slice C m.code.length c,.slice K m.hands.length k]
abbrev fU (nc nm:Nat) (A B:Option Addr) (a b:Nat):Value:=.agg #[.slice A nc a,.slice B nm b]
def gu (w:World) (b off:Nat) (nc nm:Nat) (A B:Option Addr) (x y:Nat):Prop :=
 w.cell? ⟨b,off,none⟩=some (.slice A nc x)/\w.cell? ⟨b,off+1,none⟩=some (.slice B nm y)
theorem gu.bl {w w':World} (h:Bl w w') {b off nc:Nat} {A B:Option Addr} {x y:Nat} (hb:gu w b off nc nm A B x y):gu w' b off nc nm A B x y:=⟨h.cell hb.1,h.cell hb.2⟩
theorem A5 (w:World) (nc nm:Nat) (A B:Option Addr) (x y:Nat) (m:Me) (P C K:Option Addr) (p c k:Nat) (t t':TypeId) :
  gu ((w.alloc (.cells #[.slice A nc x,.slice B nm y] t)).alloc (.cells #[.slice P m.params.length p,int i64 m.ret.kind,int i64 m.ret.cls,int i64 m.stack,int i64 m.locs,int i64 m.regs,.slice C m.code.length c,.slice K m.hands.length k] t')) w.heap.size 0 nc nm A B x y
  /\ mz ((w.alloc (.cells #[.slice A nc x,.slice B nm y] t)).alloc (.cells #[.slice P m.params.length p,int i64 m.ret.kind,int i64 m.ret.cls,int i64 m.stack,int i64 m.locs,int i64 m.regs,.slice C m.code.length c,.slice K m.hands.length k] t')) (w.heap.size+1) 0 m P C K p c k:=by
 refine ⟨⟨?_,?_⟩,⟨?_,?_,?_,?_,?_,?_,?_,?_⟩⟩<;>simp
section
variable {nc:Nat} {m:Me} {most:Int}
theorem np (h:¬(m.params.length<=4/\m.hands.length<=8/\1<=m.code.length/\(m.code.length:Int)<=most)):ew nc m most=false:=by
 unfold ew;rw [decide_eq_false h];rfl
theorem DL {q:Nat} (hq:q<m.params.length) (h:fu nc (nth cN m.params q)=false):ew nc m most=false:=by
 unfold ew;rw [lS hq h];simp
theorem A7 {q:Nat} (hq:q<m.hands.length) (h:mX nc m.code.length (nth eD m.hands q)=false):ew nc m most=false:=by
 unfold ew;rw [lS hq h];simp
theorem A8 (h:m.params.length<=4/\m.hands.length<=8/\1<=m.code.length/\(m.code.length:Int)<=most) (hp:∀q,q<m.params.length->fu nc (nth cN m.params q)=true) (hh:∀q,q<m.hands.length->mX nc m.code.length (nth eD m.hands q)=true):ew nc m most=ng nc m.ret:=by
 unfold ew;rw [decide_eq_true h,jY hp,jY hh];simp
end
theorem kc (nc nm:Nat) (A B:Option Addr) (a b:Nat) (m:Me) (P C K:Option Addr) (p c k:Nat) (most:Int) (w:World) (hP:dp w P m.params) (hK:kQ w K m.hands) (eU:nc<=12) (aW:m.code.length<=maxLen) :
  Calls Tryz.prog 21 #[fU nc nm A B a b,iW m P C K p c k,int i64 most] w fun e w'=>e=.returned (.bool (ew nc m most))/\Bl w w':=by
 have HP:Hid (dp w P m.params):=hP
 have HK:Hid (kQ w K m.hands):=hK
 have Ia:=hP.1
 have Nz:=hK.1
 unfold maxLen at aW Ia Nz
 clear hP hK
 by_cases h1:4<m.params.length
 ·have hb:=np (nc:=nc) (m:=m) (most:=most) (by omega)
  rw [hb]
  go_enter Tryz.func21,Tryz.ntmps21
  go_wp2
  go_ret
  exact ⟨rfl,((Bl.refl _).alloc _).alloc _⟩
 by_cases h2:8<m.hands.length
 ·have hb:=np (nc:=nc) (m:=m) (most:=most) (by omega)
  rw [hb]
  go_enter Tryz.func21,Tryz.ntmps21
  go_wp2
  go_ret
  exact ⟨rfl,((Bl.refl _).alloc _).alloc _⟩
 by_cases h3:1<=(m.code.length:Int)/\(m.code.length:Int)<=most
 ·have HG:Hid ((∀q,q<m.params.length->fu nc (nth cN m.params q)=true)->(∀q,q<m.hands.length->mX nc m.code.length (nth eD m.hands q)=true)->ew nc m most=ng nc m.ret):=A8 (by omega)
  have QX:decide (1<=(m.code.length:Int)/\(m.code.length:Int)<=most)=true:=decide_eq_true h3
  obtain ⟨f0,m0⟩:=A5 w nc nm A B a b m P C K p c k 25 49
  have HF:Hid (gu _ w.heap.size 0 nc nm A B a b):=f0
  have HM:Hid (mz _ (w.heap.size+1) 0 m P C K p c k):=m0
  clear f0 m0
  go_enter Tryz.func21,Tryz.ntmps21
  go_wp2_with (go_at_call 20;refine (aE _ _ _ _).mono ?_;rintro e w' ⟨he,rfl⟩;rw [QX] at he;subst he)
  go_loopw [7] (fun i wr=>∃q:Nat,q<=m.params.length/\i=int i64 q/\Hid (∀j,j<q->fu nc (nth cN m.params j)=true)/\Hid (Bl w wr)/\Hid (gu wr w.heap.size 0 nc nm A B a b)/\Hid (mz wr (w.heap.size+1) 0 m P C K p c k)) (fun i _=>m.params.length-(intOf i).toNat)
  case atStart=>exact ⟨0,Nat.zero_le _,rfl,fun j hj=>absurd hj (Nat.not_lt_zero _),((Bl.refl _).alloc _).alloc _,HF,HM⟩
  case round =>
   clear HF HM
   obtain ⟨q,hq,rfl,mG,hg,HF,HM⟩:=hrel
   have LM:=HF.out.1
   have KI:=HM.out.1
   have Oa:=HM.out.2.2.2.2.2.2.2
   simp only [Nat.zero_add] at Oa
   by_cases eR:q<m.params.length
   ·have hty:=HP.out.bl hg.out
    rcases hty.2 with h0|⟨b',gj,rfl,hcell⟩
    ·omega
    obtain ⟨KE,N2,-,-⟩:=hcell q eR
    clear hty hcell
    have gf:=aU LM
    have gm:=aU KI
    have g1:=aU KE
    have g2:=aU N2
    clear Oa
    cases hT:fu nc (nth cN m.params q)
    ·have LJ:fu nc ⟨(nth cN m.params q).kind,(nth cN m.params q).cls⟩=false:=hT
     have HB:=DL (most:=most) eR hT
     clear hT HG
     go_wp2
     refine bh (by kernel_rfl) (by kernel_rfl) fun hne=>?_
     repeat (go_big_quiet_step ((go_at_call 49;exact Calls.fut_eq _ (iV _ _ _ _ _ _) (congrArg Value.bool LJ))))
     refine wpQuiet_nil ?_
     rintro _ ⟨⟨w2,eK⟩,rfl⟩
     go_wp2
     go_ret
     exact ⟨aj HB.symm,hg.out.trans eK⟩
    ·have LJ:fu nc ⟨(nth cN m.params q).kind,(nth cN m.params q).cls⟩=true:=hT
     have HT:Hid (fu nc (nth cN m.params q)=true):=hT
     clear hT HG
     go_wp2
     refine bh (by kernel_rfl) (by kernel_rfl) fun hne=>?_
     repeat (go_big_quiet_step ((go_at_call 49;exact Calls.fut_eq _ (iV _ _ _ _ _ _) (congrArg Value.bool LJ))))
     refine wpQuiet_nil ?_
     rintro _ ⟨⟨w2,eK⟩,rfl⟩
     go_wp2
     go_roundw
     case rel=>exact ⟨q+1,by omega,by go_num,fun j hj=>if h:j<q then mG.out j h else by have:j=q:=(by omega);subst this;exact HT.out,hg.out.trans eK,HF.out.bl eK,HM.out.bl eK⟩
     case measure=>simp [intOf];omega
   ·obtain rfl:q=m.params.length:=by omega
    have Tl:Hid ((∀q,q<m.hands.length->mX nc m.code.length (nth eD m.hands q)=true)->ew nc m most=ng nc m.ret):=HG.out mG.out
    clear HG mG eR hq
    go_wp2
    clear LM KI Oa
    go_loopw [8] (fun i wr=>∃q:Nat,q<=m.hands.length/\i=int i64 q/\Hid (∀j,j<q->mX nc m.code.length (nth eD m.hands j)=true)/\Hid (Bl w wr)/\Hid (gu wr w.heap.size 0 nc nm A B a b)/\Hid (mz wr (w.heap.size+1) 0 m P C K p c k)) (fun i _=>m.hands.length-(intOf i).toNat)
    case atStart=>exact ⟨0,Nat.zero_le _,rfl,fun j hj=>absurd hj (Nat.not_lt_zero _),hg,HF,HM⟩
    case round =>
     clear HF HM hg
     obtain ⟨q,hq,rfl,mG,hg,HF,HM⟩:=hrel
     have LM:=HF.out.1
     have DM:=HM.out.2.1
     have DN:=HM.out.2.2.1
     have P3:=HM.out.2.2.2.2.2.2.1
     have Oa:=HM.out.2.2.2.2.2.2.2
     simp only [Nat.zero_add] at DM DN P3 Oa
     by_cases eR:q<m.hands.length
     ·have hty:=HK.out.bl hg.out
      rcases hty.2 with h0|⟨b',gj,rfl,hcell⟩
      ·omega
      obtain ⟨g0,g1,g2,g3,-⟩:=hcell q eR
      clear hty hcell DM DN
      have HB:Hid (mX nc m.code.length (nth eD m.hands q)=false->ew nc m most=false):=A7 eR
      have HD:Hid (mX nc m.code.length (nth eD m.hands q)=decide (0<=(nth eD m.hands q).fr/\(nth eD m.hands q).fr<(nth eD m.hands q).til/\(nth eD m.hands q).til<=m.code.length/\0<=(nth eD m.hands q).pc/\(nth eD m.hands q).pc<m.code.length/\0<=(nth eD m.hands q).cls/\(nth eD m.hands q).cls<nc)):=rfl
      generalize hX:nth eD m.hands q=X at *
      have Tm:∀o,(wr.alloc o).cell? ⟨w.heap.size,0,none⟩=some (.slice A nc a):=fun o=>((Bl.refl wr).alloc o).cell LM
      have Vc:∀o,(wr.alloc o).cell? ⟨w.heap.size+1,6,none⟩=some (.slice C m.code.length c):=fun o=>((Bl.refl wr).alloc o).cell P3
      by_cases t1:X.fr<0
      ·have yi:Hid (ew nc m most=false):=HB.out (HD.out.trans (decide_eq_false (by omega)))
       go_wp2
       go_ret
       exact ⟨aj yi.out.symm,hg.out.alloc _⟩
      by_cases t2:X.til<=X.fr
      ·have yi:Hid (ew nc m most=false):=HB.out (HD.out.trans (decide_eq_false (by omega)))
       go_wp2
       go_ret
       exact ⟨aj yi.out.symm,hg.out.alloc _⟩
      by_cases t3:(m.code.length:Int)<X.til
      ·have yi:Hid (ew nc m most=false):=HB.out (HD.out.trans (decide_eq_false (by omega)))
       go_wp2
       go_ret
       exact ⟨aj yi.out.symm,hg.out.alloc _⟩
      by_cases t4:0<=X.pc/\X.pc<=(m.code.length:Int)-1
      ·have d4:decide (0<=X.pc/\X.pc<=(m.code.length:Int)-1)=true:=decide_eq_true t4
       by_cases t5:0<=X.cls/\X.cls<=(nc:Int)-1
       ·have d5:decide (0<=X.cls/\X.cls<=(nc:Int)-1)=true:=decide_eq_true t5
        have HT:Hid (mX nc m.code.length X=true):=HD.out.trans (decide_eq_true (by omega))
        go_wp2_with (go_at_call 20;refine (aE _ _ _ _).mono ?_;rintro e w' ⟨he,rfl⟩;(first|rw [d4] at he|rw [d5] at he);subst he)
        go_roundw
        case rel=>exact ⟨q+1,by omega,by go_num,fun j hj=>if h:j<q then mG.out j h else by have:j=q:=(by omega);subst this;rw [hX];exact HT.out,hg.out.alloc _,HF.out.bl ((Bl.refl _).alloc _),HM.out.bl ((Bl.refl _).alloc _)⟩
        case measure=>simp [intOf];omega
       ·have d5:decide (0<=X.cls/\X.cls<=(nc:Int)-1)=false:=decide_eq_false t5
        have yi:Hid (ew nc m most=false):=HB.out (HD.out.trans (decide_eq_false (by omega)))
        go_wp2_with (go_at_call 20;refine (aE _ _ _ _).mono ?_;rintro e w' ⟨he,rfl⟩;(first|rw [d4] at he|rw [d5] at he);subst he)
        go_ret
        exact ⟨aj yi.out.symm,hg.out.alloc _⟩
      ·have d4:decide (0<=X.pc/\X.pc<=(m.code.length:Int)-1)=false:=decide_eq_false t4
       have yi:Hid (ew nc m most=false):=HB.out (HD.out.trans (decide_eq_false (by omega)))
       go_wp2_with (go_at_call 20;refine (aE _ _ _ _).mono ?_;rintro e w' ⟨he,rfl⟩;rw [d4] at he;subst he)
       go_ret
       exact ⟨aj yi.out.symm,hg.out.alloc _⟩
     ·obtain rfl:q=m.hands.length:=by omega
      have QY:Hid (ew nc m most=(decide (m.ret.kind=0/\m.ret.cls=0)||fu nc ⟨m.ret.kind,m.ret.cls⟩)):=Tl.out mG.out
      clear Tl mG eR hq
      by_cases t1:m.ret.kind=0
      ·by_cases t2:m.ret.cls=0
       ·have yi:ew nc m most=true:=QY.out.trans (by rw [decide_eq_true ⟨t1,t2⟩];rfl)
        rw [t1] at DM
        rw [t2] at DN
        clear t1 t2
        go_wp2
        go_ret
        exact ⟨aj yi.symm,hg.out⟩
       ·have yi:Hid (ew nc m most=fu nc ⟨m.ret.kind,m.ret.cls⟩):=QY.out.trans (by rw [decide_eq_false (by omega)];rfl)
        have XY:(m.ret.cls==0)=false:=by simpa using t2
        have vm:Hid (m.ret.kind=0):=t1
        rw [t1] at DM
        clear t1 t2
        go_wp2_with (go_at_call 49;refine (iV _ _ _ _ _ _).mono ?_;rintro e w' ⟨rfl,gE⟩)
        go_ret
        exact ⟨aj (by rw [yi.out,vm.out]),hg.out.trans gE⟩
      ·have yi:Hid (ew nc m most=fu nc ⟨m.ret.kind,m.ret.cls⟩):=QY.out.trans (by rw [decide_eq_false (by omega)];rfl)
       have P4:(m.ret.kind==0)=false:=by simpa using t1
       clear t1
       go_wp2_with (go_at_call 49;refine (iV _ _ _ _ _ _).mono ?_;rintro e w' ⟨rfl,gE⟩)
       go_ret
       exact ⟨aj yi.out.symm,hg.out.trans gE⟩
 ·have hb:=np (nc:=nc) (m:=m) (most:=most) (by omega)
  rw [hb]
  have QX:decide (1<=(m.code.length:Int)/\(m.code.length:Int)<=most)=false:=decide_eq_false h3
  go_enter Tryz.func21,Tryz.ntmps21
  go_wp2_with (go_at_call 20;refine (aE _ _ _ _).mono ?_;rintro e w' ⟨he,rfl⟩;rw [QX] at he;subst he)
  go_ret
  exact ⟨rfl,((Bl.refl _).alloc _).alloc _⟩
theorem DP {α:Type} {d:α} {l:List α} {n i:Nat} (h:i<n):nth d (l.take n) i=nth d l i:=by simp [nth,List.getD,List.getElem?_take,h]
theorem vU {α:Type} {d:α} {l:List α} {n i:Nat}:nth d (l.drop n) i=nth d l (n+i):=by simp [nth,List.getD,List.getElem?_drop]
structure iO (h:Hp) (v:Va):Prop where
 ref:v.kind=3->-1<=v.n/\v.n<h.objs.length
 num:cP v.n
theorem lj (h:Hp):iO h ag:=⟨fun e=>absurd e (by decide),by unfold cP;decide⟩
theorem gV {i:Nat} (hk:k<=c.stk.length) (hi:i<k):nth ag (c.top k) i∈c.stk:=by
 have e:c.top k=c.stk.drop (c.stk.length-k):=by unfold aH.top;rw [if_pos hk]
 rw [e,vU]
 exact bJ (by omega)
theorem yj (h:k<=c.stk.length):c.has k=true:=decide_eq_true h
theorem cG (hk:k<=c.stk.length):h.must (c.has k)=h:=by unfold Hp.must;rw [if_pos (yj hk)]
theorem cR (hk:¬k<=c.stk.length):h.must (c.has k)=h.fin 6:=by unfold Hp.must aH.has;rw [if_neg (by simpa using hk)]
theorem fJ (hk:¬k<=c.stk.length):c.cut k=c:=by unfold aH.cut;rw [if_neg hk]
theorem cC (ho:h.over=false):(h.fin 6).over=true:=by simp [Hp.fin,ho]
structure vV (cs:List Cl) (nm iK:Nat) (locs:Int) (i:In):Prop where
 op:1<=i.op/\i.op<=25
 slot:i.op=4∨i.op=5->0<=i.a/\i.a<locs/\(i.b=2->i.a+1<locs)/\i.b≠0
 kind:i.op=4∨i.op=5->1<=i.b/\i.b<=3
 fld:i.op=15∨i.op=16->0<=i.a/\i.a<cs.length/\0<=i.b/\i.b<(nth cg cs i.a.toNat).fields.length
 cls:i.op=14∨i.op=17∨i.op=18->0<=i.a/\i.a<cs.length
 call:i.op=19->0<=i.a/\i.a<nm
 jump:i.op=11∨i.op=12∨i.op=13->0<=i.a/\i.a<iK
theorem LN {cs:List Cl} {iK:Nat} {locs:Int} {i:In} (h:bE cs nm iK locs i=true):vV cs nm iK locs i:=by
 unfold bE at h
 rw [Bool.and_eq_true] at h
 obtain ⟨-,h⟩:=h
 by_cases h1:i.op=1
 ·constructor<;>(intros;omega)
 rw [if_neg h1] at h
 by_cases h2:i.op=2
 ·constructor<;>(intros;omega)
 rw [if_neg h2,Bool.and_eq_true] at h
 obtain ⟨-,h⟩:=h
 by_cases h4:i.op=4∨i.op=5
 ·rw [if_pos h4] at h
  have h:=of_decide_eq_true h
  constructor<;>(intros;omega)
 rw [if_neg h4] at h
 by_cases pQ:i.op=12
 ·rw [if_pos pQ] at h
  have h:=of_decide_eq_true h
  constructor<;>(intros;omega)
 rw [if_neg pQ] at h
 by_cases G0:i.op=15∨i.op=16
 ·rw [if_pos G0] at h
  have h:=of_decide_eq_true h
  constructor<;>(intros;first|omega|exact h)
 rw [if_neg G0,Bool.and_eq_true] at h
 obtain ⟨-,h⟩:=h
 by_cases ha:i.op=3∨i.op=8∨i.op=9∨i.op=10∨i.op=20∨i.op=21∨i.op=22∨i.op=23∨i.op=25
 ·constructor<;>(intros;omega)
 rw [if_neg ha] at h
 by_cases h6:i.op=6∨i.op=7
 ·constructor<;>(intros;omega)
 rw [if_neg h6] at h
 by_cases G3:i.op=11∨i.op=13
 ·rw [if_pos G3] at h
  have h:=of_decide_eq_true h
  constructor<;>(intros;omega)
 rw [if_neg G3] at h
 by_cases DQ:i.op=14∨i.op=17∨i.op=18
 ·rw [if_pos DQ] at h
  have h:=of_decide_eq_true h
  constructor<;>(intros;omega)
 rw [if_neg DQ] at h
 by_cases pn:i.op=19
 ·rw [if_pos pn] at h
  have h:=of_decide_eq_true h
  constructor<;>(intros;omega)
 rw [if_neg pn] at h
 by_cases LO:i.op=24
 ·constructor<;>(intros;omega)
 rw [if_neg LO] at h
 simp at h
theorem pZ (hk:¬k<=c.stk.length):c.top k=List.replicate k ag:=by unfold aH.top;rw [if_neg hk]
theorem nr (a:Int):cP (wrap64 a):=by have:=LG a;unfold cP;omega
theorem pD (a:Int):cP (wrap32 a):=by have:=x9 a;unfold cP;omega
theorem DR (a b:Int) (ha:cP a):cP (a.tmod b):=by
 have h1:(a.tmod b).natAbs=a.natAbs%b.natAbs:=Int.natAbs_tmod a b
 have h2:a.natAbs%b.natAbs<=a.natAbs:=Nat.mod_le _ _
 have h3:=ru a b
 unfold cP at *
 omega
theorem Ib (op a b:Int) (ha:cP a):cP (dF op a b):=by
 have h0:cP 0:=by unfold cP;omega
 unfold dF
 split
 ·exact nr _
 split
 ·exact nr _
 split
 ·exact nr _
 split
 ·split
  ·exact h0
  ·exact nr _
 split
 ·split
  ·exact h0
  ·exact DR a b ha
 split
 ·exact nr _
 ·exact h0
structure Le (h h':Hp):Prop where
 file:h'.file=h.file
 input:h'.input=h.input
 fuel:h'.fuel=h.fuel
 objs:h.objs.length<=h'.objs.length
 steps:h.sh.steps<=h'.sh.steps
 calls:h'.calls=h.calls
theorem Le.refl (h:Hp):Le h h:=⟨rfl,rfl,rfl,Nat.le_refl _,Int.le_refl _,rfl⟩
theorem Le.trans {a b c:Hp} (h:Le a b) (k:Le b c):Le a c:=⟨k.file.trans h.file,k.input.trans h.input,k.fuel.trans h.fuel,Nat.le_trans h.objs k.objs,Int.le_trans h.steps k.steps,k.calls.trans h.calls⟩
theorem iO.le (g:iO h v) (l:Le h h'):iO h' v:=⟨fun e=>⟨(g.ref e).1,by have:=(g.ref e).2;have:=l.objs;omega⟩,g.num⟩
structure Gh (s:Nat) (h:Hp):Prop where
 held:∀o∈h.objs,∀x∈o.held,iO h x.v
 thr:-1<=h.thrown/\h.thrown<h.objs.length
 used:0<=h.sh.used
 steps:h.sh.steps<=h.fuel
 fuel:0<=h.fuel/\h.fuel<=60000
 out:(h.sh.out.length:Int)+s<=h.sh.steps
 len:h.objs.length<=100
 inp:∀n∈h.input,cP n
 calls:0<=h.calls/\h.calls<=20
theorem Gh.same (g:Gh s h) (e1:h'.objs=h.objs) (e2:h'.sh.used=h.sh.used) (e3:h'.sh.steps=h.sh.steps) (e4:h'.fuel=h.fuel) (e5:h'.sh.out=h.sh.out) (e6:h'.input=h.input) (e7:h'.calls=h.calls) (ht:-1<=h'.thrown/\h'.thrown<h'.objs.length):Gh s h' :=
 ⟨fun o ho x hx=>⟨fun e=>by rw [e1];exact (g.held o (e1▸ho) x hx).ref e,(g.held o (e1▸ho) x hx).num⟩,ht,by rw [e2];exact g.used,by rw [e3,e4];exact g.steps,by rw [e4];exact g.fuel,by rw [e5,e3];exact g.out,by rw [e1];exact g.len,by rw [e6];exact g.inp,by rw [e7];exact g.calls⟩
theorem Gh.less (g:Gh s h):Gh 0 h:=⟨g.held,g.thr,g.used,g.steps,g.fuel,by have:=g.out;omega,g.len,g.inp,g.calls⟩
theorem gw (h:Hp) (e:Int):Le h (h.fin e):=by unfold Hp.fin;split<;>exact ⟨rfl,rfl,rfl,Nat.le_refl _,Int.le_refl _,rfl⟩
theorem Gh.fin (g:Gh s h) (e:Int):Gh s (h.fin e):=by
 unfold Hp.fin;split
 ·exact g
 ·exact g.same rfl rfl rfl rfl rfl rfl rfl g.thr
theorem a8 (h:Hp) (b:Bool):Le h (h.must b):=by unfold Hp.must;split;exact Le.refl h;exact gw h 6
theorem Gh.must (g:Gh s h) (b:Bool):Gh s (h.must b):=by unfold Hp.must;split;exact g;exact g.fin 6
theorem Ic (h:Hp) (t:Ty):iO h (jc t):=by
 unfold jc
 refine ⟨fun e=>?_,?_⟩
 ·dsimp only at e ⊢;rw [if_pos e];omega
 ·dsimp only;split<;>(unfold cP;omega)
theorem yk (h:Hp) (cs:List Cl) (c:Nat):∀x∈dA cs c,iO h x.v:=by
 intro x hx
 unfold dA at hx
 rw [List.mem_flatMap] at hx
 obtain ⟨d,-,hd⟩:=hx
 unfold iA at hd
 split at hd
 ·rw [List.mem_map] at hd
  obtain ⟨k,-,rfl⟩:=hd
  exact Ic h _
 ·simp at hd
theorem yl (h:Hp) (c:Int):Le h (h.new c):=by
 unfold Hp.new;split
 ·exact gw h 4
 ·exact ⟨rfl,rfl,rfl,by simp,Int.le_refl _,rfl⟩
theorem Gh.new (g:Gh s h) (c:Int):Gh s (h.new c):=by
 have hle:=yl h c
 unfold Hp.new at hle ⊢;split
 ·exact g.fin 4
 ·rename_i hf
  have hlt:h.objs.length<100:=by unfold Hp.full at hf;simpa using hf
  rw [if_neg hf] at hle
  refine ⟨fun o ho x hx=>?_,?_,g.used,g.steps,g.fuel,g.out,?_,g.inp,g.calls⟩
  ·rw [List.mem_append] at ho
   rcases ho with ho|ho
   ·exact (g.held o ho x hx).le hle
   ·simp at ho;subst ho;exact yk _ _ _ x hx
  ·have:=g.thr;dsimp only;rw [List.length_append];omega
  ·dsimp only;rw [List.length_append];simp;omega
theorem Ie (h:Hp) (c:Int):iO (h.new c) h.newV:=by
 unfold Hp.newV Hp.new
 split
 ·exact lj _
 ·refine ⟨fun _=>by dsimp only;rw [List.length_append];simp;omega,?_⟩
  rename_i hf
  have hlt:h.objs.length<100:=by unfold Hp.full at hf;simpa using hf
  dsimp only;unfold cP;omega
theorem ny (h:Hp) (c:Int):Le h (h.raise c):=by
 have:=yl h c
 unfold Hp.raise;split
 ·exact this
 ·exact ⟨this.file,this.input,this.fuel,this.objs,this.steps,this.calls⟩
theorem Gh.raise (g:Gh s h) (c:Int):Gh s (h.raise c):=by
 have gn:=g.new c
 unfold Hp.raise;split
 ·exact gn
 ·rename_i ho
  refine gn.same rfl rfl rfl rfl rfl rfl rfl ?_
  dsimp only
  have hf:¬h.full=true:=fun hf=>ho (by unfold Hp.new;rw [if_pos hf];unfold Hp.fin;split<;>simp_all)
  unfold Hp.newV Hp.new
  rw [if_neg hf,if_neg hf]
  dsimp only
  rw [List.length_append]
  simp
  omega
theorem vW (h:Hp) (v:Va):Le h (h.throw v):=by
 unfold Hp.throw;split
 ·split
  ·exact ny h 1
  ·exact ⟨rfl,rfl,rfl,Nat.le_refl _,Int.le_refl _,rfl⟩
 ·exact a8 h _
theorem Gh.throw (g:Gh s h) (v:Va) (hv:iO h v):Gh s (h.throw v):=by
 unfold Hp.throw;split
 ·rename_i hm
  split
  ·exact g.raise 1
  ·rename_i hn
   have hk:v.kind=3:=by have:=(dX hm).1;unfold isRef at this;exact of_decide_eq_true this
   exact g.same rfl rfl rfl rfl rfl rfl rfl ⟨by dsimp only;omega,(hv.ref hk).2⟩
 ·exact g.must _
theorem ll (h:Hp) (r:Va) (c:Int):Le h (h.findH r c):=by
 unfold Hp.findH;split
 ·split
  ·exact ny h 1
  ·exact Le.refl h
 ·exact a8 h _
theorem Gh.findH (g:Gh s h) (r:Va) (c:Int):Gh s (h.findH r c):=by
 unfold Hp.findH;split
 ·split
  ·exact g.raise 1
  ·exact g
 ·exact g.must _
theorem Ig (g:Gh s h) (r:Va) (c k:Int) (hr:iO h r):iO h (h.getV r c k):=by
 unfold Hp.getV;split
 ·exact lj h
 ·rename_i hn
  obtain ⟨q,hq⟩:∃q:Nat,h.findN r c k=q:=⟨(h.findN r c k).toNat,by omega⟩
  have hk:h.mustB (h.of r ⟨3,c⟩)=true:=by
   by_cases hm:h.mustB (h.of r ⟨3,c⟩)=true
   ·exact hm
   ·unfold Hp.findN at hq;rw [if_neg hm] at hq;omega
  have h3:r.kind=3:=mF (dX hk).1
  have kV:¬r.n<0:=fun hh=>by unfold Hp.findN at hq;rw [if_pos hk,if_pos hh] at hq;omega
  have he:fI (h.obj r.n).held c k=q:=by unfold Hp.findN at hq;rw [if_pos hk,if_neg kV] at hq;exact hq
  have hlt:q<(h.obj r.n).held.length:=by
   rcases r9 (h.obj r.n).held c k with h0|⟨q',h1,h2⟩
   ·omega
   ·omega
  have vX:r.n.toNat<h.objs.length:=by have:=(hr.ref h3).2;omega
  rw [hq,Int.toNat_natCast]
  exact g.held _ (bJ vX) _ (bJ hlt)
theorem DS (h:Hp) (r:Va) (c k:Int) (v:Va):Le h (h.put r c k v):=by
 unfold Hp.put;split
 ·split
  ·exact ll h r c
  ·have:=ll h r c
   exact ⟨this.file,this.input,this.fuel,by unfold Hp.setV;dsimp only;rw [List.length_set];exact this.objs,this.steps,this.calls⟩
 ·exact a8 h _
theorem fM {α:Type} {l:List α} {n:Nat} {x y:α} (h:y∈l.set n x):y=x∨y∈l:=by
 rcases List.mem_or_eq_of_mem_set h with h|h
 ·exact Or.inr h
 ·exact Or.inl h
theorem Gh.put (g:Gh s h) (r:Va) (c k:Int) (v:Va) (hv:iO h v):Gh s (h.put r c k v):=by
 unfold Hp.put;split
 ·split
  ·exact g.findH r c
  ·have gf:=g.findH r c
   have gv:=hv.le (ll h r c)
   generalize h.findH r c=h1 at gf gv
   generalize r.n.toNat=n
   generalize (h.findN r c k).toNat=j
   refine ⟨fun o ho x hx=>?_,?_,gf.used,gf.steps,gf.fuel,gf.out,?_,gf.inp,gf.calls⟩
   ·have key:iO h1 x.v:=by
     unfold Hp.setV at ho
     dsimp only at ho
     by_cases hn:n<h1.objs.length
     ·rcases fM ho with rfl|ho
      ·dsimp only at hx
       rcases fM hx with rfl|hx
       ·exact gv
       ·exact gf.held _ (bJ hn) x hx
      ·exact gf.held o ho x hx
     ·rw [List.set_eq_of_length_le (by omega)] at ho;exact gf.held o ho x hx
    exact ⟨fun e=>by unfold Hp.setV;dsimp only;rw [List.length_set];exact key.ref e,key.num⟩
   ·have:=gf.thr;unfold Hp.setV;dsimp only;rw [List.length_set];exact this
   ·unfold Hp.setV;dsimp only;rw [List.length_set];exact gf.len
 ·exact g.must _
theorem zC (h:Hp) (v:Va) (c:Int):Le h (h.cast v c):=by
 unfold Hp.cast;split
 ·split
  ·exact Le.refl h
  ·exact ny h 3
 ·exact a8 h _
theorem Gh.cast (g:Gh s h) (v:Va) (c:Int):Gh s (h.cast v c):=by
 unfold Hp.cast;split
 ·split
  ·exact g
  ·exact g.raise 3
 ·exact g.must _
theorem zD (h:Hp) (v:Va) (k:Int):Le h (h.emit v k):=by
 unfold Hp.emit;split
 ·exact ⟨rfl,rfl,rfl,Nat.le_refl _,Int.le_refl _,rfl⟩
 ·exact a8 h _
theorem Gh.emit (g:Gh 1 h) (v:Va) (k:Int):Gh 0 (h.emit v k):=by
 unfold Hp.emit;split
 ·refine ⟨(fun o ho x hx=>⟨(g.held o ho x hx).ref,(g.held o ho x hx).num⟩),g.thr,g.used,g.steps,g.fuel,?_,g.len,g.inp,g.calls⟩
  have:=g.out;dsimp only;rw [List.length_append];simp;omega
 ·exact (g.must _).less
theorem vY (h:Hp):Le h h.input':=by
 unfold Hp.input';split
 ·exact gw h 3
 ·exact ⟨rfl,rfl,rfl,Nat.le_refl _,Int.le_refl _,rfl⟩
theorem Gh.input (g:Gh s h):Gh s h.input':=by
 unfold Hp.input';split
 ·exact g.fin 3
 ·exact ⟨(fun o ho x hx=>⟨(g.held o ho x hx).ref,(g.held o ho x hx).num⟩),g.thr,by have:=g.used;dsimp only;omega,g.steps,g.fuel,g.out,g.len,g.inp,g.calls⟩
theorem LQ (g:Gh s h):iO h h.inV:=by
 unfold Hp.inV;split
 ·exact lj h
 ·rename_i hd
  refine ⟨fun e=>by dsimp only at e;omega,?_⟩
  dsimp only
  have hu:=g.used
  have hlt:h.sh.used.toNat<h.input.length:=by unfold Hp.dry at hd;simp at hd;omega
  exact g.inp _ (bJ hlt)
theorem vZ (h:Hp) (a b:Va) (k op:Int):Le h (h.reckH a b k op):=by
 unfold Hp.reckH;split
 ·split
  ·exact Le.refl h
  ·exact ny h 2
 ·exact a8 h _
theorem Gh.reckH (g:Gh s h) (a b:Va) (k op:Int):Gh s (h.reckH a b k op):=by
 unfold Hp.reckH;split
 ·split
  ·exact g
  ·exact g.raise 2
 ·exact g.must _
theorem vu (h h':Hp) (a b:Va) (k op:Int) (hk:k=1∨k=2) (ha:cP a.n):iO h' (h.reckV a b k op):=by
 unfold Hp.reckV;split
 ·refine ⟨fun e=>by dsimp only at e;omega,?_⟩
  dsimp only;unfold j7;split
  ·exact pD _
  ·exact Ib _ _ _ ha
 ·exact lj _
theorem dr (h:Hp) (c:aH) (v:Va):Le h (h.putH c v):=by
 unfold Hp.putH;split
 ·exact Le.refl h
 ·exact a8 h _
theorem Gh.putH (g:Gh s h) (c:aH) (v:Va):Gh s (h.putH c v):=by
 unfold Hp.putH;split
 ·exact g
 ·exact g.must _
theorem jI (h:Hp):Le h h.step:=by
 unfold Hp.step;split
 ·exact Le.refl h
 ·split
  ·exact gw h 0
  ·exact ⟨rfl,rfl,rfl,Nat.le_refl _,by dsimp only;omega,rfl⟩
theorem Gh.step (g:Gh 0 h) (hb:h.stepB=true):Gh 1 h.step:=by
 unfold Hp.stepB at hb
 simp at hb
 unfold Hp.step
 rw [if_neg (by rw [hb.1];decide),if_neg (by omega)]
 exact ⟨(fun o ho x hx=>⟨(g.held o ho x hx).ref,(g.held o ho x hx).num⟩),g.thr,g.used,by dsimp only;omega,g.fuel,by have:=g.out;dsimp only;omega,g.len,g.inp,g.calls⟩
theorem Gh.step0 (g:Gh 0 h) (hb:h.stepB=false):Gh 0 h.step:=by
 unfold Hp.stepB at hb
 unfold Hp.step;split
 ·exact g
 ·rename_i ho
  split
  ·exact g.fin 0
  ·rename_i hf
   have:h.over=false:=by simpa using ho
   rw [this] at hb
   simp at hb
   omega
structure Gc (h:Hp) (c:aH):Prop where
 stk:∀v∈c.stk,iO h v
 locs:∀v∈c.locs,iO h v
 ok:gY c.locs
 room:(aQ c.stk:Int)<=c.m.stack
 len:(c.locs.length:Int)=c.m.locs
 me:fw h.file.classes h.file.methods.length c.m=true
 mok:∀i∈c.m.code,i.ok
theorem zE (l:List Va):l.length<=aQ l:=by
 induction l with
 | nil=>simp [aQ]
 | cons t l ih=>simp only [aQ,List.length_cons];split<;>omega
theorem jJ (l k:List Va):aQ (l++k)=aQ l+aQ k:=by
 induction l with
 | nil=>simp [aQ]
 | cons t l ih=>simp only [aQ,List.cons_append,ih];omega
theorem jK (l:List Va) (n:Nat):aQ (l.take n)<=aQ l:=by
 have:=jJ (l.take n) (l.drop n)
 rw [List.take_append_drop] at this
 omega
theorem jh {cs:List Cl} {m:Me} (h:fw cs nm m=true):0<=m.stack/\m.stack<=30/\(bZ m.params:Int)<=m.locs/\m.locs<=60/\m.params.length<=4/\1<=m.code.length/\m.code.length<=400/\(∀i∈m.code,bE cs nm m.code.length m.locs i=true)/\(∀t∈m.params,fu cs.length t=true)/\(∀x∈m.hands,mX cs.length m.code.length x=true)/\ng cs.length m.ret=true:=by
 unfold fw ew at h
 simp only [Bool.and_eq_true,List.all_eq_true,decide_eq_true_eq] at h
 obtain ⟨⟨⟨⟨⟨h1,h2⟩,h3⟩,h4⟩,h5⟩,h6⟩:=h
 exact ⟨by omega,by omega,by omega,by omega,by omega,by omega,by omega,h6,h2,h3,h4⟩
theorem Gc.le (g:Gc h c) (l:Le h h'):Gc h' c :=
 ⟨fun v hv=>(g.stk v hv).le l,fun v hv=>(g.locs v hv).le l,g.ok,g.room,g.len,by rw [l.file];exact g.me,g.mok⟩
section
variable {h:Hp} {c:aH}
theorem Gc.short (g:Gc h c):c.stk.length<=30:=by
 have h1:=zE c.stk
 have h2:=(jh g.me).2.1
 have h3:=g.room
 omega
theorem Gc.cut (g:Gc h c) (k:Nat):Gc h (c.cut k):=by
 unfold aH.cut;split
 ·refine ⟨fun v hv=>g.stk v (List.mem_of_mem_take hv),g.locs,g.ok,?_,g.len,g.me,g.mok⟩
  have:=jK c.stk (c.stk.length-k)
  have:=g.room
  dsimp only;omega
 ·exact g
theorem Gc.pc (g:Gc h c) (n:Int):Gc h { c with pc:=n }:=⟨g.stk,g.locs,g.ok,g.room,g.len,g.me,g.mok⟩
theorem Gc.put (g:Gc h c) (hv:iO h v) (hr:(aQ (c.stk++[v]):Int)<=c.m.stack):Gc h (c.put v):=by
 refine ⟨fun x hx=>?_,g.locs,g.ok,hr,g.len,g.me,g.mok⟩
 unfold aH.put at hx
 rw [List.mem_append] at hx
 rcases hx with hx|hx
 ·exact g.stk x hx
 ·simp at hx;subst hx;exact hv
theorem A9 (ho:(h.putH c v).over=false) (hs:h.stops=false):(aQ (c.stk++[v]):Int)<=c.m.stack:=by
 unfold Hp.putH at ho
 rw [if_neg (by rw [hs];decide)] at ho
 unfold Hp.must at ho
 split at ho
 ·rename_i hd;exact of_decide_eq_true hd
 ·rename_i hd
  unfold Hp.stops at hs
  simp at hs
  simp [Hp.fin,hs.1] at ho
end
theorem ln (h:Hp) (c:aH) (v:Va):(h.putH c v).thrown=h.thrown:=by
 unfold Hp.putH;split
 ·rfl
 ·unfold Hp.must;split
  ·rfl
  ·unfold Hp.fin;split<;>rfl
theorem ym (h:Hp) (e:Int):(h.fin e).thrown=h.thrown:=by unfold Hp.fin;split<;>rfl
theorem jL (h:Hp) (b:Bool):(h.must b).thrown=h.thrown:=by unfold Hp.must;split;rfl;exact ym h 6
theorem zF {b:Bool} (ho:(h.must b).over=false):b=true/\h.over=false:=by
 unfold Hp.must at ho;split at ho
 ·rename_i hb;exact ⟨hb,ho⟩
 ·unfold Hp.fin at ho;split at ho
  ·rename_i h1;rw [h1] at ho;cases ho
  ·simp at ho
section
variable {l:List Va}
theorem ob (h:gY l) (i:Nat) (v:Va) (h9:v.kind≠9) (h2:v.kind≠2):gY (l.set i v):=by
 have key:∀j,j<l.length->nth ag (l.set i v) j=v∨nth ag (l.set i v) j=nth ag l j:=fun j hj=>by
  by_cases e:i=j
  ·subst e;exact Or.inl (eu hj)
  ·exact Or.inr (dY e)
 refine ⟨fun j hj hk=>?_,fun j hj hk=>?_⟩
 ·rw [List.length_set] at hj
  rcases key j hj with e|e
  ·rw [e] at hk;exact absurd hk h9
  ·rw [e] at hk;exact h.nine j hj hk
 ·rw [List.length_set] at hj ⊢
  rcases key j hj with e|e
  ·rw [e] at hk;exact absurd hk h2
  ·rw [e] at hk;exact h.two j hj hk
theorem yn (h:gY l) (a:Nat):gY (cF l a):=by
 have h0:(ag).kind≠9:=by decide
 have h1:(ag).kind≠2:=by decide
 unfold cF;split
 ·exact ob (ob h _ _ h0 h1) _ _ h0 h1
 ·split
  ·exact ob (ob h _ _ h0 h1) _ _ h0 h1
  ·exact ob h _ _ h0 h1
theorem DT (h:gY l) (a:Nat) (v:Va) (h9:v.kind≠9) (h2:v.kind=2->a+1<l.length):gY (eZ l a v):=by
 unfold eZ;split
 ·rename_i hk
  have hl:=h2 hk
  have h3:=yn (yn h a) (a+1)
  have hlen:(cF (cF l a) (a+1)).length=l.length:=by rw [fR,fR]
  generalize cF (cF l a) (a+1)=m at h3 hlen
  refine ⟨fun j hj Oc=>?_,fun j hj Od=>?_⟩
  ·rw [List.length_set,List.length_set] at hj
   by_cases e:a=j
   ·subst e;rw [eu (by rw [List.length_set];exact hj)] at Oc;exact absurd Oc h9
   ·rw [dY e] at Oc
    by_cases e2:a+1=j
    ·omega
    ·rw [dY e2] at Oc;exact h3.nine j hj Oc
  ·rw [List.length_set,List.length_set] at hj ⊢
   by_cases e:a=j
   ·omega
   ·rw [dY e] at Od
    by_cases e2:a+1=j
    ·subst e2;rw [eu hj] at Od;exact absurd Od (by decide)
    ·rw [dY e2] at Od;exact h3.two j hj Od
 ·rename_i hk
  exact ob (yn h a) a v h9 hk
theorem sY {a:Nat} {x:Va} (h:x∈cF l a):x=ag∨x∈l:=by
 unfold cF at h;split at h
 ·rcases fM h with h|h
  ·exact Or.inl h
  ·exact fM h
 ·split at h
  ·rcases fM h with h|h
   ·exact Or.inl h
   ·exact fM h
  ·exact fM h
end
theorem DU {l:List Va} (hl:∀x∈l,iO h x) (hv:iO h v) (a:Nat):∀x∈eZ l a v,iO h x:=by
 intro x hx
 have h0:=lj h
 have h9:iO h ⟨9,0⟩:=⟨fun e=>absurd e (by decide),by unfold cP;decide⟩
 unfold eZ at hx;split at hx
 ·rcases fM hx with rfl|hx
  ·exact hv
  rcases fM hx with rfl|hx
  ·exact h9
  rcases sY hx with rfl|hx
  ·exact h0
  rcases sY hx with rfl|hx
  ·exact h0
  exact hl x hx
 ·rcases fM hx with rfl|hx
  ·exact hv
  rcases sY hx with rfl|hx
  ·exact h0
  exact hl x hx
end Go.Proofs.YtgiiapenmjollaaGreat
