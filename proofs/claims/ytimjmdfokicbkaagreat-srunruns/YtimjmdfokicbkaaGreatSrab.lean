import Derived.Test.YtimjmdfokicbkaaGreatSraa
import Derived.BigQuiet
import Derived.Test.YtimjmdfokicbkaaGreatChecked
import Derived.WalkKit
import Derived.RowKit3
import Derived.Below
import Derived.Handy
namespace Go.Proofs.YtimjmdfokicbkaaGreat
set_option linter.unusedVariables false
set_option linter.unusedSimpArgs false
set_option maxHeartbeats 40000000
set_option maxRecDepth 100000
open Go.RowKit
open Go.Value (int)
open Go.IntKind (i64)
variable {args:Array Value} {c:aH} {h h':Hp} {i:In} {a:Int} {l:List Va} {m:Me} {b k nm s:Nat} {v:Va} {w:World}
structure pk (w:World) where
 to:World
 is:Bl w to
section
variable {P:Program}
theorem bg {id:Nat} {Q:Exit->Act->World->Prop} {a:Act} {l:List Oper} (hm:P.follows .mixedOrders=true) (hB:Region.lexB .any l.toArray=true) (h:Nonempty (pk w)->wpQuiet P l.toArray (fun w'=>∃x:pk w,w'=x.to) (fun a'=>∀w',(∃x:pk w,w'=x.to)->Q .normal a' w') l a):(Code.region id l.toArray true).wp P Q a w :=
 wp_region_quiet (C:=fun w'=>∃x:pk w,w'=x.to) hm hB ⟨⟨_,(Bl.refl w).drew⟩,rfl⟩ (by simpa using h ⟨⟨w,Bl.refl w⟩⟩)
theorem Calls.fut {f:FuncId} {v:Value} (x:pk w) (h:Calls P f args x.to fun e w'=>e=.returned v/\Bl x.to w'):Calls P f args x.to fun e w''=>e=.returned v/\∃y:pk w,w''=y.to :=
 h.mono fun _ w'' ⟨he,hb⟩=>⟨he,⟨w'',x.is.trans hb⟩,rfl⟩
theorem Calls.fut_same {f:FuncId} {v:Value} (x:pk w) (h:Calls P f args x.to fun e w'=>e=.returned v/\w'=x.to):Calls P f args x.to fun e w''=>e=.returned v/\∃y:pk w,w''=y.to :=
 h.mono fun _ _ ⟨he,hb⟩=>⟨he,x,hb⟩
theorem Calls.fut_eq {f:FuncId} {v v':Value} (x:pk w) (h:Calls P f args x.to fun e w'=>e=.returned v/\Bl x.to w') (hv:v=v'):Calls P f args x.to fun e w''=>e=.returned v'/\∃y:pk w,w''=y.to :=
 hv▸Calls.fut x h
theorem Calls.fut_same_eq {f:FuncId} {v v':Value} (x:pk w) (h:Calls P f args x.to fun e w'=>e=.returned v/\w'=x.to) (hv:v=v'):Calls P f args x.to fun e w''=>e=.returned v'/\∃y:pk w,w''=y.to :=
 hv▸Calls.fut_same x h
end
theorem aU {o:Nat} {v:Value} (h:w.cell? ⟨b,o,none⟩=some v) (x:pk w):x.to.cell? ⟨b,o,none⟩=some v:=x.is.cell h
theorem vO {k:IntKind} {b:Int} (h:a=b):Ending.returned (.int k a)=.returned (.int k b):=by rw [h]
theorem eF {k:IntKind} {b:Int} {x y:Bool} (h:a=b) (h':x=y):Ending.returned (.tuple #[.int k a,.bool x])=.returned (.tuple #[.int k b,.bool y]):=by rw [h,h']
theorem Oq {x y:Bool} (h:x=y):Ending.returned (.bool x)=.returned (.bool y):=by rw [h]
theorem vP (a b:Int) (w:World) :
  Calls Tryz.prog 170 #[int i64 a,int i64 b] w fun e w'=>e=.returned (int i64 (ma a b))/\w'=w:=by
 unfold ma
 by_cases h:a<b
 ·rw [if_pos h]
  go_enter Tryz.func170,Tryz.ntmps170
  go_wp2
  go_ret
  exact ⟨rfl,rfl⟩
 by_cases h':b<a
 ·rw [if_neg h,if_pos h']
  go_enter Tryz.func170,Tryz.ntmps170
  go_wp2
  go_ret
  exact ⟨rfl,rfl⟩
 ·rw [if_neg h,if_neg h']
  go_enter Tryz.func170,Tryz.ntmps170
  go_wp2
  go_ret
  exact ⟨rfl,rfl⟩
theorem Au (a:Int) (i:Nat) (hlo:-9223372036854775808≤a) (dQ:a≤9223372036854775807) :
  -9223372036854775808≤a/2 ^ i/\a/2 ^ i≤9223372036854775807:=by
 have hp:(0:Int)<2 ^ i:=Int.pow_pos (by omega)
 constructor
 ·rw [Int.le_ediv_iff_mul_le hp]
  have:(1:Int)≤2 ^ i:=by omega
  have:=Int.mul_le_mul_of_nonpos_left (a:=(-9223372036854775808:Int)) (by omega) this
  omega
 ·by_cases h:0≤a
  ·have:=Int.ediv_le_self (2 ^ i) h;omega
  ·have:=Int.ediv_neg_of_neg_of_pos (by omega:a<0) hp;omega
theorem DM (n:Int):(n.tmod 2 !=0)=decide (n%2=1):=by
 have:=KJ n
 by_cases h:n%2=1
 ·have h':n.tmod 2≠0:=by omega
  simp [h,h']
 ·have h':n.tmod 2=0:=by omega
  simp [h,h']
theorem Ic (a:Int) (k:Nat) (w:World) (hlo:-9223372036854775808≤a) (dQ:a≤9223372036854775807) (hk:k≤64) :
  Calls Tryz.prog 246 #[int i64 a,int i64 (k:Int)] w fun e w'=>e=.returned (.bool (fA a k))/\w'=w:=by
 go_enter Tryz.func246,Tryz.ntmps246
 go_wp2
 go_loop [0,5] (fun n i=>∃j:Nat,j≤k/\i=int i64 j/\n=int i64 (a/2 ^ j)) (fun _ i=>k-(intOf i).toNat)
 case atStart=>exact ⟨0,Nat.zero_le _,rfl,by simp⟩
 case round =>
  obtain ⟨j,hj,rfl,rfl⟩:=hrel
  have hb:=Au a j hlo dQ
  have hs:=sT a j
  have HS:Hid (a/2 ^ (j+1)=a/2 ^ j/2):=hs
  clear hs
  have Ot:Hid (fA a j=decide (a/2 ^ j%2=1)):=rfl
  obtain ⟨n,hn⟩:∃n,a/2 ^ j=n:=⟨_,rfl⟩
  rw [hn] at hb HS Ot
  simp only [hn]
  have ht:=KJ n
  have hh:=AU n
  by_cases hlt:j<k
  ·by_cases n7:n.tmod 2<0
   ·have h2:=ht.2.1 n7
    go_wp2
    go_round
    case rel=>exact ⟨j+1,by omega,by go_num,by rw [HS.out,<-hh,h2.2]⟩
    case measure=>simp [intOf];omega
   ·go_wp2
    go_round
    case rel=>exact ⟨j+1,by omega,by go_num,by rw [HS.out,<-hh,ht.1 (by omega)]⟩
    case measure=>simp [intOf];omega
  ·have:j=k:=by omega
   subst this
   go_wp2
   go_ret
   exact ⟨Oq (by rw [Ot.out,DM n]),rfl⟩
theorem A4 (f:Nat->Bool) (j:Nat):wrap64 (iv f (j+1):Nat)=if f j=true then wrap64 (wrap64 (iv f j:Nat)+wrap64 ((2:Int) ^ j)) else wrap64 (iv f j:Nat):=by
 by_cases h:f j=true
 ·rw [if_pos h,zx];simp [iv,h]
 ·rw [if_neg h];simp [iv,h]
theorem DN (j:Nat):wrap64 (wrap64 ((2:Int) ^ j)+wrap64 ((2:Int) ^ j))=wrap64 ((2:Int) ^ (j+1)):=by
 rw [zx,Int.pow_succ];congr 1;omega
theorem DP (op a b:Int) (w:World) (ho:op=6∨op=7∨op=8) (hlo:-9223372036854775808≤a) (dQ:a≤9223372036854775807) (pT:-9223372036854775808≤b) (pU:b≤9223372036854775807) :
  Calls Tryz.prog 237 #[int i64 op,int i64 a,int i64 b] w fun e w'=>e=.returned (int i64 (wrap64 (iv (fun i=>AW op (fA a i) (fA b i)) 64:Nat)))/\w'=w:=by
 go_enter Tryz.func237,Tryz.ntmps237
 go_wp2
 go_loop [7,8,9] (fun n p i=>∃j:Nat,j≤64/\i=int i64 j/\p=int i64 (wrap64 (2 ^ j))/\n=int i64 (wrap64 (iv (fun i=>AW op (fA a i) (fA b i)) j:Nat))) (fun _ _ i=>64-(intOf i).toNat)
 case atStart=>exact ⟨0,Nat.zero_le _,rfl,by simp [wrap64],by simp [iv,wrap64]⟩
 case round =>
  obtain ⟨j,hj,rfl,rfl,rfl⟩:=hrel
  have VM:Hid (wrap64 (wrap64 ((2:Int) ^ j)+wrap64 ((2:Int) ^ j))=wrap64 ((2:Int) ^ (j+1))):=DN j
  have HT:Hid (wrap64 (iv (fun i=>AW op (fA a i) (fA b i)) (j+1):Nat)=if AW op (fA a j) (fA b j)=true then wrap64 (wrap64 (iv (fun i=>AW op (fA a i) (fA b i)) j:Nat)+wrap64 ((2:Int) ^ j)) else wrap64 (iv (fun i=>AW op (fA a i) (fA b i)) j:Nat)):=A4 (fun i=>AW op (fA a i) (fA b i)) j
  by_cases hlt:j<64
  ·rcases ho with rfl|rfl|rfl<;>cases hx:fA a j<;>cases hy:fA b j
   all_goals
    go_wp2_with (go_at_call 246;refine (Ic _ _ _ (by omega) (by omega) (by omega)).mono ?_;rintro e w' ⟨rfl,rfl⟩)
    go_round
    case rel=>exact ⟨j+1,by omega,by go_num,by rw [<-VM.out],by rw [HT.out];simp [AW,hx,hy]⟩
    case measure=>simp [intOf];omega
  ·have:j=64:=by omega
   subst this
   go_wp2
   go_ret
   exact ⟨rfl,rfl⟩
theorem k8 (a:Int) (w:World) :
  Calls Tryz.prog 51 #[int i64 a] w fun e w'=>e=.returned (int i64 (wrap32 a))/\w'=w:=by
 have h:=x8 a
 have hb:=AR a
 by_cases h1:a.tmod 4294967296<0
 ·by_cases h2:a.tmod 4294967296+4294967296≥2147483648
  ·have HE:Hid (wrap32 a=a.tmod 4294967296+4294967296-4294967296):=h.1 h1 h2
   clear h
   go_enter Tryz.func51,Tryz.ntmps51
   go_wp2
   go_ret
   exact ⟨vO (by rw [HE.out];omega),rfl⟩
  ·have HE:Hid (wrap32 a=a.tmod 4294967296+4294967296):=h.2.1 h1 (by omega)
   clear h
   go_enter Tryz.func51,Tryz.ntmps51
   go_wp2
   go_ret
   exact ⟨vO (by rw [HE.out]),rfl⟩
 ·by_cases h2:a.tmod 4294967296≥2147483648
  ·have HE:Hid (wrap32 a=a.tmod 4294967296-4294967296):=h.2.2.1 (by omega) h2
   clear h
   go_enter Tryz.func51,Tryz.ntmps51
   go_wp2
   go_ret
   exact ⟨vO (by rw [HE.out]),rfl⟩
  ·have HE:Hid (wrap32 a=a.tmod 4294967296):=h.2.2.2 (by omega) (by omega)
   clear h
   go_enter Tryz.func51,Tryz.ntmps51
   go_wp2
   go_ret
   exact ⟨vO (by rw [HE.out]),rfl⟩
theorem oT (a:Int):wrap64 (-a)=wrap64 (a.tdiv (-1)):=by
 congr 1;rw [Int.tdiv_neg,Int.tdiv_one]
theorem LY (a b:Int) (h:-9223372036854775808≤a) (h':a≤9223372036854775807):wrap64 (a-wrap64 (wrap64 (a.tdiv b)*b))=a.tmod b:=by
 have h1:=gV a b
 have h2:=Hn a b h h'
 rw [zy]
 have h3:a-a.tdiv b*b=a.tmod b:=by omega
 have h4:wrap64 (a-wrap64 (a.tdiv b*b))=wrap64 (a-a.tdiv b*b):=by
  generalize a.tdiv b*b=x;unfold wrap64;omega
 rw [h4,h3,Dw h2.1 h2.2]
theorem j7 (op a b:Int) (w:World) (hlo:-9223372036854775808≤a) (dQ:a≤9223372036854775807) (pT:-9223372036854775808≤b) (pU:b≤9223372036854775807) :
  Calls Tryz.prog 215 #[int i64 op,int i64 a,int i64 b] w fun e w'=>e=.returned (.tuple #[int i64 (dE op a b),.bool (ey op b)])/\w'=w:=by
 by_cases h1:op=1
 ·subst h1
  have HE:Hid (dE 1 a b=wrap64 (a+b)/\ey 1 b=true):=⟨by simp [dE],by simp [ey]⟩
  clear hlo dQ pT pU
  go_enter Tryz.func215,Tryz.ntmps215
  go_wp2
  go_ret2
  exact ⟨eF HE.out.1.symm HE.out.2.symm,rfl⟩
 by_cases h2:op=2
 ·subst h2
  have HE:Hid (dE 2 a b=wrap64 (a-b)/\ey 2 b=true):=⟨by simp [dE],by simp [ey]⟩
  clear hlo dQ pT pU
  go_enter Tryz.func215,Tryz.ntmps215
  go_wp2
  go_ret2
  exact ⟨eF HE.out.1.symm HE.out.2.symm,rfl⟩
 by_cases h3:op=3
 ·subst h3
  have HE:Hid (dE 3 a b=wrap64 (a*b)/\ey 3 b=true):=⟨by simp [dE],by simp [ey]⟩
  clear hlo dQ pT pU
  go_enter Tryz.func215,Tryz.ntmps215
  go_wp2
  go_ret2
  exact ⟨eF HE.out.1.symm HE.out.2.symm,rfl⟩
 by_cases vQ:op=6∨op=7∨op=8
 ·have HE:Hid (dE op a b=wrap64 (iv (fun i=>AW op (fA a i) (fA b i)) 64:Nat)/\ey op b=true) :=
   ⟨by have h4:¬op=4:=(by omega);have h5:¬op=5:=(by omega);simp only [dE,if_neg h1,if_neg h2,if_neg h3,if_neg h4,if_neg h5,if_pos vQ],
    by simp only [ey,decide_eq_true_eq];omega⟩
  have hc:=fun w=>DP op a b w vQ hlo dQ pT pU
  clear hlo dQ pT pU
  rcases vQ with rfl|rfl|rfl
  all_goals
   go_enter Tryz.func215,Tryz.ntmps215
   go_wp2_with (go_at_call 237;refine (hc _).mono ?_;rintro e w' ⟨rfl,rfl⟩)
   go_ret2
   exact ⟨eF HE.out.1.symm HE.out.2.symm,rfl⟩
 by_cases h4:op=4
 ·subst h4
  by_cases hb:b=0
  ·subst hb
   have HE:Hid (dE 4 a 0=0/\ey 4 0=false):=⟨by simp [dE],by simp [ey]⟩
   clear hlo dQ pT pU
   go_enter Tryz.func215,Tryz.ntmps215
   go_wp2
   go_ret2
   exact ⟨eF HE.out.1.symm HE.out.2.symm,rfl⟩
  ·have HE:Hid (dE 4 a b=wrap64 (a.tdiv b)/\ey 4 b=true):=⟨by simp [dE,hb],by simp [ey,hb]⟩
   clear hlo dQ pT pU
   by_cases hm:b=-1
   ·subst hm
    go_enter Tryz.func215,Tryz.ntmps215
    go_wp2
    go_ret2
    exact ⟨eF (by rw [HE.out.1];exact oT a) HE.out.2.symm,rfl⟩
   ·go_enter Tryz.func215,Tryz.ntmps215
    go_wp2
    go_ret2
    exact ⟨eF HE.out.1.symm HE.out.2.symm,rfl⟩
 by_cases h5:op=5
 ·subst h5
  by_cases hb:b=0
  ·subst hb
   have HE:Hid (dE 5 a 0=0/\ey 5 0=false):=⟨by simp [dE],by simp [ey]⟩
   clear hlo dQ pT pU
   go_enter Tryz.func215,Tryz.ntmps215
   go_wp2
   go_ret2
   exact ⟨eF HE.out.1.symm HE.out.2.symm,rfl⟩
  ·have HE:Hid (dE 5 a b=a.tmod b/\ey 5 b=true):=⟨by simp [dE,hb],by simp [ey,hb]⟩
   have HR:Hid (wrap64 (a-wrap64 (wrap64 (a.tdiv b)*b))=a.tmod b):=LY a b hlo dQ
   clear hlo dQ pT pU
   by_cases hm:b=-1
   ·subst hm
    go_enter Tryz.func215,Tryz.ntmps215
    go_wp2
    go_ret2
    exact ⟨eF (by rw [HE.out.1,<-HR.out,<-oT,Int.mul_neg_one]) HE.out.2.symm,rfl⟩
   ·go_enter Tryz.func215,Tryz.ntmps215
    go_wp2
    go_ret2
    exact ⟨eF (by rw [HE.out.1,<-HR.out]) HE.out.2.symm,rfl⟩
 have e1:dE op a b=0:=by
  simp only [dE,if_neg h1,if_neg h2,if_neg h3,if_neg h4,if_neg h5,if_neg vQ]
 have e2:ey op b=false:=by simp only [ey,decide_eq_false_iff_not];omega
 rw [e1,e2]
 clear e1 e2 hlo dQ pT pU
 have h6:¬op=6:=by omega
 have h7:¬op=7:=by omega
 have h8:¬op=8:=by omega
 clear vQ
 go_enter Tryz.func215,Tryz.ntmps215
 go_wp2
 go_ret2
 exact ⟨rfl,rfl⟩
theorem vR (op a b:Int) (w:World) :
  Calls Tryz.prog 216 #[int i64 op,int i64 a,int i64 b] w fun e w'=>e=.returned (.tuple #[int i64 (wrap32 (dE op (wrap32 a) (wrap32 b))),.bool (ey op (wrap32 b))])/\w'=w:=by
 have ha:=xu a
 have hb:=xu b
 go_enter Tryz.func216,Tryz.ntmps216
 go_wp2_with (first|(go_at_call 51;refine (k8 _ _).mono ?_;rintro e w' ⟨rfl,rfl⟩)|(go_at_call 215;refine (j7 _ _ _ _ (by omega) (by omega) (by omega) (by omega)).mono ?_;rintro e w' ⟨rfl,rfl⟩))
 go_ret2
 exact ⟨rfl,rfl⟩
theorem Ov (a:Int):jb 1 a=(a==0):=by unfold jb;by_cases h:a=0<;>simp [h]
theorem Ow (a:Int):jb 2 a=decide (a<0):=by unfold jb;simp
theorem Ox (a:Int):jb 3 a=(a !=0):=by unfold jb;by_cases h:a=0<;>simp [h]
theorem Oy (a:Int):jb 4 a=decide (0<a):=by unfold jb;simp
theorem Oz (c a:Int) (h1:¬c=1) (h2:¬c=2) (h3:¬c=3) (h4:¬c=4):jb c a=false:=by unfold jb;simp [h1,h2,h3,h4]
theorem pV (c a:Int) (w:World) :
  Calls Tryz.prog 113 #[int i64 c,int i64 a] w fun e w'=>e=.returned (.bool (jb c a))/\w'=w:=by
 by_cases h1:c=1
 ·subst h1
  rw [Ov]
  go_enter Tryz.func113,Tryz.ntmps113
  go_wp2
  go_ret
  exact ⟨rfl,rfl⟩
 by_cases h2:c=2
 ·subst h2
  rw [Ow]
  go_enter Tryz.func113,Tryz.ntmps113
  go_wp2
  go_ret
  exact ⟨rfl,rfl⟩
 by_cases h3:c=3
 ·subst h3
  rw [Ox]
  go_enter Tryz.func113,Tryz.ntmps113
  go_wp2
  go_ret
  exact ⟨rfl,rfl⟩
 by_cases h4:c=4
 ·subst h4
  rw [Oy]
  go_enter Tryz.func113,Tryz.ntmps113
  go_wp2
  go_ret
  exact ⟨rfl,rfl⟩
 rw [Oz c a h1 h2 h3 h4]
 go_enter Tryz.func113,Tryz.ntmps113
 go_wp2
 go_ret
 exact ⟨rfl,rfl⟩
section
open Go.RowKit (wrap32 wrap64)
theorem kD (a:Int) (w:World) :
  Calls Tryz.prog 104 #[int i64 a] w fun e w'=>e=.returned (int i64 (wrap32 a))/\w'=w:=by
 go_enter Tryz.func104,Tryz.ntmps104
 go_wp2
 go_ret
 exact ⟨vO (Hm a),rfl⟩
theorem sV (a b:Int) (w:World) :
  Calls Tryz.prog 249 #[int i64 a,int i64 b] w fun e w'=>e=.returned (.tuple #[int i64 (dE 4 a b),.bool (ey 4 b)])/\w'=w:=by
 by_cases h:b=0
 ·subst h
  go_enter Tryz.func249,Tryz.ntmps249
  go_wp2
  go_ret2
  exact ⟨eF (by simp [dE]) (by simp [ey]),rfl⟩
 ·go_enter Tryz.func249,Tryz.ntmps249
  go_wp2
  go_ret2
  exact ⟨eF (by simp [dE,h]) (by simp [ey,h]),rfl⟩
theorem rG (a b:Int) (w:World) :
  Calls Tryz.prog 250 #[int i64 a,int i64 b] w fun e w'=>e=.returned (.tuple #[int i64 (dE 5 a b),.bool (ey 5 b)])/\w'=w:=by
 by_cases h:b=0
 ·subst h
  go_enter Tryz.func250,Tryz.ntmps250
  go_wp2
  go_ret2
  exact ⟨eF (by simp [dE]) (by simp [ey]),rfl⟩
 ·go_enter Tryz.func250,Tryz.ntmps250
  go_wp2
  go_ret2
  exact ⟨eF (by simp [dE,h]) (by simp [ey,h]),rfl⟩
theorem vS (op a b:Int) (w:World) :
  Calls Tryz.prog 243 #[int i64 op,int i64 a,int i64 b] w fun e w'=>e=.returned (.tuple #[int i64 (dE op a b),.bool (ey op b)])/\w'=w:=by
 by_cases h1:op=1
 ·subst h1
  go_enter Tryz.func243,Tryz.ntmps243
  go_wp2
  go_ret2
  exact ⟨eF (by simp [dE]) (by simp [ey]),rfl⟩
 by_cases h2:op=2
 ·subst h2
  go_enter Tryz.func243,Tryz.ntmps243
  go_wp2
  go_ret2
  exact ⟨eF (by simp [dE]) (by simp [ey]),rfl⟩
 by_cases h3:op=3
 ·subst h3
  go_enter Tryz.func243,Tryz.ntmps243
  go_wp2
  go_ret2
  exact ⟨eF (by simp [dE]) (by simp [ey]),rfl⟩
 by_cases h4:op=4
 ·subst h4
  go_enter Tryz.func243,Tryz.ntmps243
  go_wp2_with (go_at_call 249;refine (sV _ _ _).mono ?_;rintro e w' ⟨rfl,rfl⟩)
  go_ret2
  exact ⟨rfl,rfl⟩
 by_cases h5:op=5
 ·subst h5
  go_enter Tryz.func243,Tryz.ntmps243
  go_wp2_with (go_at_call 250;refine (rG _ _ _).mono ?_;rintro e w' ⟨rfl,rfl⟩)
  go_ret2
  exact ⟨rfl,rfl⟩
 by_cases h6:op=6
 ·subst h6
  go_enter Tryz.func243,Tryz.ntmps243
  go_wp2
  go_ret2
  exact ⟨eF (Hq a b).symm (by simp [ey]),rfl⟩
 by_cases h7:op=7
 ·subst h7
  go_enter Tryz.func243,Tryz.ntmps243
  go_wp2
  go_ret2
  exact ⟨eF (LU a b).symm (by simp [ey]),rfl⟩
 by_cases h8:op=8
 ·subst h8
  go_enter Tryz.func243,Tryz.ntmps243
  go_wp2
  go_ret2
  exact ⟨eF (Hr a b).symm (by simp [ey]),rfl⟩
 have e1:dE op a b=0:=by simp [dE,h1,h2,h3,h4,h5,h6,h7,h8]
 have e2:ey op b=false:=by simp only [ey,decide_eq_false_iff_not];omega
 rw [e1,e2]
 clear e1 e2
 go_enter Tryz.func243,Tryz.ntmps243
 go_wp2
 go_ret2
 exact ⟨rfl,rfl⟩
theorem Ie (op a b:Int) (w:World) :
  Calls Tryz.prog 244 #[int i64 op,int i64 a,int i64 b] w fun e w'=>e=.returned (.tuple #[int i64 (wrap32 (dE op (wrap32 a) (wrap32 b))),.bool (ey op (wrap32 b))])/\w'=w:=by
 go_enter Tryz.func244,Tryz.ntmps244
 go_wp2_with (first|(go_at_call 104;refine (kD _ _).mono ?_;rintro e w' ⟨rfl,rfl⟩)|(go_at_call 243;refine (vS _ _ _ _).mono ?_;rintro e w' ⟨rfl,rfl⟩))
 go_ret2
 exact ⟨rfl,rfl⟩
theorem Ig (a b:Int) (w:World) :
  Calls Tryz.prog 209 #[int i64 a,int i64 b] w fun e w'=>e=.returned (int i64 (ma a b))/\w'=w:=by
 unfold ma
 by_cases h:a<b
 ·rw [if_pos h]
  go_enter Tryz.func209,Tryz.ntmps209
  go_wp2
  go_ret
  exact ⟨rfl,rfl⟩
 by_cases h':b<a
 ·rw [if_neg h,if_pos h']
  go_enter Tryz.func209,Tryz.ntmps209
  go_wp2
  go_ret
  exact ⟨rfl,rfl⟩
 ·rw [if_neg h,if_neg h']
  go_enter Tryz.func209,Tryz.ntmps209
  go_wp2
  go_ret
  exact ⟨rfl,rfl⟩
end
theorem aE (n lo hi:Int) (w:World) :
  Calls Tryz.prog 20 #[int i64 n,int i64 lo,int i64 hi] w fun e w'=>e=.returned (.bool (decide (lo≤n/\n≤hi)))/\w'=w:=by
 go_enter Tryz.func20,Tryz.ntmps20
 go_wp2
 all_goals
  go_ret
  refine ⟨aj ?_,rfl⟩
  rw [Bool.eq_iff_iff];simp;try omega
theorem jg (A:Option Addr) (c:Nat) (F:List Ty) (w:World) (hl:dm w A F) (hb:F.length≤1000000) :
  Calls Tryz.prog 22 #[.slice A F.length c] w fun e w'=>e=.returned (int i64 (bX F:Nat))/\w'=w:=by
 obtain ⟨hm,hl⟩:=hl
 clear hm
 have HS:Hid (∀k,k<F.length->bX (F.take (k+1))=bX (F.take k)+(if (nth cL F k).kind=2 then 2 else 1)):=oJ F
 have HB:Hid (∀k,bX (F.take k)≤2*k):=fun k=>by have:=rU (F.take k);have:=List.length_take_le k F;omega
 go_enter Tryz.func22,Tryz.ntmps22
 go_wp2
 go_loop [3,4] (fun n i=>∃k:Nat,k≤F.length/\i=int i64 k/\n=int i64 ((F.length:Int)+((bX (F.take k):Nat):Int)-k)) (fun _ i=>F.length-(intOf i).toNat)
 case atStart=>exact ⟨0,Nat.zero_le _,rfl,by simp [bX]⟩
 case round =>
  obtain ⟨k,hk,rfl,rfl⟩:=hrel
  have h2:=HB.out k
  by_cases hlt:k<F.length
  ·rcases hl with h0|⟨b,off,rfl,hcell⟩
   ·omega
   have ht:=(hcell k hlt).1
   have hs:=HS.out k hlt
   clear hcell
   by_cases mr:(nth cL F k).kind=2
   ·rw [if_pos mr] at hs
    rw [mr] at ht
    have Ih:Hid (bX (F.take (k+1))=bX (F.take k)+2):=hs
    clear hs mr
    go_wp2
    go_round
    case rel=>exact ⟨k+1,by omega,by go_num,by rw [Ih.out];go_num⟩
    case measure=>simp [intOf];omega
   ·rw [if_neg mr] at hs
    have Ih:Hid (bX (F.take (k+1))=bX (F.take k)+1):=hs
    have Rr:((nth cL F k).kind==2)=false:=by simpa using mr
    clear hs mr
    go_wp2
    go_round
    case rel=>exact ⟨k+1,by omega,by go_num,by rw [Ih.out];go_num⟩
    case measure=>simp [intOf];omega
  ·obtain rfl:k=F.length:=by omega
   rw [List.take_length] at *
   go_wp2
   go_ret
   exact ⟨lR (by omega),rfl⟩
def mv (w:World) (b off:Nat) (m:Me) (P C K:Option Addr) (p c k:Nat):Prop :=
 w.cell? ⟨b,off,none⟩=some (.slice P m.params.length p)/\w.cell? ⟨b,off+1,none⟩=some (int i64 m.ret.kind)/\w.cell? ⟨b,off+2,none⟩=some (int i64 m.ret.cls)
  /\ w.cell? ⟨b,off+3,none⟩=some (int i64 m.stack)/\w.cell? ⟨b,off+4,none⟩=some (int i64 m.locs)/\w.cell? ⟨b,off+5,none⟩=some (int i64 m.regs)
  /\ w.cell? ⟨b,off+6,none⟩=some (.slice C m.code.length c)/\w.cell? ⟨b,off+7,none⟩=some (.slice K m.hands.length k)
theorem mv.bl {w':World} (h:Bl w w') {off:Nat} {P C K:Option Addr} {p c:Nat} (hb:mv w b off m P C K p c k):mv w' b off m P C K p c k :=
 ⟨h.cell hb.1,h.cell hb.2.1,h.cell hb.2.2.1,h.cell hb.2.2.2.1,h.cell hb.2.2.2.2.1,h.cell hb.2.2.2.2.2.1,h.cell hb.2.2.2.2.2.2.1,h.cell hb.2.2.2.2.2.2.2⟩
abbrev iU (m:Me) (P C K:Option Addr) (p c k:Nat):Value :=
 .agg #[.slice P m.params.length p,int i64 m.ret.kind,int i64 m.ret.cls,int i64 m.stack,int i64 m.locs,int i64 m.regs,.slice C m.code.length c,.slice K m.hands.length k]
abbrev fV (nc nm:Nat) (A B:Option Addr) (a b:Nat):Value:=.agg #[.slice A nc a,.slice B nm b]
def g4 (w:World) (b off:Nat) (nc nm:Nat) (A B:Option Addr) (x y:Nat):Prop :=
 w.cell? ⟨b,off,none⟩=some (.slice A nc x)/\w.cell? ⟨b,off+1,none⟩=some (.slice B nm y)
theorem g4.bl {w':World} (h:Bl w w') {off nc:Nat} {A B:Option Addr} {x y:Nat} (hb:g4 w b off nc nm A B x y):g4 w' b off nc nm A B x y:=⟨h.cell hb.1,h.cell hb.2⟩
theorem A5 (w:World) (nc nm:Nat) (A B:Option Addr) (x y:Nat) (m:Me) (P C K:Option Addr) (p c k:Nat) (t t':TypeId) :
  g4 ((w.alloc (.cells #[.slice A nc x,.slice B nm y] t)).alloc (.cells #[.slice P m.params.length p,int i64 m.ret.kind,int i64 m.ret.cls,int i64 m.stack,int i64 m.locs,int i64 m.regs,.slice C m.code.length c,.slice K m.hands.length k] t')) w.heap.size 0 nc nm A B x y
  /\ mv ((w.alloc (.cells #[.slice A nc x,.slice B nm y] t)).alloc (.cells #[.slice P m.params.length p,int i64 m.ret.kind,int i64 m.ret.cls,int i64 m.stack,int i64 m.locs,int i64 m.regs,.slice C m.code.length c,.slice K m.hands.length k] t')) (w.heap.size+1) 0 m P C K p c k:=by
 refine ⟨⟨?_,?_⟩,⟨?_,?_,?_,?_,?_,?_,?_,?_⟩⟩<;>simp
section
variable {nc:Nat} {m:Me} {most:Int}
theorem nk (h:¬(m.params.length≤4/\m.hands.length≤8/\1≤m.code.length/\(m.code.length:Int)≤most)):ew nc m most=false:=by
 unfold ew;rw [decide_eq_false h];rfl
theorem DQ {q:Nat} (hq:q<m.params.length) (h:fO nc (nth cL m.params q)=false):ew nc m most=false:=by
 unfold ew;rw [lQ hq h];simp
theorem A7 {q:Nat} (hq:q<m.hands.length) (h:mV nc m.code.length (nth eB m.hands q)=false):ew nc m most=false:=by
 unfold ew;rw [lQ hq h];simp
theorem A8 (h:m.params.length≤4/\m.hands.length≤8/\1≤m.code.length/\(m.code.length:Int)≤most) (hp:∀q,q<m.params.length->fO nc (nth cL m.params q)=true) (hh:∀q,q<m.hands.length->mV nc m.code.length (nth eB m.hands q)=true):ew nc m most=m9 nc m.ret:=by
 unfold ew;rw [decide_eq_true h,jT hp,jT hh];simp
end
theorem j8 (nc nm:Nat) (A B:Option Addr) (a b:Nat) (m:Me) (P C K:Option Addr) (p c k:Nat) (most:Int) (w:World) (hP:dm w P m.params) (hK:kP w K m.hands) (eT:nc≤12) (aW:m.code.length≤maxLen) :
  Calls Tryz.prog 21 #[fV nc nm A B a b,iU m P C K p c k,int i64 most] w fun e w'=>e=.returned (.bool (ew nc m most))/\Bl w w':=by
 have HP:Hid (dm w P m.params):=hP
 have HK:Hid (kP w K m.hands):=hK
 have Ii:=hP.1
 have NL:=hK.1
 unfold maxLen at aW Ii NL
 clear hP hK
 by_cases h1:4<m.params.length
 ·have hb:=nk (nc:=nc) (m:=m) (most:=most) (by omega)
  rw [hb]
  go_enter Tryz.func21,Tryz.ntmps21
  go_wp2
  go_ret
  exact ⟨rfl,((Bl.refl _).alloc _).alloc _⟩
 by_cases h2:8<m.hands.length
 ·have hb:=nk (nc:=nc) (m:=m) (most:=most) (by omega)
  rw [hb]
  go_enter Tryz.func21,Tryz.ntmps21
  go_wp2
  go_ret
  exact ⟨rfl,((Bl.refl _).alloc _).alloc _⟩
 by_cases h3:1≤(m.code.length:Int)/\(m.code.length:Int)≤most
 ·have HG:Hid ((∀q,q<m.params.length->fO nc (nth cL m.params q)=true)->(∀q,q<m.hands.length->mV nc m.code.length (nth eB m.hands q)=true)->ew nc m most=m9 nc m.ret):=A8 (by omega)
  have Rs:decide (1≤(m.code.length:Int)/\(m.code.length:Int)≤most)=true:=decide_eq_true h3
  obtain ⟨f0,m0⟩:=A5 w nc nm A B a b m P C K p c k 25 49
  have HF:Hid (g4 _ w.heap.size 0 nc nm A B a b):=f0
  have HM:Hid (mv _ (w.heap.size+1) 0 m P C K p c k):=m0
  clear f0 m0
  go_enter Tryz.func21,Tryz.ntmps21
  go_wp2_with (go_at_call 20;refine (aE _ _ _ _).mono ?_;rintro e w' ⟨he,rfl⟩;rw [Rs] at he;subst he)
  go_loopw [7] (fun i wr=>∃q:Nat,q≤m.params.length/\i=int i64 q/\Hid (∀j,j<q->fO nc (nth cL m.params j)=true)/\Hid (Bl w wr)/\Hid (g4 wr w.heap.size 0 nc nm A B a b)/\Hid (mv wr (w.heap.size+1) 0 m P C K p c k)) (fun i _=>m.params.length-(intOf i).toNat)
  case atStart=>exact ⟨0,Nat.zero_le _,rfl,fun j hj=>absurd hj (Nat.not_lt_zero _),((Bl.refl _).alloc _).alloc _,HF,HM⟩
  case round =>
   clear HF HM
   obtain ⟨q,hq,rfl,mE,hg,HF,HM⟩:=hrel
   have LZ:=HF.out.1
   have KP:=HM.out.1
   have OA:=HM.out.2.2.2.2.2.2.2
   simp only [Nat.zero_add] at OA
   by_cases eQ:q<m.params.length
   ·have hty:=HP.out.bl hg.out
    rcases hty.2 with h0|⟨b',gp,rfl,hcell⟩
    ·omega
    obtain ⟨KL,Ol,-,-⟩:=hcell q eQ
    clear hty hcell
    have gf:=aU LZ
    have gm:=aU KP
    have g1:=aU KL
    have g2:=aU Ol
    clear OA
    cases hT:fO nc (nth cL m.params q)
    ·have LV:fO nc ⟨(nth cL m.params q).kind,(nth cL m.params q).cls⟩=false:=hT
     have HB:=DQ (most:=most) eQ hT
     clear hT HG
     go_wp2
     refine bg (by kernel_rfl) (by kernel_rfl) fun hne=>?_
     repeat (go_big_quiet_step ((go_at_call 50;exact Calls.fut_eq _ (iT _ _ _ _ _ _) (congrArg Value.bool LV))))
     refine wpQuiet_nil ?_
     rintro _ ⟨⟨w2,eK⟩,rfl⟩
     go_wp2
     go_ret
     exact ⟨aj HB.symm,hg.out.trans eK⟩
    ·have LV:fO nc ⟨(nth cL m.params q).kind,(nth cL m.params q).cls⟩=true:=hT
     have HT:Hid (fO nc (nth cL m.params q)=true):=hT
     clear hT HG
     go_wp2
     refine bg (by kernel_rfl) (by kernel_rfl) fun hne=>?_
     repeat (go_big_quiet_step ((go_at_call 50;exact Calls.fut_eq _ (iT _ _ _ _ _ _) (congrArg Value.bool LV))))
     refine wpQuiet_nil ?_
     rintro _ ⟨⟨w2,eK⟩,rfl⟩
     go_wp2
     go_roundw
     case rel=>exact ⟨q+1,by omega,by go_num,fun j hj=>if h:j<q then mE.out j h else by have:j=q:=(by omega);subst this;exact HT.out,hg.out.trans eK,HF.out.bl eK,HM.out.bl eK⟩
     case measure=>simp [intOf];omega
   ·obtain rfl:q=m.params.length:=by omega
    have TU:Hid ((∀q,q<m.hands.length->mV nc m.code.length (nth eB m.hands q)=true)->ew nc m most=m9 nc m.ret):=HG.out mE.out
    clear HG mE eQ hq
    go_wp2
    clear LZ KP OA
    go_loopw [8] (fun i wr=>∃q:Nat,q≤m.hands.length/\i=int i64 q/\Hid (∀j,j<q->mV nc m.code.length (nth eB m.hands j)=true)/\Hid (Bl w wr)/\Hid (g4 wr w.heap.size 0 nc nm A B a b)/\Hid (mv wr (w.heap.size+1) 0 m P C K p c k)) (fun i _=>m.hands.length-(intOf i).toNat)
    case atStart=>exact ⟨0,Nat.zero_le _,rfl,fun j hj=>absurd hj (Nat.not_lt_zero _),hg,HF,HM⟩
    case round =>
     clear HF HM hg
     obtain ⟨q,hq,rfl,mE,hg,HF,HM⟩:=hrel
     have LZ:=HF.out.1
     have DR:=HM.out.2.1
     have DS:=HM.out.2.2.1
     have Qr:=HM.out.2.2.2.2.2.2.1
     have OA:=HM.out.2.2.2.2.2.2.2
     simp only [Nat.zero_add] at DR DS Qr OA
     by_cases eQ:q<m.hands.length
     ·have hty:=HK.out.bl hg.out
      rcases hty.2 with h0|⟨b',gp,rfl,hcell⟩
      ·omega
      obtain ⟨g0,g1,g2,g3,-⟩:=hcell q eQ
      clear hty hcell DR DS
      have HB:Hid (mV nc m.code.length (nth eB m.hands q)=false->ew nc m most=false):=A7 eQ
      have HD:Hid (mV nc m.code.length (nth eB m.hands q)=decide (0≤(nth eB m.hands q).fr/\(nth eB m.hands q).fr<(nth eB m.hands q).til/\(nth eB m.hands q).til≤m.code.length/\0≤(nth eB m.hands q).pc/\(nth eB m.hands q).pc<m.code.length/\0≤(nth eB m.hands q).cls/\(nth eB m.hands q).cls<nc)):=rfl
      generalize hX:nth eB m.hands q=X at *
      have TV:∀o,(wr.alloc o).cell? ⟨w.heap.size,0,none⟩=some (.slice A nc a):=fun o=>((Bl.refl wr).alloc o).cell LZ
      have VO:∀o,(wr.alloc o).cell? ⟨w.heap.size+1,6,none⟩=some (.slice C m.code.length c):=fun o=>((Bl.refl wr).alloc o).cell Qr
      by_cases t1:X.fr<0
      ·have yg:Hid (ew nc m most=false):=HB.out (HD.out.trans (decide_eq_false (by omega)))
       go_wp2
       go_ret
       exact ⟨aj yg.out.symm,hg.out.alloc _⟩
      by_cases t2:X.til≤X.fr
      ·have yg:Hid (ew nc m most=false):=HB.out (HD.out.trans (decide_eq_false (by omega)))
       go_wp2
       go_ret
       exact ⟨aj yg.out.symm,hg.out.alloc _⟩
      by_cases t3:(m.code.length:Int)<X.til
      ·have yg:Hid (ew nc m most=false):=HB.out (HD.out.trans (decide_eq_false (by omega)))
       go_wp2
       go_ret
       exact ⟨aj yg.out.symm,hg.out.alloc _⟩
      by_cases t4:0≤X.pc/\X.pc≤(m.code.length:Int)-1
      ·have d4:decide (0≤X.pc/\X.pc≤(m.code.length:Int)-1)=true:=decide_eq_true t4
       by_cases t5:0≤X.cls/\X.cls≤(nc:Int)-1
       ·have d5:decide (0≤X.cls/\X.cls≤(nc:Int)-1)=true:=decide_eq_true t5
        have HT:Hid (mV nc m.code.length X=true):=HD.out.trans (decide_eq_true (by omega))
        go_wp2_with (go_at_call 20;refine (aE _ _ _ _).mono ?_;rintro e w' ⟨he,rfl⟩;(first|rw [d4] at he|rw [d5] at he);subst he)
        go_roundw
        case rel=>exact ⟨q+1,by omega,by go_num,fun j hj=>if h:j<q then mE.out j h else by have:j=q:=(by omega);subst this;rw [hX];exact HT.out,hg.out.alloc _,HF.out.bl ((Bl.refl _).alloc _),HM.out.bl ((Bl.refl _).alloc _)⟩
        case measure=>simp [intOf];omega
       ·have d5:decide (0≤X.cls/\X.cls≤(nc:Int)-1)=false:=decide_eq_false t5
        have yg:Hid (ew nc m most=false):=HB.out (HD.out.trans (decide_eq_false (by omega)))
        go_wp2_with (go_at_call 20;refine (aE _ _ _ _).mono ?_;rintro e w' ⟨he,rfl⟩;(first|rw [d4] at he|rw [d5] at he);subst he)
        go_ret
        exact ⟨aj yg.out.symm,hg.out.alloc _⟩
      ·have d4:decide (0≤X.pc/\X.pc≤(m.code.length:Int)-1)=false:=decide_eq_false t4
       have yg:Hid (ew nc m most=false):=HB.out (HD.out.trans (decide_eq_false (by omega)))
       go_wp2_with (go_at_call 20;refine (aE _ _ _ _).mono ?_;rintro e w' ⟨he,rfl⟩;rw [d4] at he;subst he)
       go_ret
       exact ⟨aj yg.out.symm,hg.out.alloc _⟩
     ·obtain rfl:q=m.hands.length:=by omega
      have Rt:Hid (ew nc m most=(decide (m.ret.kind=0/\m.ret.cls=0)||fO nc ⟨m.ret.kind,m.ret.cls⟩)):=TU.out mE.out
      clear TU mE eQ hq
      by_cases t1:m.ret.kind=0
      ·by_cases t2:m.ret.cls=0
       ·have yg:ew nc m most=true:=Rt.out.trans (by rw [decide_eq_true ⟨t1,t2⟩];rfl)
        rw [t1] at DR
        rw [t2] at DS
        clear t1 t2
        go_wp2
        go_ret
        exact ⟨aj yg.symm,hg.out⟩
       ·have yg:Hid (ew nc m most=fO nc ⟨m.ret.kind,m.ret.cls⟩):=Rt.out.trans (by rw [decide_eq_false (by omega)];rfl)
        have YA:(m.ret.cls==0)=false:=by simpa using t2
        have vi:Hid (m.ret.kind=0):=t1
        rw [t1] at DR
        clear t1 t2
        go_wp2_with (go_at_call 50;refine (iT _ _ _ _ _ _).mono ?_;rintro e w' ⟨rfl,eY⟩)
        go_ret
        exact ⟨aj (by rw [yg.out,vi.out]),hg.out.trans eY⟩
      ·have yg:Hid (ew nc m most=fO nc ⟨m.ret.kind,m.ret.cls⟩):=Rt.out.trans (by rw [decide_eq_false (by omega)];rfl)
       have Qs:(m.ret.kind==0)=false:=by simpa using t1
       clear t1
       go_wp2_with (go_at_call 50;refine (iT _ _ _ _ _ _).mono ?_;rintro e w' ⟨rfl,eY⟩)
       go_ret
       exact ⟨aj yg.out.symm,hg.out.trans eY⟩
 ·have hb:=nk (nc:=nc) (m:=m) (most:=most) (by omega)
  rw [hb]
  have Rs:decide (1≤(m.code.length:Int)/\(m.code.length:Int)≤most)=false:=decide_eq_false h3
  go_enter Tryz.func21,Tryz.ntmps21
  go_wp2_with (go_at_call 20;refine (aE _ _ _ _).mono ?_;rintro e w' ⟨he,rfl⟩;rw [Rs] at he;subst he)
  go_ret
  exact ⟨rfl,((Bl.refl _).alloc _).alloc _⟩
theorem DT {α:Type} {d:α} {l:List α} {n i:Nat} (h:i<n):nth d (l.take n) i=nth d l i:=by simp [nth,List.getD,List.getElem?_take,h]
theorem vT {α:Type} {d:α} {l:List α} {n i:Nat}:nth d (l.drop n) i=nth d l (n+i):=by simp [nth,List.getD,List.getElem?_drop]
structure iJ (h:Hp) (v:Va):Prop where
 ref:v.kind=3->-1≤v.n/\v.n<h.objs.length
 num:cP v.n
theorem lg (h:Hp):iJ h ag:=⟨fun e=>absurd e (by decide),by unfold cP;decide⟩
theorem gX {i:Nat} (hk:k≤c.stk.length) (hi:i<k):nth ag (c.top k) i∈c.stk:=by
 have e:c.top k=c.stk.drop (c.stk.length-k):=by unfold aH.top;rw [if_pos hk]
 rw [e,vT]
 exact bE (by omega)
theorem yh (h:k≤c.stk.length):c.has k=true:=decide_eq_true h
theorem cF (hk:k≤c.stk.length):h.must (c.has k)=h:=by unfold Hp.must;rw [if_pos (yh hk)]
theorem cR (hk:¬k≤c.stk.length):h.must (c.has k)=h.fin 6:=by unfold Hp.must aH.has;rw [if_neg (by simpa using hk)]
theorem fK (hk:¬k≤c.stk.length):c.cut k=c:=by unfold aH.cut;rw [if_neg hk]
theorem cB (ho:h.over=false):(h.fin 6).over=true:=by simp [Hp.fin,ho]
structure vU (cs:List Cl) (nm iG:Nat) (locs:Int) (i:In):Prop where
 op:1≤i.op/\i.op≤25
 slot:i.op=4∨i.op=5->0≤i.a/\i.a<locs/\(i.b=2->i.a+1<locs)/\i.b≠0
 kind:i.op=4∨i.op=5->1≤i.b/\i.b≤3
 fld:i.op=15∨i.op=16->0≤i.a/\i.a<cs.length/\0≤i.b/\i.b<(nth cd cs i.a.toNat).fields.length
 cls:i.op=14∨i.op=17∨i.op=18->0≤i.a/\i.a<cs.length
 call:i.op=19->0≤i.a/\i.a<nm
 jump:i.op=11∨i.op=12∨i.op=13->0≤i.a/\i.a<iG
theorem Lu {cs:List Cl} {iG:Nat} {locs:Int} (h:bD cs nm iG locs i=true):vU cs nm iG locs i:=by
 unfold bD at h
 rw [Bool.and_eq_true] at h
 obtain ⟨-,h⟩:=h
 by_cases h1:i.op=1
 ·constructor<;>(intros;omega)
 rw [if_neg h1] at h
 by_cases h2:i.op=2
 ·constructor<;>(intros;omega)
 rw [if_neg h2,Bool.and_eq_true] at h
 obtain ⟨-,h⟩:=h
 by_cases h4:i.op=4∨i.op=5
 ·rw [if_pos h4] at h
  have h:=of_decide_eq_true h
  constructor<;>(intros;omega)
 rw [if_neg h4] at h
 by_cases pN:i.op=12
 ·rw [if_pos pN] at h
  have h:=of_decide_eq_true h
  constructor<;>(intros;omega)
 rw [if_neg pN] at h
 by_cases G7:i.op=15∨i.op=16
 ·rw [if_pos G7] at h
  have h:=of_decide_eq_true h
  constructor<;>(intros;first|omega|exact h)
 rw [if_neg G7,Bool.and_eq_true] at h
 obtain ⟨-,h⟩:=h
 by_cases ha:i.op=3∨i.op=8∨i.op=9∨i.op=10∨i.op=20∨i.op=21∨i.op=22∨i.op=23∨i.op=25
 ·constructor<;>(intros;omega)
 rw [if_neg ha] at h
 by_cases h6:i.op=6∨i.op=7
 ·constructor<;>(intros;omega)
 rw [if_neg h6] at h
 by_cases G8:i.op=11∨i.op=13
 ·rw [if_pos G8] at h
  have h:=of_decide_eq_true h
  constructor<;>(intros;omega)
 rw [if_neg G8] at h
 by_cases DU:i.op=14∨i.op=17∨i.op=18
 ·rw [if_pos DU] at h
  have h:=of_decide_eq_true h
  constructor<;>(intros;omega)
 rw [if_neg DU] at h
 by_cases pn:i.op=19
 ·rw [if_pos pn] at h
  have h:=of_decide_eq_true h
  constructor<;>(intros;omega)
 rw [if_neg pn] at h
 by_cases L4:i.op=24
 ·constructor<;>(intros;omega)
 rw [if_neg L4] at h
 simp at h
theorem pW (hk:¬k≤c.stk.length):c.top k=List.replicate k ag:=by unfold aH.top;rw [if_neg hk]
theorem np (a:Int):cP (wrap64 a):=by have:=LQ a;unfold cP;omega
theorem pC (a:Int):cP (wrap32 a):=by have:=xu a;unfold cP;omega
theorem DV (a b:Int) (ha:cP a):cP (a.tmod b):=by
 have h1:(a.tmod b).natAbs=a.natAbs%b.natAbs:=Int.natAbs_tmod a b
 have h2:a.natAbs%b.natAbs≤a.natAbs:=Nat.mod_le _ _
 have h3:=rX a b
 unfold cP at *
 omega
theorem Ij (op a b:Int) (ha:cP a):cP (dE op a b):=by
 have h0:cP 0:=by unfold cP;omega
 unfold dE
 split
 ·exact np _
 split
 ·exact np _
 split
 ·exact np _
 split
 ·split
  ·exact h0
  ·exact np _
 split
 ·split
  ·exact h0
  ·exact DV a b ha
 split
 ·exact np _
 ·exact h0
theorem NM (h:-100≤a/\a≤1000000):cP a:=by unfold cP;omega
structure Le (h h':Hp):Prop where
 file:h'.file=h.file
 input:h'.input=h.input
 fuel:h'.fuel=h.fuel
 objs:h.objs.length≤h'.objs.length
 steps:h.sh.steps≤h'.sh.steps
 calls:h'.calls=h.calls
theorem Le.refl (h:Hp):Le h h:=⟨rfl,rfl,rfl,Nat.le_refl _,Int.le_refl _,rfl⟩
theorem Le.trans {a b c:Hp} (h:Le a b) (k:Le b c):Le a c:=⟨k.file.trans h.file,k.input.trans h.input,k.fuel.trans h.fuel,Nat.le_trans h.objs k.objs,Int.le_trans h.steps k.steps,k.calls.trans h.calls⟩
theorem iJ.le (g:iJ h v) (l:Le h h'):iJ h' v:=⟨fun e=>⟨(g.ref e).1,by have:=(g.ref e).2;have:=l.objs;omega⟩,g.num⟩
structure Gh (s:Nat) (h:Hp):Prop where
 held:∀o∈h.objs,∀x∈o.held,iJ h x.v
 thr:-1≤h.thrown/\h.thrown<h.objs.length
 used:0≤h.sh.used
 steps:h.sh.steps≤h.fuel
 fuel:0≤h.fuel/\h.fuel≤60000
 out:(h.sh.out.length:Int)+s≤h.sh.steps
 len:h.objs.length≤100
 inp:∀n∈h.input,cP n
 calls:0≤h.calls/\h.calls≤20
theorem Gh.same (g:Gh s h) (e1:h'.objs=h.objs) (e2:h'.sh.used=h.sh.used) (e3:h'.sh.steps=h.sh.steps) (e4:h'.fuel=h.fuel) (e5:h'.sh.out=h.sh.out) (e6:h'.input=h.input) (e7:h'.calls=h.calls) (ht:-1≤h'.thrown/\h'.thrown<h'.objs.length):Gh s h' :=
 ⟨fun o ho x hx=>⟨fun e=>by rw [e1];exact (g.held o (e1▸ho) x hx).ref e,(g.held o (e1▸ho) x hx).num⟩,ht,by rw [e2];exact g.used,by rw [e3,e4];exact g.steps,by rw [e4];exact g.fuel,by rw [e5,e3];exact g.out,by rw [e1];exact g.len,by rw [e6];exact g.inp,by rw [e7];exact g.calls⟩
theorem Gh.less (g:Gh s h):Gh 0 h:=⟨g.held,g.thr,g.used,g.steps,g.fuel,by have:=g.out;omega,g.len,g.inp,g.calls⟩
theorem gy (h:Hp) (e:Int):Le h (h.fin e):=by unfold Hp.fin;split<;>exact ⟨rfl,rfl,rfl,Nat.le_refl _,Int.le_refl _,rfl⟩
theorem Gh.fin (g:Gh s h) (e:Int):Gh s (h.fin e):=by
 unfold Hp.fin;split
 ·exact g
 ·exact g.same rfl rfl rfl rfl rfl rfl rfl g.thr
theorem au (h:Hp) (b:Bool):Le h (h.must b):=by unfold Hp.must;split;exact Le.refl h;exact gy h 6
theorem Gh.must (g:Gh s h) (b:Bool):Gh s (h.must b):=by unfold Hp.must;split;exact g;exact g.fin 6
theorem Ik (h:Hp) (t:Ty):iJ h (jc t):=by
 unfold jc
 refine ⟨fun e=>?_,?_⟩
 ·dsimp only at e ⊢;rw [if_pos e];omega
 ·dsimp only;split<;>(unfold cP;omega)
theorem yi (h:Hp) (cs:List Cl) (c:Nat):∀x∈dz cs c,iJ h x.v:=by
 intro x hx
 unfold dz at hx
 rw [List.mem_flatMap] at hx
 obtain ⟨d,-,hd⟩:=hx
 unfold iw at hd
 split at hd
 ·rw [List.mem_map] at hd
  obtain ⟨k,-,rfl⟩:=hd
  exact Ik h _
 ·simp at hd
theorem yj (h:Hp) (c:Int):Le h (h.new c):=by
 unfold Hp.new;split
 ·exact gy h 4
 ·exact ⟨rfl,rfl,rfl,by simp,Int.le_refl _,rfl⟩
theorem Gh.new (g:Gh s h) (c:Int):Gh s (h.new c):=by
 have hle:=yj h c
 unfold Hp.new at hle ⊢;split
 ·exact g.fin 4
 ·rename_i hf
  have hlt:h.objs.length<100:=by unfold Hp.full at hf;simpa using hf
  rw [if_neg hf] at hle
  refine ⟨fun o ho x hx=>?_,?_,g.used,g.steps,g.fuel,g.out,?_,g.inp,g.calls⟩
  ·rw [List.mem_append] at ho
   rcases ho with ho|ho
   ·exact (g.held o ho x hx).le hle
   ·simp at ho;subst ho;exact yi _ _ _ x hx
  ·have:=g.thr;dsimp only;rw [List.length_append];omega
  ·dsimp only;rw [List.length_append];simp;omega
theorem Il (h:Hp) (c:Int):iJ (h.new c) h.newV:=by
 unfold Hp.newV Hp.new
 split
 ·exact lg _
 ·refine ⟨fun _=>by dsimp only;rw [List.length_append];simp;omega,?_⟩
  rename_i hf
  have hlt:h.objs.length<100:=by unfold Hp.full at hf;simpa using hf
  dsimp only;unfold cP;omega
theorem nr (h:Hp) (c:Int):Le h (h.raise c):=by
 have:=yj h c
 unfold Hp.raise;split
 ·exact this
 ·exact ⟨this.file,this.input,this.fuel,this.objs,this.steps,this.calls⟩
theorem Gh.raise (g:Gh s h) (c:Int):Gh s (h.raise c):=by
 have gn:=g.new c
 unfold Hp.raise;split
 ·exact gn
 ·rename_i ho
  refine gn.same rfl rfl rfl rfl rfl rfl rfl ?_
  dsimp only
  have hf:¬h.full=true:=fun hf=>ho (by unfold Hp.new;rw [if_pos hf];unfold Hp.fin;split<;>simp_all)
  unfold Hp.newV Hp.new
  rw [if_neg hf,if_neg hf]
  dsimp only
  rw [List.length_append]
  simp
  omega
theorem vV (h:Hp) (v:Va):Le h (h.throw v):=by
 unfold Hp.throw;split
 ·split
  ·exact nr h 1
  ·exact ⟨rfl,rfl,rfl,Nat.le_refl _,Int.le_refl _,rfl⟩
 ·exact au h _
theorem Gh.throw (g:Gh s h) (v:Va) (hv:iJ h v):Gh s (h.throw v):=by
 unfold Hp.throw;split
 ·rename_i hm
  split
  ·exact g.raise 1
  ·rename_i hn
   have hk:v.kind=3:=by have:=(dX hm).1;unfold isRef at this;exact of_decide_eq_true this
   exact g.same rfl rfl rfl rfl rfl rfl rfl ⟨by dsimp only;omega,(hv.ref hk).2⟩
 ·exact g.must _
theorem lh (h:Hp) (r:Va) (c:Int):Le h (h.findH r c):=by
 unfold Hp.findH;split
 ·split
  ·exact nr h 1
  ·exact Le.refl h
 ·exact au h _
theorem Gh.findH (g:Gh s h) (r:Va) (c:Int):Gh s (h.findH r c):=by
 unfold Hp.findH;split
 ·split
  ·exact g.raise 1
  ·exact g
 ·exact g.must _
theorem Im (g:Gh s h) (r:Va) (c k:Int) (hr:iJ h r):iJ h (h.getV r c k):=by
 unfold Hp.getV;split
 ·exact lg h
 ·rename_i hn
  obtain ⟨q,hq⟩:∃q:Nat,h.findN r c k=q:=⟨(h.findN r c k).toNat,by omega⟩
  have hk:h.mustB (h.of r ⟨3,c⟩)=true:=by
   by_cases hm:h.mustB (h.of r ⟨3,c⟩)=true
   ·exact hm
   ·unfold Hp.findN at hq;rw [if_neg hm] at hq;omega
  have h3:r.kind=3:=mD (dX hk).1
  have kU:¬r.n<0:=fun hh=>by unfold Hp.findN at hq;rw [if_pos hk,if_pos hh] at hq;omega
  have he:fJ (h.obj r.n).held c k=q:=by unfold Hp.findN at hq;rw [if_pos hk,if_neg kU] at hq;exact hq
  have hlt:q<(h.obj r.n).held.length:=by
   rcases rY (h.obj r.n).held c k with h0|⟨q',h1,h2⟩
   ·omega
   ·omega
  have vW:r.n.toNat<h.objs.length:=by have:=(hr.ref h3).2;omega
  rw [hq,Int.toNat_natCast]
  exact g.held _ (bE vW) _ (bE hlt)
theorem DW (h:Hp) (r:Va) (c k:Int) (v:Va):Le h (h.put r c k v):=by
 unfold Hp.put;split
 ·split
  ·exact lh h r c
  ·have:=lh h r c
   exact ⟨this.file,this.input,this.fuel,by unfold Hp.setV;dsimp only;rw [List.length_set];exact this.objs,this.steps,this.calls⟩
 ·exact au h _
theorem fM {α:Type} {l:List α} {n:Nat} {x y:α} (h:y∈l.set n x):y=x∨y∈l:=by
 rcases List.mem_or_eq_of_mem_set h with h|h
 ·exact Or.inr h
 ·exact Or.inl h
theorem Gh.put (g:Gh s h) (r:Va) (c k:Int) (v:Va) (hv:iJ h v):Gh s (h.put r c k v):=by
 unfold Hp.put;split
 ·split
  ·exact g.findH r c
  ·have gf:=g.findH r c
   have gv:=hv.le (lh h r c)
   generalize h.findH r c=h1 at gf gv
   generalize r.n.toNat=n
   generalize (h.findN r c k).toNat=j
   refine ⟨fun o ho x hx=>?_,?_,gf.used,gf.steps,gf.fuel,gf.out,?_,gf.inp,gf.calls⟩
   ·have key:iJ h1 x.v:=by
     unfold Hp.setV at ho
     dsimp only at ho
     by_cases hn:n<h1.objs.length
     ·rcases fM ho with rfl|ho
      ·dsimp only at hx
       rcases fM hx with rfl|hx
       ·exact gv
       ·exact gf.held _ (bE hn) x hx
      ·exact gf.held o ho x hx
     ·rw [List.set_eq_of_length_le (by omega)] at ho;exact gf.held o ho x hx
    exact ⟨fun e=>by unfold Hp.setV;dsimp only;rw [List.length_set];exact key.ref e,key.num⟩
   ·have:=gf.thr;unfold Hp.setV;dsimp only;rw [List.length_set];exact this
   ·unfold Hp.setV;dsimp only;rw [List.length_set];exact gf.len
 ·exact g.must _
theorem zC (h:Hp) (v:Va) (c:Int):Le h (h.cast v c):=by
 unfold Hp.cast;split
 ·split
  ·exact Le.refl h
  ·exact nr h 3
 ·exact au h _
theorem Gh.cast (g:Gh s h) (v:Va) (c:Int):Gh s (h.cast v c):=by
 unfold Hp.cast;split
 ·split
  ·exact g
  ·exact g.raise 3
 ·exact g.must _
theorem zD (h:Hp) (v:Va) (k:Int):Le h (h.emit v k):=by
 unfold Hp.emit;split
 ·exact ⟨rfl,rfl,rfl,Nat.le_refl _,Int.le_refl _,rfl⟩
 ·exact au h _
theorem Gh.emit (g:Gh 1 h) (v:Va) (k:Int):Gh 0 (h.emit v k):=by
 unfold Hp.emit;split
 ·refine ⟨(fun o ho x hx=>⟨(g.held o ho x hx).ref,(g.held o ho x hx).num⟩),g.thr,g.used,g.steps,g.fuel,?_,g.len,g.inp,g.calls⟩
  have:=g.out;dsimp only;rw [List.length_append];simp;omega
 ·exact (g.must _).less
theorem vX (h:Hp):Le h h.input':=by
 unfold Hp.input';split
 ·exact gy h 3
 ·exact ⟨rfl,rfl,rfl,Nat.le_refl _,Int.le_refl _,rfl⟩
theorem Gh.input (g:Gh s h):Gh s h.input':=by
 unfold Hp.input';split
 ·exact g.fin 3
 ·exact ⟨(fun o ho x hx=>⟨(g.held o ho x hx).ref,(g.held o ho x hx).num⟩),g.thr,by have:=g.used;dsimp only;omega,g.steps,g.fuel,g.out,g.len,g.inp,g.calls⟩
theorem L5 (g:Gh s h):iJ h h.inV:=by
 unfold Hp.inV;split
 ·exact lg h
 ·rename_i hd
  refine ⟨fun e=>by dsimp only at e;omega,?_⟩
  dsimp only
  have hu:=g.used
  have hlt:h.sh.used.toNat<h.input.length:=by unfold Hp.dry at hd;simp at hd;omega
  exact g.inp _ (bE hlt)
theorem vY (h:Hp) (a b:Va) (k op:Int):Le h (h.reckH a b k op):=by
 unfold Hp.reckH;split
 ·split
  ·exact Le.refl h
  ·exact nr h 2
 ·exact au h _
theorem Gh.reckH (g:Gh s h) (a b:Va) (k op:Int):Gh s (h.reckH a b k op):=by
 unfold Hp.reckH;split
 ·split
  ·exact g
  ·exact g.raise 2
 ·exact g.must _
theorem vZ (h h':Hp) (a b:Va) (k op:Int) (hk:k=1∨k=2) (ha:cP a.n):iJ h' (h.reckV a b k op):=by
 unfold Hp.reckV;split
 ·refine ⟨fun e=>by dsimp only at e;omega,?_⟩
  dsimp only;unfold jY;split
  ·exact pC _
  ·exact Ij _ _ _ ha
 ·exact lg _
theorem dp (h:Hp) (c:aH) (v:Va):Le h (h.putH c v):=by
 unfold Hp.putH;split
 ·exact Le.refl h
 ·exact au h _
theorem Gh.putH (g:Gh s h) (c:aH) (v:Va):Gh s (h.putH c v):=by
 unfold Hp.putH;split
 ·exact g
 ·exact g.must _
theorem jH (h:Hp):Le h h.step:=by
 unfold Hp.step;split
 ·exact Le.refl h
 ·split
  ·exact gy h 0
  ·exact ⟨rfl,rfl,rfl,Nat.le_refl _,by dsimp only;omega,rfl⟩
theorem Gh.step (g:Gh 0 h) (hb:h.stepB=true):Gh 1 h.step:=by
 unfold Hp.stepB at hb
 simp at hb
 unfold Hp.step
 rw [if_neg (by rw [hb.1];decide),if_neg (by omega)]
 exact ⟨(fun o ho x hx=>⟨(g.held o ho x hx).ref,(g.held o ho x hx).num⟩),g.thr,g.used,by dsimp only;omega,g.fuel,by have:=g.out;dsimp only;omega,g.len,g.inp,g.calls⟩
theorem Gh.step0 (g:Gh 0 h) (hb:h.stepB=false):Gh 0 h.step:=by
 unfold Hp.stepB at hb
 unfold Hp.step;split
 ·exact g
 ·rename_i ho
  split
  ·exact g.fin 0
  ·rename_i hf
   have:h.over=false:=by simpa using ho
   rw [this] at hb
   simp at hb
   omega
structure Gc (h:Hp) (c:aH):Prop where
 stk:∀v∈c.stk,iJ h v
 locs:∀v∈c.locs,iJ h v
 ok:gZ c.locs
 room:(aP c.stk:Int)≤c.m.stack
 len:(c.locs.length:Int)=c.m.locs
 me:eX h.file.classes h.file.methods.length c.m=true
 mok:∀i∈c.m.code,i.ok
theorem zE (l:List Va):l.length≤aP l:=by
 induction l with
 | nil=>simp [aP]
 | cons t l ih=>simp only [aP,List.length_cons];split<;>omega
theorem jI (l k:List Va):aP (l++k)=aP l+aP k:=by
 induction l with
 | nil=>simp [aP]
 | cons t l ih=>simp only [aP,List.cons_append,ih];omega
theorem jJ (l:List Va) (n:Nat):aP (l.take n)≤aP l:=by
 have:=jI (l.take n) (l.drop n)
 rw [List.take_append_drop] at this
 omega
theorem jh {cs:List Cl} (h:eX cs nm m=true):0≤m.stack/\m.stack≤30/\(bX m.params:Int)≤m.locs/\m.locs≤60/\m.params.length≤4/\1≤m.code.length/\m.code.length≤400/\(∀i∈m.code,bD cs nm m.code.length m.locs i=true)/\(∀t∈m.params,fO cs.length t=true)/\(∀x∈m.hands,mV cs.length m.code.length x=true)/\m9 cs.length m.ret=true:=by
 unfold eX ew at h
 simp only [Bool.and_eq_true,List.all_eq_true,decide_eq_true_eq] at h
 obtain ⟨⟨⟨⟨⟨h1,h2⟩,h3⟩,h4⟩,h5⟩,h6⟩:=h
 exact ⟨by omega,by omega,by omega,by omega,by omega,by omega,by omega,h6,h2,h3,h4⟩
theorem Gc.le (g:Gc h c) (l:Le h h'):Gc h' c :=
 ⟨fun v hv=>(g.stk v hv).le l,fun v hv=>(g.locs v hv).le l,g.ok,g.room,g.len,by rw [l.file];exact g.me,g.mok⟩
section
variable {h:Hp} {c:aH}
theorem Gc.short (g:Gc h c):c.stk.length≤30:=by
 have h1:=zE c.stk
 have h2:=(jh g.me).2.1
 have h3:=g.room
 omega
theorem Gc.cut (g:Gc h c) (k:Nat):Gc h (c.cut k):=by
 unfold aH.cut;split
 ·refine ⟨fun v hv=>g.stk v (List.mem_of_mem_take hv),g.locs,g.ok,?_,g.len,g.me,g.mok⟩
  have:=jJ c.stk (c.stk.length-k)
  have:=g.room
  dsimp only;omega
 ·exact g
theorem Gc.pc (g:Gc h c) (n:Int):Gc h { c with pc:=n }:=⟨g.stk,g.locs,g.ok,g.room,g.len,g.me,g.mok⟩
theorem Gc.put (g:Gc h c) (hv:iJ h v) (hr:(aP (c.stk++[v]):Int)≤c.m.stack):Gc h (c.put v):=by
 refine ⟨fun x hx=>?_,g.locs,g.ok,hr,g.len,g.me,g.mok⟩
 unfold aH.put at hx
 rw [List.mem_append] at hx
 rcases hx with hx|hx
 ·exact g.stk x hx
 ·simp at hx;subst hx;exact hv
theorem A9 (ho:(h.putH c v).over=false) (hs:h.stops=false):(aP (c.stk++[v]):Int)≤c.m.stack:=by
 unfold Hp.putH at ho
 rw [if_neg (by rw [hs];decide)] at ho
 unfold Hp.must at ho
 split at ho
 ·rename_i hd;exact of_decide_eq_true hd
 ·rename_i hd
  unfold Hp.stops at hs
  simp at hs
  simp [Hp.fin,hs.1] at ho
end
theorem lj (h:Hp) (c:aH) (v:Va):(h.putH c v).thrown=h.thrown:=by
 unfold Hp.putH;split
 ·rfl
 ·unfold Hp.must;split
  ·rfl
  ·unfold Hp.fin;split<;>rfl
theorem yk (h:Hp) (e:Int):(h.fin e).thrown=h.thrown:=by unfold Hp.fin;split<;>rfl
theorem jK (h:Hp) (b:Bool):(h.must b).thrown=h.thrown:=by unfold Hp.must;split;rfl;exact yk h 6
theorem zF {b:Bool} (ho:(h.must b).over=false):b=true/\h.over=false:=by
 unfold Hp.must at ho;split at ho
 ·rename_i hb;exact ⟨hb,ho⟩
 ·unfold Hp.fin at ho;split at ho
  ·rename_i h1;rw [h1] at ho;cases ho
  ·simp at ho
section
variable {l:List Va}
theorem n8 (h:gZ l) (i:Nat) (v:Va) (h9:v.kind≠9) (h2:v.kind≠2):gZ (l.set i v):=by
 have key:∀j,j<l.length->nth ag (l.set i v) j=v∨nth ag (l.set i v) j=nth ag l j:=fun j hj=>by
  by_cases e:i=j
  ·subst e;exact Or.inl (fe hj)
  ·exact Or.inr (dY e)
 refine ⟨fun j hj hk=>?_,fun j hj hk=>?_⟩
 ·rw [List.length_set] at hj
  rcases key j hj with e|e
  ·rw [e] at hk;exact absurd hk h9
  ·rw [e] at hk;exact h.nine j hj hk
 ·rw [List.length_set] at hj ⊢
  rcases key j hj with e|e
  ·rw [e] at hk;exact absurd hk h2
  ·rw [e] at hk;exact h.two j hj hk
theorem yl (h:gZ l) (a:Nat):gZ (cE l a):=by
 have h0:(ag).kind≠9:=by decide
 have h1:(ag).kind≠2:=by decide
 unfold cE;split
 ·exact n8 (n8 h _ _ h0 h1) _ _ h0 h1
 ·split
  ·exact n8 (n8 h _ _ h0 h1) _ _ h0 h1
  ·exact n8 h _ _ h0 h1
theorem DX (h:gZ l) (a:Nat) (v:Va) (h9:v.kind≠9) (h2:v.kind=2->a+1<l.length):gZ (eu l a v):=by
 unfold eu;split
 ·rename_i hk
  have hl:=h2 hk
  have h3:=yl (yl h a) (a+1)
  have hlen:(cE (cE l a) (a+1)).length=l.length:=by rw [fS,fS]
  generalize cE (cE l a) (a+1)=m at h3 hlen
  refine ⟨fun j hj OB=>?_,fun j hj OC=>?_⟩
  ·rw [List.length_set,List.length_set] at hj
   by_cases e:a=j
   ·subst e;rw [fe (by rw [List.length_set];exact hj)] at OB;exact absurd OB h9
   ·rw [dY e] at OB
    by_cases e2:a+1=j
    ·omega
    ·rw [dY e2] at OB;exact h3.nine j hj OB
  ·rw [List.length_set,List.length_set] at hj ⊢
   by_cases e:a=j
   ·omega
   ·rw [dY e] at OC
    by_cases e2:a+1=j
    ·subst e2;rw [fe hj] at OC;exact absurd OC (by decide)
    ·rw [dY e2] at OC;exact h3.two j hj OC
 ·rename_i hk
  exact n8 (yl h a) a v h9 hk
theorem sW {a:Nat} {x:Va} (h:x∈cE l a):x=ag∨x∈l:=by
 unfold cE at h;split at h
 ·rcases fM h with h|h
  ·exact Or.inl h
  ·exact fM h
 ·split at h
  ·rcases fM h with h|h
   ·exact Or.inl h
   ·exact fM h
  ·exact fM h
end
theorem DY (hl:∀x∈l,iJ h x) (hv:iJ h v) (a:Nat):∀x∈eu l a v,iJ h x:=by
 intro x hx
 have h0:=lg h
 have h9:iJ h ⟨9,0⟩:=⟨fun e=>absurd e (by decide),by unfold cP;decide⟩
 unfold eu at hx;split at hx
 ·rcases fM hx with rfl|hx
  ·exact hv
  rcases fM hx with rfl|hx
  ·exact h9
  rcases sW hx with rfl|hx
  ·exact h0
  rcases sW hx with rfl|hx
  ·exact h0
  exact hl x hx
 ·rcases fM hx with rfl|hx
  ·exact hv
  rcases sW hx with rfl|hx
  ·exact h0
  exact hl x hx
structure Kept (h:Hp) (c:aH) (d:jx):Prop where
 le:Le h d.h
 gh:Gh 0 d.h
 gc:d.h.over=false->Gc d.h d.c
 m:d.c.m=c.m
 pc:d.c.pc=c.pc
 nx:0≤d.nx/\d.nx≤c.m.code.length
theorem mw (c:aH) (k:Nat):(c.cut k).m=c.m/\(c.cut k).pc=c.pc/\(c.cut k).locs=c.locs:=by unfold aH.cut;split<;>exact ⟨rfl,rfl,rfl⟩
theorem Ba {b:Bool} (ho:(h.must b).over=false):h.must b=h:=by
 have:=(zF ho).1;unfold Hp.must;rw [if_pos this]
theorem DZ (h:c.has k=true):k≤c.stk.length:=of_decide_eq_true h
theorem Du (g:Gc h c) (k i:Nat) (hi:i<k) (hk:k≤c.stk.length):iJ h (nth ag (c.top k) i):=g.stk _ (gX hk hi)
theorem kE (g:Gc h c) (k i:Nat) (hi:i<k):iJ h (nth ag (c.top k) i):=by
 by_cases hk:k≤c.stk.length
 ·exact Du g k i hi hk
 ·rw [pW hk]
  have e:nth ag (List.replicate k ag) i=ag:=by simp [nth,List.getD,hi]
  rw [e];exact lg h
theorem lV (h:Hp) (a b:Va) (i:In):Le h (givesH h a b i):=by
 unfold givesH
 split;exact Le.refl h
 split;exact vY ..
 split;exact vY ..
 split;exact au ..
 split;exact au ..
 split;exact au ..
 split;exact yj ..
 split;exact lh ..
 split;exact zC ..
 split;exact au ..
 split;exact Le.refl h
 exact vX h
theorem Gh.gives (g:Gh s h) (a b:Va) (i:In):Gh s (givesH h a b i):=by
 unfold givesH
 split;exact g
 split;exact g.reckH ..
 split;exact g.reckH ..
 split;exact g.must _
 split;exact g.must _
 split;exact g.must _
 split;exact g.new _
 split;exact g.findH ..
 split;exact g.cast ..
 split;exact g.must _
 split;exact g
 exact g.input
theorem Bb (g:Gh s h) (a b:Va) (i:In) (ho:h.over=false) (ha:iJ h a) (hi:i.ok):iJ (givesH h a b i) (aG h a b i):=by
 have hle:=lV h a b i
 have num:∀(k n:Int) (h':Hp),k≠3->cP n->iJ h' ⟨k,n⟩:=fun k n h' h1 h2=>⟨fun e=>absurd e h1,h2⟩
 by_cases e1:i.op=1
 ·have eH:givesH h a b i=h:=by simp [givesH,ho,e1]
  have eV:aG h a b i=⟨1,i.n⟩:=by simp [aG,ho,e1]
  rw [eH,eV]
  exact num _ _ _ (by omega) hi.2.2.2.2
 by_cases e2:i.op=2
 ·have eH:givesH h a b i=h:=by simp [givesH,ho,e2]
  have eV:aG h a b i=⟨2,i.n⟩:=by simp [aG,ho,e2]
  rw [eH,eV]
  exact num _ _ _ (by omega) hi.2.2.2.2
 by_cases e3:i.op=3
 ·have eH:givesH h a b i=h:=by simp [givesH,ho,e3]
  have eV:aG h a b i=⟨3,-1⟩:=by simp [aG,ho,e3]
  rw [eH,eV]
  exact ⟨fun _=>⟨Int.le_refl _,by show (-1:Int)<_;omega⟩,by show cP (-1);unfold cP;omega⟩
 by_cases e6:i.op=6
 ·have eH:givesH h a b i=h.reckH a b 1 i.a:=by simp [givesH,ho,e6]
  have eV:aG h a b i=h.reckV a b 1 i.a:=by simp [aG,ho,e6]
  rw [eH,eV]
  exact vZ _ _ _ _ _ _ (by omega) ha.num
 by_cases e7:i.op=7
 ·have eH:givesH h a b i=h.reckH a b 2 i.a:=by simp [givesH,ho,e7]
  have eV:aG h a b i=h.reckV a b 2 i.a:=by simp [aG,ho,e7]
  rw [eH,eV]
  exact vZ _ _ _ _ _ _ (by omega) ha.num
 by_cases e8:i.op=8
 ·have eH:givesH h a b i=h.must (decide (a.kind=1)):=by simp [givesH,ho,e8]
  have eV:aG h a b i=⟨2,a.n⟩:=by simp [aG,ho,e8]
  rw [eH,eV]
  exact num _ _ _ (by omega) ha.num
 by_cases e9:i.op=9
 ·have eH:givesH h a b i=h.must (decide (a.kind=2)):=by simp [givesH,ho,e9]
  have eV:aG h a b i=⟨1,wrap32 a.n⟩:=by simp [aG,ho,e9]
  rw [eH,eV]
  exact num _ _ _ (by omega) (pC _)
 by_cases L7:i.op=10
 ·have eH:givesH h a b i=h.must (ct a b 2):=by simp [givesH,ho,L7]
  have eV:aG h a b i=⟨1,ma a.n b.n⟩:=by simp [aG,ho,L7]
  rw [eH,eV]
  exact num _ _ _ (by omega) (by unfold ma;split;(unfold cP;omega);split<;>(unfold cP;omega))
 by_cases Qt:i.op=14
 ·have eH:givesH h a b i=h.new i.a:=by simp [givesH,ho,Qt]
  have eV:aG h a b i=h.newV:=by simp [aG,ho,Qt]
  rw [eH,eV]
  exact Il h _
 by_cases Qv:i.op=15
 ·have eH:givesH h a b i=h.findH a i.a:=by simp [givesH,ho,Qv]
  have eV:aG h a b i=h.getV a i.a i.b:=by simp [aG,ho,Qv]
  rw [eH,eV]
  exact (Im g a _ _ ha).le (lh _ _ _)
 by_cases e17:i.op=17
 ·have eH:givesH h a b i=h.cast a i.a:=by simp [givesH,ho,e17]
  have eV:aG h a b i=a:=by simp [aG,ho,e17]
  rw [eH,eV]
  exact ha.le (zC _ _ _)
 by_cases Qw:i.op=18
 ·have eH:givesH h a b i=h.must (isRef a):=by simp [givesH,ho,Qw]
  have eV:aG h a b i=h.isV a i.a:=by simp [aG,ho,Qw]
  rw [eH,eV]
  exact num _ _ _ (by omega) (by split<;>(unfold cP;omega))
 have eH:givesH h a b i=h.input':=by simp [givesH,ho,e1,e2,e3,e6,e7,e8,e9,L7,Qt,Qv,e17,Qw]
 have eV:aG h a b i=h.inV:=by simp [aG,ho,e1,e2,e3,e6,e7,e8,e9,L7,Qt,Qv,e17,Qw]
 rw [eH,eV]
 exact (L5 g).le (vX h)
theorem ji (gc:Gc h c) (hg:iJ h v) (hst:h.stops=false) (bq:(h.putH c v).over=false):Gc (h.putH c v) (c.put v) :=
 (gc.le (dp h c v)).put (hg.le (dp h c v)) (A9 bq hst)
theorem j9 (gh:Gh 1 h) (gc:Gc h c) (ho:h.over=false) (iV:h.thrown=-1) (ok:vU h.file.classes nm c.m.code.length c.locs.length i) (Bd:i.ok) (hp:0≤c.pc/\c.pc<c.m.code.length):Kept h c (aM h c i):=by
 have VP:h.stops=false:=by unfold Hp.stops;rw [ho,iV];rfl
 have pD:0≤c.pc+1/\c.pc+1≤c.m.code.length:=by omega
 have cm:=fun k=>mw c k
 have g1:∀k,Gh 1 (h.must (c.has k)):=fun k=>gh.must _
 have l1:∀k,Le h (h.must (c.has k)):=fun k=>au h _
 unfold aM
 split
 ·rename_i e
  exact ⟨Le.refl h,gh.less,fun _=>gc,rfl,rfl,by have:=ok.jump (Or.inl e);dsimp only;omega⟩
 split
 ·rename_i e
  have hj:=ok.jump (Or.inr (Or.inl e))
  unfold DF
  exact ⟨(l1 1).trans (au _ _),((g1 1).must _).less,fun _=>(gc.cut 1).le ((l1 1).trans (au _ _)),(cm 1).1,(cm 1).2.1,by dsimp only;split<;>omega⟩
 split
 ·rename_i e
  have hj:=ok.jump (Or.inr (Or.inr e))
  unfold pS
  exact ⟨(l1 1).trans (au _ _),((g1 1).must _).less,fun _=>(gc.cut 1).le ((l1 1).trans (au _ _)),(cm 1).1,(cm 1).2.1,by dsimp only;split<;>omega⟩
 split
 ·unfold vL
  have hl:Le h (if (h.must (c.has 1)).over=true then h.must (c.has 1) else (h.must (c.has 1)).throw (nth ag (c.top 1) 0)):=by
   split
   ·exact l1 1
   ·exact (l1 1).trans (vV _ _)
  refine ⟨hl,?_,fun _=>(gc.cut 1).le hl,(cm 1).1,(cm 1).2.1,pD⟩
  dsimp only
  split
  ·exact (g1 1).less
  ·exact ((g1 1).throw _ ((kE gc 1 0 (by omega)).le (l1 1))).less
 split
 ·rename_i e
  obtain ⟨s1,s2,-⟩:=ok.slot (Or.inl e)
  unfold kQ
  dsimp only
  split
  ·rename_i hm
   have hg:iJ h (nth ag c.locs i.a.toNat):=gc.locs _ (bE (by omega))
   have hle:=dp h c (nth ag c.locs i.a.toNat)
   refine ⟨hle,(gh.putH _ _).less,fun bq=>?_,rfl,rfl,pD⟩
   exact ji gc hg VP bq
  ·exact ⟨au _ _,(gh.must _).less,fun _=>gc.le (au _ _),rfl,rfl,pD⟩
 split
 ·rename_i e
  obtain ⟨s1,s2,s3,-⟩:=ok.slot (Or.inr e)
  obtain ⟨k1,k2⟩:=ok.kind (Or.inr e)
  unfold kB
  refine ⟨(l1 1).trans (au _ _),((g1 1).must _).less,fun bq=>?_,?_,?_,pD⟩
  ·dsimp only at bq ⊢
   have hle:=(l1 1).trans (au (h.must (c.has 1)) (decide ((nth ag (c.top 1) 0).kind=i.b)))
   have gk:=(gc.cut 1).le hle
   split
   ·rename_i hm
    have hk:(nth ag (c.top 1) 0).kind=i.b:=of_decide_eq_true (dX hm).1
    have hg:=(kE gc 1 0 (by omega)).le hle
    have OD:=(cm 1).2.2
    refine ⟨gk.stk,DY (fun x hx=>gk.locs x (by rw [OD];exact hx)) hg _,DX gc.ok _ _ (by rw [hk];omega) (fun h2=>by rw [hk] at h2;have:=s3 h2;omega),gk.room,?_,gk.me,gk.mok⟩
    show ((eu c.locs i.a.toNat (nth ag (c.top 1) 0)).length:Int)=(c.cut 1).m.locs
    rw [fT,(cm 1).1];exact gc.len
   ·exact gk
  ·dsimp only;split
   ·exact (cm 1).1
   ·exact (cm 1).1
  ·dsimp only;split
   ·exact (cm 1).2.1
   ·exact (cm 1).2.1
 split
 ·unfold DG
  exact ⟨l1 1,(g1 1).less,fun _=>(gc.cut 1).le (l1 1),(cm 1).1,(cm 1).2.1,pD⟩
 split
 ·unfold pj
  dsimp only
  have ga:=(kE gc 1 0 (by omega)).le (l1 1)
  have gk:=(gc.cut 1).le (l1 1)
  split
  ·exact ⟨l1 1,(g1 1).less,fun _=>gk,(cm 1).1,(cm 1).2.1,pD⟩
  ·rename_i Rv
   have OE:(h.must (c.has 1)).over=false:=by simpa using Rv
   have Rx:(h.must (c.has 1)).stops=false:=by unfold Hp.stops;rw [OE,jK,iV];rfl
   refine ⟨((l1 1).trans (dp _ _ _)).trans (dp _ _ _),(((g1 1).putH _ _).putH _ _).less,fun bq=>?_,(cm 1).1,(cm 1).2.1,pD⟩
   dsimp only at bq ⊢
   have NN:((h.must (c.has 1)).putH (c.cut 1) (nth ag (c.top 1) 0)).over=false:=by
    cases hx:((h.must (c.has 1)).putH (c.cut 1) (nth ag (c.top 1) 0)).over
    ·rfl
    ·have:((h.must (c.has 1)).putH (c.cut 1) (nth ag (c.top 1) 0)).stops=true:=by unfold Hp.stops;rw [hx];rfl
     unfold Hp.putH at bq
     rw [if_pos (by unfold Hp.putH at this;exact this)] at bq
     unfold Hp.putH at hx
     rw [hx] at bq;cases bq
   have Ry:((h.must (c.has 1)).putH (c.cut 1) (nth ag (c.top 1) 0)).stops=false:=by unfold Hp.stops;rw [NN,lj,jK,iV];rfl
   have VQ:=ji gk ga Rx NN
   exact ji VQ (ga.le (dp _ _ _)) Ry bq
 split
 ·unfold oO
  have hl:Le h (if (h.must (c.has 1)).over=true then h.must (c.has 1) else (h.must (c.has 1)).emit (nth ag (c.top 1) 0) i.a):=by
   split
   ·exact l1 1
   ·exact (l1 1).trans (zD _ _ _)
  refine ⟨hl,?_,fun _=>(gc.cut 1).le hl,(cm 1).1,(cm 1).2.1,pD⟩
  dsimp only
  split
  ·exact (g1 1).less
  ·exact (g1 1).emit _ _
 split
 ·unfold jZ
  have hl:Le h (if (h.must (c.has 2)).over=true then h.must (c.has 2) else if (h.must (c.has 2)).mustB (isRef (nth ag (c.top 2) 0))=true then (h.must (c.has 2)).put (nth ag (c.top 2) 0) i.a i.b (nth ag (c.top 2) 1) else (h.must (c.has 2)).must (isRef (nth ag (c.top 2) 0))):=by
   split
   ·exact l1 2
   ·split
    ·exact (l1 2).trans (DW _ _ _ _ _)
    ·exact (l1 2).trans (au _ _)
  refine ⟨hl,?_,fun _=>(gc.cut 2).le hl,(cm 2).1,(cm 2).2.1,pD⟩
  dsimp only
  split
  ·exact (g1 2).less
  ·split
   ·exact ((g1 2).put _ _ _ _ ((kE gc 2 1 (by omega)).le (l1 2))).less
   ·exact ((g1 2).must _).less
 ·unfold bZ
  dsimp only
  have hl:=(l1 (aJ i.op)).trans (lV (h.must (c.has (aJ i.op))) (nth ag (c.top (aJ i.op)) 0) (nth ag (c.top (aJ i.op)) 1) i)
  split
  ·exact ⟨hl,((g1 _).gives _ _ _).less,fun _=>(gc.cut _).le hl,(cm _).1,(cm _).2.1,pD⟩
  ·rename_i hst
   refine ⟨hl.trans (dp _ _ _),(((g1 _).gives _ _ _).putH _ _).less,fun bq=>?_,(cm _).1,(cm _).2.1,pD⟩
   dsimp only at bq ⊢
   have D1:(givesH (h.must (c.has (aJ i.op))) (nth ag (c.top (aJ i.op)) 0) (nth ag (c.top (aJ i.op)) 1) i).stops=false:=by simpa using hst
   have NP:(h.must (c.has (aJ i.op))).over=false:=by
    cases hx:(h.must (c.has (aJ i.op))).over
    ·rfl
    ·have:givesH (h.must (c.has (aJ i.op))) (nth ag (c.top (aJ i.op)) 0) (nth ag (c.top (aJ i.op)) 1) i=h.must (c.has (aJ i.op)):=by unfold givesH;rw [if_pos hx]
     rw [this] at D1
     unfold Hp.stops at D1
     rw [hx] at D1
     cases D1
   refine ji ((gc.cut _).le hl) (Bb (g1 _) _ _ i NP ?_ Bd) D1 bq
   by_cases hm:0<aJ i.op
   ·exact (kE gc _ 0 hm).le (l1 _)
   ·have h0:aJ i.op=0:=by omega
    rw [h0]
    have e:nth ag (c.top 0) 0=ag:=by
     have:(c.top 0)=[]:=List.eq_nil_of_length_eq_zero (aC c 0)
     rw [this];rfl
    rw [e];exact lg _
theorem zG {t:Ty} (ho:h.of v t=true):v.kind=t.kind:=by
 unfold Hp.of at ho
 rw [Bool.and_eq_true] at ho
 exact of_decide_eq_true ho.1
theorem zH {n:Nat} {t:Ty} (h:fO n t=true):1≤t.kind/\t.kind≤3:=by
 have:=of_decide_eq_true h
 omega
theorem g5 (h:Hp) (n:Nat):∀(l:List Va) (k:List Ty),l.length=k.length->h.enterL l k=true->(∀t∈k,fO n t=true)->aP l=bX k/\∀v∈l,1≤v.kind/\v.kind≤3
 | [],[],_,_,_=>⟨rfl,fun v hv=>by simp at hv⟩
 | [],_::_,hl,_,_=>by simp at hl
 | _::_,[],hl,_,_=>by simp at hl
 | v::l,t::k,hl,he,ht=>by
  unfold Hp.enterL at he
  rw [Bool.and_eq_true] at he
  have ih:=g5 h n l k (by simpa using hl) he.2 (fun x hx=>ht x (List.mem_cons_of_mem _ hx))
  have hk:=zG he.1
  have YB:=zH (ht t (List.mem_cons_self ..))
  refine ⟨?_,fun x hx=>?_⟩
  ·simp only [aP,bX,ih.1,hk]
  ·rw [List.mem_cons] at hx
   rcases hx with rfl|hx
   ·omega
   ·exact ih.2 x hx
theorem kF (v:Va):aP [v]=if v.kind=2 then 2 else 1:=by simp [aP]
theorem oa (h:Hp):∀(l:List Va) (l0:List Va) (fk:Nat),gZ l0->(∀x∈l0,iJ h x)->(∀x∈l,iJ h x)->(∀v∈l,1≤v.kind/\v.kind≤3)->fk+aP l≤l0.length ->
  gZ (dS l0 fk l)/\(∀x∈dS l0 fk l,iJ h x)/\(dS l0 fk l).length=l0.length
 | [],l0,fk,h1,h2,_,_,_=>⟨h1,h2,rfl⟩
 | v::l,l0,fk,h1,h2,h3,h4,h5=>by
  have hv:=h3 v (List.mem_cons_self ..)
  have hk:=h4 v (List.mem_cons_self ..)
  have es:aP (v::l)=(if v.kind=2 then 2 else 1)+aP l:=rfl
  have ih:=oa h l (eu l0 fk v) (fk+aP [v]) (DX h1 fk v (by omega) (fun e=>by rw [es,if_pos e] at h5;omega)) (DY h2 hv fk) (fun x hx=>h3 x (List.mem_cons_of_mem _ hx)) (fun x hx=>h4 x (List.mem_cons_of_mem _ hx)) (by rw [fT,kF];rw [es] at h5;omega)
  refine ⟨ih.1,ih.2.1,?_⟩
  show (dS (eu l0 fk v) (fk+aP [v]) l).length=_
  rw [ih.2.2,fT]
theorem D2 (n:Nat):gZ (List.replicate n ag):=by
 have key:∀i,nth ag (List.replicate n ag) i=ag:=fun i=>by simp [nth,List.getD,List.getElem?_replicate];split<;>rfl
 exact ⟨fun i _ hk=>by rw [key] at hk;exact absurd hk (by decide),fun i _ hk=>by rw [key] at hk;exact absurd hk (by decide)⟩
theorem ny (hm:eX h.file.classes h.file.methods.length m=true) (hok:∀i∈m.code,i.ok) (hl:l.length=m.params.length) (hg:∀v∈l,iJ h v) (he:h.enterL l m.params=true):Gc h (bT m l):=by
 obtain ⟨p1,p2,p3,p4,p5,p6,p7,p8,p9,Io,KQ⟩:=jh hm
 obtain ⟨s1,s2⟩:=g5 h h.file.classes.length l m.params hl he p9
 obtain ⟨k1,k2,k3⟩:=oa h l (List.replicate m.locs.toNat ag) 0 (D2 _) (fun x hx=>by rw [List.eq_of_mem_replicate hx];exact lg h) hg s2 (by rw [List.length_replicate];omega)
 refine ⟨fun v hv=>by simp [bT] at hv,k2,k1,?_,?_,hm,hok⟩
 ·show ((aP []:Nat):Int)≤m.stack;simp [aP];omega
 ·show ((dS (List.replicate m.locs.toNat ag) 0 l).length:Int)=m.locs
  rw [k3,List.length_replicate];omega
structure iK (h:Hp) (r:Hp×Va) (d:Int):Prop where
 file:r.1.file=h.file
 input:r.1.input=h.input
 fuel:r.1.fuel=h.fuel
 objs:h.objs.length≤r.1.objs.length
 steps:h.sh.steps≤r.1.sh.steps
 calls:r.1.calls=h.calls-d
 gh:Gh 0 r.1
 gv:iJ r.1 r.2
theorem fQ {h1:Hp} (l:Le h h1) (g:Gh 0 h1) (hc:1≤h.calls) (gv:iJ h1 v):iK h (h1.leave,v) 1:=by
 have hcc:=l.calls
 have:=g.calls
 refine ⟨l.file,l.input,l.fuel,l.objs,l.steps,?_,?_,⟨gv.ref,gv.num⟩⟩
 ·show h1.calls-1=_;omega
 ·exact ⟨fun o ho x hx=>⟨(g.held o ho x hx).ref,(g.held o ho x hx).num⟩,g.thr,g.used,g.steps,g.fuel,g.out,g.len,g.inp,by show 0≤h1.calls-1/\h1.calls-1≤20;omega⟩
theorem iK.from {h1:Hp} {r:Hp×Va} {d:Int} (l:Le h h1) (k:iK h1 r d):iK h r d :=
 ⟨k.file.trans l.file,k.input.trans l.input,k.fuel.trans l.fuel,Nat.le_trans l.objs k.objs,Int.le_trans l.steps k.steps,by rw [k.calls,l.calls],k.gh,k.gv⟩
theorem iK.le {r:Hp×Va} (k:iK h r 0):Le h r.1:=⟨k.file,k.input,k.fuel,k.objs,k.steps,by rw [k.calls];omega⟩
def Inv (h:Hp) (c:aH):Prop:=h.over=false->h.thrown=-1/\Gc h c/\0≤c.pc/\c.pc≤c.m.code.length
def D3 (f:Fi) (go:Hp->aH->Hp×Va):Prop:=∀h c,h.file=f->Gh 0 h->1≤h.calls->Inv h c->iK h (go h c) 1
theorem TW (hmay:∀m∈h.file.methods,eX h.file.classes h.file.methods.length m=true/\∀i∈m.code,i.ok) {i:Nat} (hi:i<h.file.methods.length):eX h.file.classes h.file.methods.length (nth bM h.file.methods i)=true/\∀x∈(nth bM h.file.methods i).code,x.ok:=hmay _ (bE hi)
def pX (f:Fi):Prop:=∀m∈f.methods,eX f.classes f.methods.length m=true/\∀i∈m.code,i.ok
section
variable {f:Fi} {go:Hp->aH->Hp×Va}
theorem vu (G:D3 f go) (hf:h.file=f) (gh:Gh 0 h) (ho:h.over=false) (iV:h.thrown=-1) (hm:eX h.file.classes h.file.methods.length m=true) (hok:∀i∈m.code,i.ok) (hl:l.length=m.params.length) (hg:∀v∈l,iJ h v):iK h (fY go h m l) 0:=by
 unfold fY
 split
 ·rename_i hb
  unfold Hp.enterB at hb
  rw [Bool.and_eq_true] at hb
  have hd:h.deep=false:=by simpa using hb.2
  have he:h.enterH m l={ h with calls:=h.calls+1 }:=by unfold Hp.enterH;rw [if_neg (by rw [hb.1];decide),if_neg (by rw [hd];decide)]
  rw [he]
  have hc:h.calls<20:=by unfold Hp.deep at hd;simpa using hd
  have hcc:=gh.calls
  have g1:Gh 0 { h with calls:=h.calls+1 }:=⟨fun o ho x hx=>⟨(gh.held o ho x hx).ref,(gh.held o ho x hx).num⟩,gh.thr,gh.used,gh.steps,gh.fuel,gh.out,gh.len,gh.inp,by dsimp only;omega⟩
  have gc:=ny hm hok hl hg hb.1
  have L8:Gc { h with calls:=h.calls+1 } (bT m l):=⟨fun v hv=>⟨(gc.stk v hv).ref,(gc.stk v hv).num⟩,fun v hv=>⟨(gc.locs v hv).ref,(gc.locs v hv).num⟩,gc.ok,gc.room,gc.len,gc.me,gc.mok⟩
  have r:=G { h with calls:=h.calls+1 } (bT m l) hf g1 (by dsimp only;omega) (fun _=>⟨iV,L8,Int.le_refl _,by show (0:Int)≤_;omega⟩)
  exact ⟨r.file,r.input,r.fuel,r.objs,r.steps,by rw [r.calls];dsimp only;omega,r.gh,r.gv⟩
 ·have le:Le h (h.enterH m l)/\Gh 0 (h.enterH m l):=by
   rename_i hb
   unfold Hp.enterB at hb
   unfold Hp.enterH
   split
   ·exact ⟨gy h 6,gh.fin 6⟩
   ·rename_i h1
    split
    ·exact ⟨gy h 5,gh.fin 5⟩
    ·rename_i h2
     exfalso;apply hb
     rw [Bool.and_eq_true]
     refine ⟨?_,?_⟩
     ·cases hx:h.enterL l m.params
      ·exact absurd hx h1
      ·rfl
     ·cases hx:h.deep
      ·rfl
      ·exact absurd hx h2
  exact ⟨le.1.file,le.1.input,le.1.fuel,le.1.objs,le.1.steps,by rw [le.1.calls];omega,le.2,lg _⟩
theorem ru (G:D3 f go) (hf:h.file=f) (gh:Gh 0 h) (gc:Gc h c) (ho:h.over=false) (iV:h.thrown=-1) (hmay:pX h.file) (hi:0≤i.a/\i.a<h.file.methods.length) (hp:0≤c.pc/\c.pc<c.m.code.length):Kept h c (gu go h c i):=by
 have pD:0≤c.pc+1/\c.pc+1≤c.m.code.length:=by omega
 have jy:=hmay _ (bE (d:=bM) (i:=i.a.toNat) (by omega:i.a.toNat<h.file.methods.length))
 unfold gu
 dsimp only
 generalize hM:nth bM h.file.methods i.a.toNat=m at *
 have cm:=mw c m.params.length
 have l1:=au h (c.has m.params.length)
 have g1:=gh.must (c.has m.params.length)
 split
 ·exact ⟨l1,g1,fun _=>(gc.cut _).le l1,cm.1,cm.2.1,pD⟩
 ·rename_i bq
  have nz:(h.must (c.has m.params.length)).over=false:=by simpa using bq
  have e1:=Ba nz
  have Rz:=(zF nz).1
  rw [e1] at *
  have r:=vu G hf gh ho iV jy.1 jy.2 (aC c _) (fun v hv=>by
   have e:c.top m.params.length=c.stk.drop (c.stk.length-m.params.length):=by unfold aH.top;rw [if_pos (DZ Rz)]
   rw [e] at hv
   exact gc.stk v (List.mem_of_mem_drop hv))
  split
  ·rename_i hst
   refine ⟨r.le.trans (dp _ _ _),r.gh.putH _ _,fun hx=>ji ((gc.cut _).le r.le) r.gv hst.1 hx,cm.1,cm.2.1,pD⟩
  ·exact ⟨r.le,r.gh,fun _=>(gc.cut _).le r.le,cm.1,cm.2.1,pD⟩
end
theorem lW {pc:Int} {n:Nat}:∀l:List Hd,(∀x∈l,mV k n x=true)->h.caughtL pc l=-1∨(0≤h.caughtL pc l/\h.caughtL pc l<n)
 | [],_=>Or.inl rfl
 | x::l,hx=>by
  unfold Hp.caughtL;split
  ·have:=of_decide_eq_true (hx x (List.mem_cons_self ..));right;omega
  ·exact lW l (fun y hy=>hx y (List.mem_cons_of_mem _ hy))
theorem Be {f:Fi} {go:Hp->aH->Hp×Va} (G:D3 f go) {d:jx} (hf:h.file=f) (k:Kept h c d) (hc:1≤h.calls):iK h (dM go d) 1:=by
 unfold dM
 split
 ·exact fQ k.le k.gh hc (lg _)
 ·rename_i bq
  have nz:d.h.over=false:=by simpa using bq
  have gc:=k.gc nz
  have hcc:=k.le.calls
  split
  ·rename_i ht
   split
   ·exact fQ k.le k.gh hc (lg _)
   ·rename_i hn
    have gt:Gh 0 { d.h with thrown:=-1 }:=k.gh.same rfl rfl rfl rfl rfl rfl rfl ⟨by dsimp only;omega,by dsimp only;omega⟩
    have lt:Le d.h { d.h with thrown:=-1 }:=⟨rfl,rfl,rfl,Nat.le_refl _,Int.le_refl _,rfl⟩
    have gv:iJ { d.h with thrown:=-1 } ⟨3,d.h.thrown⟩:=⟨fun _=>⟨by dsimp only;omega,k.gh.thr.2⟩,by have:=k.gh.thr;have:=k.gh.len;dsimp only;unfold cP;omega⟩
    have RA:Gc { d.h with thrown:=-1 } { d.c with stk:=[] }:=by
     have x:=gc.le lt
     refine ⟨fun v hv=>by simp at hv,x.locs,x.ok,?_,x.len,x.me,x.mok⟩
     have:=(jh x.me).1
     show ((aP []:Nat):Int)≤_;simp [aP];exact this
    have L9:({ d.h with thrown:=-1 }:Hp).stops=false:=by unfold Hp.stops;dsimp only;rw [nz];rfl
    refine iK.from ((k.le.trans lt).trans (dp _ _ _)) (G _ _ (by rw [(dp _ _ _).file];exact k.le.file.trans hf) (gt.putH _ _) ?_ ?_)
    ·rw [(dp _ _ _).calls];show 1≤d.h.calls;omega
    ·intro NN
     refine ⟨lj _ _ _,(ji RA gv L9 NN).pc _,by show 0≤d.h.caughtL d.c.pc d.c.m.hands;omega,?_⟩
     have h1:=lW (h:=d.h) (pc:=d.c.pc) (n:=d.c.m.code.length) (k:=d.h.file.classes.length) d.c.m.hands (jh gc.me).2.2.2.2.2.2.2.2.2.1
     show d.h.caughtL d.c.pc d.c.m.hands≤d.c.m.code.length
     omega
  ·rename_i ht
   have Ma:d.h.thrown=-1:=by have:=k.gh.thr;omega
   refine iK.from k.le (G _ _ (k.le.file.trans hf) k.gh (by omega) fun _=>⟨Ma,gc.pc _,k.nx.1,?_⟩)
   show d.nx≤d.c.m.code.length
   rw [k.m];exact k.nx.2
theorem D4 (gh:Gh 0 h) (hc:1≤h.calls) (gc:Gc h c):iK h (ju h c) 1:=by
 unfold ju;split
 ·exact fQ (Le.refl h) gh hc (lg _)
 ·dsimp only
  have l1:=au h (c.has 1)
  have l2:=au (h.must (c.has 1)) (!(h.must (c.has 1)).over&&(h.must (c.has 1)).of (nth ag (c.top 1) 0) c.m.ret)
  exact fQ (l1.trans l2) ((gh.must _).must _) hc ((kE gc 1 0 (by omega)).le (l1.trans l2))
theorem lX (gc:Gc h c) (hp:0≤c.pc/\c.pc<c.m.code.length):vU h.file.classes h.file.methods.length c.m.code.length c.locs.length (nth fX c.m.code c.pc.toNat)/\(nth fX c.m.code c.pc.toNat).ok:=by
 have hlt:c.pc.toNat<c.m.code.length:=by omega
 have h8:=(jh gc.me).2.2.2.2.2.2.2.1 _ (bE (d:=fX) hlt)
 refine ⟨?_,gc.mok _ (bE hlt)⟩
 rw [gc.len]
 exact Lu h8
theorem Bf {f:Fi} {go:Hp->aH->Hp×Va} (G:D3 f go) (hf:h.file=f) (hmay:pX f) (gh:Gh 1 h) (hc:1≤h.calls) (ho:h.over=false) (iV:h.thrown=-1) (gc:Gc h c) (hp:0≤c.pc/\c.pc≤c.m.code.length):iK h (gw go h c) 1:=by
 unfold gw;split
 ·exact fQ (au _ _) (gh.must _).less hc (lg _)
 ·rename_i hm
  have VS:h.mustB (decide (c.pc<c.m.code.length))=true:=by simpa using hm
  have hlt:c.pc<c.m.code.length:=of_decide_eq_true (dX VS).1
  obtain ⟨ok,Bd⟩:=lX gc ⟨hp.1,hlt⟩
  split
  ·exact D4 gh.less hc gc
  ·refine Be G hf (c:=c) ?_ hc
   split
   ·rename_i e
    exact ru G hf gh.less gc ho iV (hf▸hmay) (ok.call e) ⟨hp.1,hlt⟩
   ·exact j9 gh gc ho iV ok Bd ⟨hp.1,hlt⟩
theorem r9 (f:Fi) (hmay:pX f):∀n:Nat,D3 f (bF n):=by
 intro n
 induction n with
 | zero =>
  intro h c hf gh hc hi
  show iK h (h.step.leave,ag) 1
  refine fQ (jH h) ?_ hc (lg _)
  cases hb:h.stepB
  ·exact gh.step0 hb
  ·exact (gh.step hb).less
 | succ n ih =>
  intro h c hf gh hc hi
  unfold bF
  split
  ·rename_i hb
   exact fQ (jH h) (gh.step0 hb) hc (lg _)
  ·rename_i hb
   have vp:h.stepB=true:=by simpa using hb
   have ho:h.over=false:=by unfold Hp.stepB at vp;simp at vp;exact vp.1
   obtain ⟨iV,gc,hp⟩:=hi ho
   have hs:h.step={ h with sh:={ h.sh with steps:=h.sh.steps+1 } }:=by
    unfold Hp.stepB at vp;simp at vp
    unfold Hp.step;rw [if_neg (by rw [ho];decide),if_neg (by omega)]
   have l:=jH h
   refine iK.from l (Bf ih (l.file.trans hf) hmay (gh.step vp) (by rw [l.calls];exact hc) ?_ ?_ (gc.le l) hp)
   ·rw [hs];exact ho
   ·rw [hs];exact iV
theorem zI (c a:Int) (b:Nat) (w:World) (hc:w.cell? ⟨b,0,none⟩=some (int i64 c)) :
  Calls Tryz.prog 205 #[int i64 a,.pointer (some ⟨b,0,none⟩)] w fun e w'=>e=.returned (.bool (jb c a))/\w'=w:=by
 by_cases h1:c=1
 ·subst h1
  rw [Ov]
  go_enter Tryz.func205,Tryz.ntmps205
  go_wp2
  go_ret
  exact ⟨rfl,rfl⟩
 by_cases h2:c=2
 ·subst h2
  rw [Ow]
  go_enter Tryz.func205,Tryz.ntmps205
  go_wp2
  go_ret
  exact ⟨rfl,rfl⟩
 by_cases h3:c=3
 ·subst h3
  rw [Ox]
  go_enter Tryz.func205,Tryz.ntmps205
  go_wp2
  go_ret
  exact ⟨rfl,rfl⟩
 by_cases h4:c=4
 ·subst h4
  rw [Oy]
  go_enter Tryz.func205,Tryz.ntmps205
  go_wp2
  go_ret
  exact ⟨rfl,rfl⟩
 rw [Oz c a h1 h2 h3 h4]
 go_enter Tryz.func205,Tryz.ntmps205
 go_wp2
 go_ret
 exact ⟨rfl,rfl⟩
theorem NQ (c a:Int) (w:World) :
  Calls Tryz.prog 90 #[int i64 c,int i64 a] w fun e w'=>e=.returned (.bool (jb c a))/\Grown w w':=by
 have Ip:∀(fn:Fn) (first cap:Array Value) (w:World),(Instr.makeFunc fn first cap).run Tryz.prog w=.ok (.func fn first cap) w:=fun _ _ _ _=>rfl
 go_enter Tryz.func90,Tryz.ntmps90
 go_wp2_with (first|(go_at_call 152;go_in)|(go_at_call 205;refine (zI c _ _ _ (by go_simp)).mono ?_;rintro e w' ⟨rfl,rfl⟩))
 go_ret
 exact ⟨rfl,by repeat (first|exact Grown.refl _|apply Grown.drew|apply Grown.alloc)⟩
structure Safe (P:Hp->Prop):Prop where
 fin:∀(h:Hp) (e:Int),e=3∨e=4∨e=6->P h->P (h.fin e)
 obj:∀(h:Hp) (o:List Ob),P h->P { h with objs:=o }
 thr:∀(h:Hp) (t:Int),P h->P { h with thrown:=t }
 out:∀(h:Hp) (n:Int),P h->P { h with sh:={ h.sh with out:=h.sh.out++[n] } }
 use:∀(h:Hp),P h->P { h with sh:={ h.sh with used:=h.sh.used+1 } }
section
variable {P:Hp->Prop}
theorem Safe.must (S:Safe P) (hf:P h) (b:Bool):P (h.must b):=by
 unfold Hp.must
 split
 ·exact hf
 ·exact S.fin _ _ (by decide) hf
theorem Safe.new (S:Safe P) (hf:P h) (c:Int):P (h.new c):=by
 unfold Hp.new
 split
 ·exact S.fin _ _ (by decide) hf
 ·exact S.obj _ _ hf
theorem Safe.raise (S:Safe P) (hf:P h) (c:Int):P (h.raise c):=by
 unfold Hp.raise
 split
 ·exact S.new hf c
 ·exact S.thr _ _ (S.new hf c)
theorem Safe.throw (S:Safe P) (hf:P h) (v:Va):P (h.throw v):=by
 unfold Hp.throw
 split
 ·split
  ·exact S.raise hf 1
  ·exact S.thr _ _ hf
 ·exact S.must hf _
theorem Safe.findH (S:Safe P) (hf:P h) (r:Va) (c:Int):P (h.findH r c):=by
 unfold Hp.findH
 split
 ·split
  ·exact S.raise hf 1
  ·exact hf
 ·exact S.must hf _
theorem Safe.put (S:Safe P) (hf:P h) (r:Va) (c k:Int) (v:Va):P (h.put r c k v):=by
 unfold Hp.put
 split
 ·split
  ·exact S.findH hf r c
  ·exact S.obj _ _ (S.findH hf r c)
 ·exact S.must hf _
theorem Safe.cast (S:Safe P) (hf:P h) (v:Va) (c:Int):P (h.cast v c):=by
 unfold Hp.cast
 split
 ·split
  ·exact hf
  ·exact S.raise hf 3
 ·exact S.must hf _
theorem Safe.emit (S:Safe P) (hf:P h) (v:Va) (k:Int):P (h.emit v k):=by
 unfold Hp.emit
 split
 ·exact S.out _ _ hf
 ·exact S.must hf _
theorem Safe.input (S:Safe P) (hf:P h):P h.input':=by
 unfold Hp.input'
 split
 ·exact S.fin _ _ (by decide) hf
 ·exact S.use _ hf
theorem Safe.reckH (S:Safe P) (hf:P h) (a b:Va) (k op:Int):P (h.reckH a b k op):=by
 unfold Hp.reckH
 split
 ·split
  ·exact hf
  ·exact S.raise hf 2
 ·exact S.must hf _
theorem Safe.putH (S:Safe P) (hf:P h) (c:aH) (v:Va):P (h.putH c v):=by
 unfold Hp.putH
 split
 ·exact hf
 ·exact S.must hf _
theorem Safe.givesH (S:Safe P) (hf:P h) (a b:Va) (i:In):P (givesH h a b i):=by
 unfold Go.Proofs.YtimjmdfokicbkaaGreat.givesH
 split
 ·exact hf
 split
 ·exact S.reckH hf _ _ _ _
 split
 ·exact S.reckH hf _ _ _ _
 split
 ·exact S.must hf _
 split
 ·exact S.must hf _
 split
 ·exact S.must hf _
 split
 ·exact S.new hf _
 split
 ·exact S.findH hf _ _
 split
 ·exact S.cast hf _ _
 split
 ·exact S.must hf _
 split
 ·exact hf
 ·exact S.input hf
theorem Safe.does (S:Safe P) (hf:P h) (c:aH) (i:In):P (aM h c i).h:=by
 have m:=fun b=>S.must hf b
 unfold aM
 split
 ·exact hf
 split
 ·exact S.must (m _) _
 split
 ·exact S.must (m _) _
 split
 ·unfold vL;dsimp only;split
  ·exact m _
  ·exact S.throw (m _) _
 split
 ·unfold kQ;dsimp only;split
  ·exact S.putH hf _ _
  ·exact m _
 split
 ·exact S.must (m _) _
 split
 ·exact m _
 split
 ·unfold pj;dsimp only;split
  ·exact m _
  ·exact S.putH (S.putH (m _) _ _) _ _
 split
 ·unfold oO;dsimp only;split
  ·exact m _
  ·exact S.emit (m _) _ _
 split
 ·unfold jZ;dsimp only;split
  ·exact m _
  ·split
   ·exact S.put (m _) _ _ _ _
   ·exact S.must (m _) _
 ·unfold bZ;dsimp only;split
  ·exact S.givesH (m _) _ _ _
  ·exact S.putH (S.givesH (m _) _ _ _) _ _
end
end Go.Proofs.YtimjmdfokicbkaaGreat
