import Derived.Test.YtimjmdfokicbkaaSlaa
import Derived.Test.YtimjmdfokicbkaaSlae
import Derived.Test.YtimjmdfokicbkaaSlah
import Derived.Test.YtimjmdfokicbkaaSlaj
import Derived.Test.YtimjmdfokicbkaaSlam
import Derived.Test.YtimjmdfokicbkaaChecked
import Derived.WalkKit
import Derived.RowKit3
import Derived.Below
import Derived.Handy
namespace Go.Proofs.Ytimjmdfokicbkaa
set_option linter.unusedVariables false
set_option linter.unusedSimpArgs false
set_option maxHeartbeats 40000000
open Go.RowKit
theorem ret_i {k:IntKind} {a b:Int} (h:a=b):Ending.returned (.int k a)=.returned (.int k b):=by rw [h]
theorem ret_ib {k:IntKind} {a b:Int} {x y:Bool} (h:a=b) (h':x=y):Ending.returned (.tuple #[.int k a,.bool x])=.returned (.tuple #[.int k b,.bool y]):=by rw [h,h']
theorem ret_b {x y:Bool} (h:x=y):Ending.returned (.bool x)=.returned (.bool y):=by rw [h]
theorem rcmp_any (a b:Int) (w:World) :
  Calls Try.prog 19 #[.int .i64 a,.int .i64 b] w fun e w'=>e=.returned (.int .i64 (cmpV a b))∧w'=w:=by
 unfold cmpV
 by_cases h:a<b
 ·rw [if_pos h]
  go_enter Try.func19,Try.ntmps19
  go_wp2
  go_ret
  exact ⟨rfl,rfl⟩
 by_cases h':b<a
 ·rw [if_neg h,if_pos h']
  go_enter Try.func19,Try.ntmps19
  go_wp2
  go_ret
  exact ⟨rfl,rfl⟩
 ·rw [if_neg h,if_neg h']
  go_enter Try.func19,Try.ntmps19
  go_wp2
  go_ret
  exact ⟨rfl,rfl⟩
theorem bit_round (a:Int) (i:Nat) (hlo:-9223372036854775808≤a) (hhi:a≤9223372036854775807) :
  -9223372036854775808≤a/2 ^ i∧a/2 ^ i≤9223372036854775807:=by
 have hp:(0:Int)<2 ^ i:=Int.pow_pos (by omega)
 constructor
 ·rw [Int.le_ediv_iff_mul_le hp]
  have:(1:Int)≤2 ^ i:=by omega
  have:=Int.mul_le_mul_of_nonpos_left (a:=(-9223372036854775808:Int)) (by omega) this
  omega
 ·by_cases h:0≤a
  ·have:=Int.ediv_le_self (2 ^ i) h;omega
  ·have:=Int.ediv_neg_of_neg_of_pos (by omega:a<0) hp;omega
theorem bne_iff' (n:Int):(n.tmod 2 !=0)=decide (n%2=1):=by
 have:=tmod2 n
 by_cases h:n%2=1
 ·have h':n.tmod 2≠0:=by omega
  simp [h,h']
 ·have h':n.tmod 2=0:=by omega
  simp [h,h']
theorem bit_any (a:Int) (k:Nat) (w:World) (hlo:-9223372036854775808≤a) (hhi:a≤9223372036854775807) (hk:k≤64) :
  Calls Try.prog 56 #[.int .i64 a,.int .i64 (k:Int)] w fun e w'=>e=.returned (.bool (bitB a k))∧w'=w:=by
 go_enter Try.func56,Try.ntmps56
 go_wp2
 go_loop [0,5] (fun n i=>∃j:Nat,j≤k∧i=.int .i64 j∧n=.int .i64 (a/2 ^ j)) (fun _ i=>k-(intOf i).toNat)
 case atStart=>exact ⟨0,Nat.zero_le _,rfl,by simp⟩
 case round =>
  obtain ⟨j,hj,rfl,rfl⟩:=hrel
  have hb:=bit_round a j hlo hhi
  have hs:=div_pow_succ a j
  have HS:Hid (a/2 ^ (j+1)=a/2 ^ j/2):=hs
  clear hs
  have hbit:Hid (bitB a j=decide (a/2 ^ j%2=1)):=rfl
  obtain ⟨n,hn⟩:∃n,a/2 ^ j=n:=⟨_,rfl⟩
  rw [hn] at hb HS hbit
  simp only [hn]
  have ht:=tmod2 n
  have hh:=half_even n
  by_cases hlt:j<k
  ·by_cases hneg:n.tmod 2<0
   ·have h2:=ht.2.1 hneg
    go_wp2
    go_round
    case rel=>exact ⟨j+1,by omega,by go_num,by rw [HS.out,←hh,h2.2]⟩
    case measure=>simp [intOf];omega
   ·go_wp2
    go_round
    case rel=>exact ⟨j+1,by omega,by go_num,by rw [HS.out,←hh,ht.1 (by omega)]⟩
    case measure=>simp [intOf];omega
  ·have:j=k:=by omega
   subst this
   go_wp2
   go_ret
   exact ⟨ret_b (by rw [hbit.out,bne_iff' n]),rfl⟩
theorem bits_next (f:Nat→Bool) (j:Nat):wrap64 (sumB f (j+1):Nat)=if f j=true then wrap64 (wrap64 (sumB f j:Nat)+wrap64 ((2:Int) ^ j)) else wrap64 (sumB f j:Nat):=by
 by_cases h:f j=true
 ·rw [if_pos h,w64_add];simp [sumB,h]
 ·rw [if_neg h];simp [sumB,h]
theorem pow_step (j:Nat):wrap64 (wrap64 ((2:Int) ^ j)+wrap64 ((2:Int) ^ j))=wrap64 ((2:Int) ^ (j+1)):=by
 rw [w64_add,Int.pow_succ];congr 1;omega
theorem bits_any (op a b:Int) (w:World) (ho:op=6∨op=7∨op=8) (hlo:-9223372036854775808≤a) (hhi:a≤9223372036854775807) (hlo':-9223372036854775808≤b) (hhi':b≤9223372036854775807) :
  Calls Try.prog 35 #[.int .i64 op,.int .i64 a,.int .i64 b] w fun e w'=>e=.returned (.int .i64 (wrap64 (sumB (fun i=>opB op (bitB a i) (bitB b i)) 64:Nat)))∧w'=w:=by
 go_enter Try.func35,Try.ntmps35
 go_wp2
 go_loop [7,8,9] (fun n p i=>∃j:Nat,j≤64∧i=.int .i64 j∧p=.int .i64 (wrap64 (2 ^ j))∧n=.int .i64 (wrap64 (sumB (fun i=>opB op (bitB a i) (bitB b i)) j:Nat))) (fun _ _ i=>64-(intOf i).toNat)
 case atStart=>exact ⟨0,Nat.zero_le _,rfl,by simp [wrap64],by simp [sumB,wrap64]⟩
 case round =>
  obtain ⟨j,hj,rfl,rfl,rfl⟩:=hrel
  have hps:Hid (wrap64 (wrap64 ((2:Int) ^ j)+wrap64 ((2:Int) ^ j))=wrap64 ((2:Int) ^ (j+1))):=pow_step j
  have HT:Hid (wrap64 (sumB (fun i=>opB op (bitB a i) (bitB b i)) (j+1):Nat)=if opB op (bitB a j) (bitB b j)=true then wrap64 (wrap64 (sumB (fun i=>opB op (bitB a i) (bitB b i)) j:Nat)+wrap64 ((2:Int) ^ j)) else wrap64 (sumB (fun i=>opB op (bitB a i) (bitB b i)) j:Nat)):=bits_next (fun i=>opB op (bitB a i) (bitB b i)) j
  by_cases hlt:j<64
  ·rcases ho with rfl|rfl|rfl<;>cases hx:bitB a j<;>cases hy:bitB b j
   all_goals
    go_wp2_with (go_at_call 56;refine (bit_any _ _ _ (by omega) (by omega) (by omega)).mono ?_;rintro e w' ⟨rfl,rfl⟩)
    go_round
    case rel=>exact ⟨j+1,by omega,by go_num,by rw [←hps.out],by rw [HT.out];simp [opB,hx,hy]⟩
    case measure=>simp [intOf];omega
  ·have:j=64:=by omega
   subst this
   go_wp2
   go_ret
   exact ⟨rfl,rfl⟩
theorem rnarrow_any (a:Int) (w:World) :
  Calls Try.prog 18 #[.int .i64 a] w fun e w'=>e=.returned (.int .i64 (wrap32 a))∧w'=w:=by
 have h:=ref_narrow a
 have hb:=tmod32_bd a
 by_cases h1:a.tmod 4294967296<0
 ·by_cases h2:a.tmod 4294967296+4294967296≥2147483648
  ·have HE:Hid (wrap32 a=a.tmod 4294967296+4294967296-4294967296):=h.1 h1 h2
   clear h
   go_enter Try.func18,Try.ntmps18
   go_wp2
   go_ret
   exact ⟨ret_i (by rw [HE.out];omega),rfl⟩
  ·have HE:Hid (wrap32 a=a.tmod 4294967296+4294967296):=h.2.1 h1 (by omega)
   clear h
   go_enter Try.func18,Try.ntmps18
   go_wp2
   go_ret
   exact ⟨ret_i (by rw [HE.out]),rfl⟩
 ·by_cases h2:a.tmod 4294967296≥2147483648
  ·have HE:Hid (wrap32 a=a.tmod 4294967296-4294967296):=h.2.2.1 (by omega) h2
   clear h
   go_enter Try.func18,Try.ntmps18
   go_wp2
   go_ret
   exact ⟨ret_i (by rw [HE.out]),rfl⟩
  ·have HE:Hid (wrap32 a=a.tmod 4294967296):=h.2.2.2 (by omega) (by omega)
   clear h
   go_enter Try.func18,Try.ntmps18
   go_wp2
   go_ret
   exact ⟨ret_i (by rw [HE.out]),rfl⟩
theorem neg_one_quo (a:Int):wrap64 (-a)=wrap64 (a.tdiv (-1)):=by
 congr 1;rw [Int.tdiv_neg,Int.tdiv_one]
theorem rem_by (a b:Int) (h:-9223372036854775808≤a) (h':a≤9223372036854775807):wrap64 (a-wrap64 (wrap64 (a.tdiv b)*b))=a.tmod b:=by
 have h1:=mul_tdiv_tmod a b
 have h2:=tmod_bd a b h h'
 rw [w64_mul]
 have h3:a-a.tdiv b*b=a.tmod b:=by omega
 have h4:wrap64 (a-wrap64 (a.tdiv b*b))=wrap64 (a-a.tdiv b*b):=by
  generalize a.tdiv b*b=x;unfold wrap64;omega
 rw [h4,h3,w64_in h2.1 h2.2]
theorem rlong_any (op a b : Int) (w : World) (hlo : -9223372036854775808 ≤ a) (hhi : a ≤ 9223372036854775807) (hlo' : -9223372036854775808 ≤ b) (hhi' : b ≤ 9223372036854775807) :
    Calls Try.prog 14 #[.int .i64 op, .int .i64 a, .int .i64 b] w fun e w' => e = .returned (.tuple #[.int .i64 (lngV op a b), .bool (lngB op b)]) ∧ w' = w := by
  by_cases h1 : op = 1
  · subst h1
    have HE : Hid (lngV 1 a b = wrap64 (a + b) ∧ lngB 1 b = true) := ⟨by simp [lngV], by simp [lngB]⟩
    clear hlo hhi hlo' hhi'
    go_enter Try.func14, Try.ntmps14
    go_wp2
    go_ret2
    exact ⟨ret_ib HE.out.1.symm HE.out.2.symm, rfl⟩
  by_cases h2 : op = 2
  · subst h2
    have HE : Hid (lngV 2 a b = wrap64 (a - b) ∧ lngB 2 b = true) := ⟨by simp [lngV], by simp [lngB]⟩
    clear hlo hhi hlo' hhi'
    go_enter Try.func14, Try.ntmps14
    go_wp2
    go_ret2
    exact ⟨ret_ib HE.out.1.symm HE.out.2.symm, rfl⟩
  by_cases h3 : op = 3
  · subst h3
    have HE : Hid (lngV 3 a b = wrap64 (a * b) ∧ lngB 3 b = true) := ⟨by simp [lngV], by simp [lngB]⟩
    clear hlo hhi hlo' hhi'
    go_enter Try.func14, Try.ntmps14
    go_wp2
    go_ret2
    exact ⟨ret_ib HE.out.1.symm HE.out.2.symm, rfl⟩
  by_cases hbits : op = 6 ∨ op = 7 ∨ op = 8
  · have HE : Hid (lngV op a b = wrap64 (sumB (fun i => opB op (bitB a i) (bitB b i)) 64 : Nat) ∧ lngB op b = true) :=
      ⟨by have h4 : ¬ op = 4 := by omega
          have h5 : ¬ op = 5 := by omega
          simp only [lngV, if_neg h1, if_neg h2, if_neg h3, if_neg h4, if_neg h5, if_pos hbits],
       by simp only [lngB, decide_eq_true_eq]; omega⟩
    have hc := fun w => bits_any op a b w hbits hlo hhi hlo' hhi'
    clear hlo hhi hlo' hhi'
    rcases hbits with rfl | rfl | rfl
    all_goals
      go_enter Try.func14, Try.ntmps14
      go_wp2_with (go_at_call 35; refine (hc _).mono ?_; rintro e w' ⟨rfl, rfl⟩)
      go_ret2
      exact ⟨ret_ib HE.out.1.symm HE.out.2.symm, rfl⟩
  by_cases h4 : op = 4
  · subst h4
    by_cases hb : b = 0
    · subst hb
      have HE : Hid (lngV 4 a 0 = 0 ∧ lngB 4 0 = false) := ⟨by simp [lngV], by simp [lngB]⟩
      clear hlo hhi hlo' hhi'
      go_enter Try.func14, Try.ntmps14
      go_wp2
      go_ret2
      exact ⟨ret_ib HE.out.1.symm HE.out.2.symm, rfl⟩
    · have HE : Hid (lngV 4 a b = wrap64 (a.tdiv b) ∧ lngB 4 b = true) := ⟨by simp [lngV, hb], by simp [lngB, hb]⟩
      clear hlo hhi hlo' hhi'
      by_cases hm : b = -1
      · subst hm
        go_enter Try.func14, Try.ntmps14
        go_wp2
        go_ret2
        exact ⟨ret_ib (by rw [HE.out.1]; exact neg_one_quo a) HE.out.2.symm, rfl⟩
      · go_enter Try.func14, Try.ntmps14
        go_wp2
        go_ret2
        exact ⟨ret_ib HE.out.1.symm HE.out.2.symm, rfl⟩
  by_cases h5 : op = 5
  · subst h5
    by_cases hb : b = 0
    · subst hb
      have HE : Hid (lngV 5 a 0 = 0 ∧ lngB 5 0 = false) := ⟨by simp [lngV], by simp [lngB]⟩
      clear hlo hhi hlo' hhi'
      go_enter Try.func14, Try.ntmps14
      go_wp2
      go_ret2
      exact ⟨ret_ib HE.out.1.symm HE.out.2.symm, rfl⟩
    · have HE : Hid (lngV 5 a b = a.tmod b ∧ lngB 5 b = true) := ⟨by simp [lngV, hb], by simp [lngB, hb]⟩
      have HR : Hid (wrap64 (a - wrap64 (wrap64 (a.tdiv b) * b)) = a.tmod b) := rem_by a b hlo hhi
      clear hlo hhi hlo' hhi'
      by_cases hm : b = -1
      · subst hm
        go_enter Try.func14, Try.ntmps14
        go_wp2
        go_ret2
        exact ⟨ret_ib (by rw [HE.out.1, ← HR.out, ← neg_one_quo, Int.mul_neg_one]) HE.out.2.symm, rfl⟩
      · go_enter Try.func14, Try.ntmps14
        go_wp2
        go_ret2
        exact ⟨ret_ib (by rw [HE.out.1, ← HR.out]) HE.out.2.symm, rfl⟩
  have e1 : lngV op a b = 0 := by
    simp only [lngV, if_neg h1, if_neg h2, if_neg h3, if_neg h4, if_neg h5, if_neg hbits]
  have e2 : lngB op b = false := by simp only [lngB, decide_eq_false_iff_not]; omega
  rw [e1, e2]
  clear e1 e2 hlo hhi hlo' hhi'
  have h6 : ¬ op = 6 := by omega
  have h7 : ¬ op = 7 := by omega
  have h8 : ¬ op = 8 := by omega
  clear hbits
  go_enter Try.func14, Try.ntmps14
  go_wp2
  go_ret2
  exact ⟨rfl, rfl⟩
theorem rint_any (op a b:Int) (w:World) :
  Calls Try.prog 13 #[.int .i64 op,.int .i64 a,.int .i64 b] w fun e w'=>e=.returned (.tuple #[.int .i64 (wrap32 (lngV op (wrap32 a) (wrap32 b))),.bool (lngB op (wrap32 b))])∧w'=w:=by
 have ha:=w32_bd a
 have hb:=w32_bd b
 go_enter Try.func13,Try.ntmps13
 go_wp2_with (first|(go_at_call 18;refine (rnarrow_any _ _).mono ?_;rintro e w' ⟨rfl,rfl⟩)|(go_at_call 14;refine (rlong_any _ _ _ _ (by omega) (by omega) (by omega) (by omega)).mono ?_;rintro e w' ⟨rfl,rfl⟩))
 go_ret2
 exact ⟨rfl,rfl⟩
theorem hld1 (a:Int):hldB 1 a=(a==0):=by unfold hldB;by_cases h:a=0<;>simp [h]
theorem hld2 (a:Int):hldB 2 a=decide (a<0):=by unfold hldB;simp
theorem hld3 (a:Int):hldB 3 a=(a !=0):=by unfold hldB;by_cases h:a=0<;>simp [h]
theorem hld4 (a:Int):hldB 4 a=decide (0<a):=by unfold hldB;simp
theorem hld0 (c a:Int) (h1:¬c=1) (h2:¬c=2) (h3:¬c=3) (h4:¬c=4):hldB c a=false:=by unfold hldB;simp [h1,h2,h3,h4]
theorem rholds_any (c a:Int) (w:World) :
  Calls Try.prog 20 #[.int .i64 c,.int .i64 a] w fun e w'=>e=.returned (.bool (hldB c a))∧w'=w:=by
 by_cases h1:c=1
 ·subst h1
  rw [hld1]
  go_enter Try.func20,Try.ntmps20
  go_wp2
  go_ret
  exact ⟨rfl,rfl⟩
 by_cases h2:c=2
 ·subst h2
  rw [hld2]
  go_enter Try.func20,Try.ntmps20
  go_wp2
  go_ret
  exact ⟨rfl,rfl⟩
 by_cases h3:c=3
 ·subst h3
  rw [hld3]
  go_enter Try.func20,Try.ntmps20
  go_wp2
  go_ret
  exact ⟨rfl,rfl⟩
 by_cases h4:c=4
 ·subst h4
  rw [hld4]
  go_enter Try.func20,Try.ntmps20
  go_wp2
  go_ret
  exact ⟨rfl,rfl⟩
 rw [hld0 c a h1 h2 h3 h4]
 go_enter Try.func20,Try.ntmps20
 go_wp2
 go_ret
 exact ⟨rfl,rfl⟩
section
open Go.RowKit (wrap32 wrap64)
theorem narrow_any (a:Int) (w:World) :
  Calls Try.prog 15 #[.int .i64 a] w fun e w'=>e=.returned (.int .i64 (wrap32 a))∧w'=w:=by
 go_enter Try.func15,Try.ntmps15
 go_wp2
 go_ret
 exact ⟨ret_i (w64_w32 a),rfl⟩
theorem quotient_any (a b:Int) (w:World) :
  Calls Try.prog 33 #[.int .i64 a,.int .i64 b] w fun e w'=>e=.returned (.tuple #[.int .i64 (lngV 4 a b),.bool (lngB 4 b)])∧w'=w:=by
 by_cases h:b=0
 ·subst h
  go_enter Try.func33,Try.ntmps33
  go_wp2
  go_ret2
  exact ⟨ret_ib (by simp [lngV]) (by simp [lngB]),rfl⟩
 ·go_enter Try.func33,Try.ntmps33
  go_wp2
  go_ret2
  exact ⟨ret_ib (by simp [lngV,h]) (by simp [lngB,h]),rfl⟩
theorem remainder_any (a b:Int) (w:World) :
  Calls Try.prog 34 #[.int .i64 a,.int .i64 b] w fun e w'=>e=.returned (.tuple #[.int .i64 (lngV 5 a b),.bool (lngB 5 b)])∧w'=w:=by
 by_cases h:b=0
 ·subst h
  go_enter Try.func34,Try.ntmps34
  go_wp2
  go_ret2
  exact ⟨ret_ib (by simp [lngV]) (by simp [lngB]),rfl⟩
 ·go_enter Try.func34,Try.ntmps34
  go_wp2
  go_ret2
  exact ⟨ret_ib (by simp [lngV,h]) (by simp [lngB,h]),rfl⟩
theorem long_any (op a b:Int) (w:World) :
  Calls Try.prog 12 #[.int .i64 op,.int .i64 a,.int .i64 b] w fun e w'=>e=.returned (.tuple #[.int .i64 (lngV op a b),.bool (lngB op b)])∧w'=w:=by
 by_cases h1:op=1
 ·subst h1
  go_enter Try.func12,Try.ntmps12
  go_wp2
  go_ret2
  exact ⟨ret_ib (by simp [lngV]) (by simp [lngB]),rfl⟩
 by_cases h2:op=2
 ·subst h2
  go_enter Try.func12,Try.ntmps12
  go_wp2
  go_ret2
  exact ⟨ret_ib (by simp [lngV]) (by simp [lngB]),rfl⟩
 by_cases h3:op=3
 ·subst h3
  go_enter Try.func12,Try.ntmps12
  go_wp2
  go_ret2
  exact ⟨ret_ib (by simp [lngV]) (by simp [lngB]),rfl⟩
 by_cases h4:op=4
 ·subst h4
  go_enter Try.func12,Try.ntmps12
  go_wp2_with (go_at_call 33;refine (quotient_any _ _ _).mono ?_;rintro e w' ⟨rfl,rfl⟩)
  go_ret2
  exact ⟨rfl,rfl⟩
 by_cases h5:op=5
 ·subst h5
  go_enter Try.func12,Try.ntmps12
  go_wp2_with (go_at_call 34;refine (remainder_any _ _ _).mono ?_;rintro e w' ⟨rfl,rfl⟩)
  go_ret2
  exact ⟨rfl,rfl⟩
 by_cases h6:op=6
 ·subst h6
  go_enter Try.func12,Try.ntmps12
  go_wp2
  go_ret2
  exact ⟨ret_ib (lng_and a b).symm (by simp [lngB]),rfl⟩
 by_cases h7:op=7
 ·subst h7
  go_enter Try.func12,Try.ntmps12
  go_wp2
  go_ret2
  exact ⟨ret_ib (lng_or a b).symm (by simp [lngB]),rfl⟩
 by_cases h8:op=8
 ·subst h8
  go_enter Try.func12,Try.ntmps12
  go_wp2
  go_ret2
  exact ⟨ret_ib (lng_xor a b).symm (by simp [lngB]),rfl⟩
 have e1:lngV op a b=0:=by simp [lngV,h1,h2,h3,h4,h5,h6,h7,h8]
 have e2:lngB op b=false:=by simp only [lngB,decide_eq_false_iff_not];omega
 rw [e1,e2]
 clear e1 e2
 go_enter Try.func12,Try.ntmps12
 go_wp2
 go_ret2
 exact ⟨rfl,rfl⟩
theorem int_any (op a b:Int) (w:World) :
  Calls Try.prog 11 #[.int .i64 op,.int .i64 a,.int .i64 b] w fun e w'=>e=.returned (.tuple #[.int .i64 (wrap32 (lngV op (wrap32 a) (wrap32 b))),.bool (lngB op (wrap32 b))])∧w'=w:=by
 go_enter Try.func11,Try.ntmps11
 go_wp2_with (first|(go_at_call 15;refine (narrow_any _ _).mono ?_;rintro e w' ⟨rfl,rfl⟩)|(go_at_call 12;refine (long_any _ _ _ _).mono ?_;rintro e w' ⟨rfl,rfl⟩))
 go_ret2
 exact ⟨rfl,rfl⟩
theorem cmp_any (a b:Int) (w:World) :
  Calls Try.prog 16 #[.int .i64 a,.int .i64 b] w fun e w'=>e=.returned (.int .i64 (cmpV a b))∧w'=w:=by
 unfold cmpV
 by_cases h:a<b
 ·rw [if_pos h]
  go_enter Try.func16,Try.ntmps16
  go_wp2
  go_ret
  exact ⟨rfl,rfl⟩
 by_cases h':b<a
 ·rw [if_neg h,if_pos h']
  go_enter Try.func16,Try.ntmps16
  go_wp2
  go_ret
  exact ⟨rfl,rfl⟩
 ·rw [if_neg h,if_neg h']
  go_enter Try.func16,Try.ntmps16
  go_wp2
  go_ret
  exact ⟨rfl,rfl⟩
end
def anyR (l:List Ty):Bool:=l.any fun t=>decide (t.kind=3)
theorem anyR_hit {l:List Ty} {q:Nat} (hq:q<l.length) (h:(nth ty0 l q).kind=3):anyR l=true:=by
 unfold anyR;rw [List.any_eq_true];exact ⟨nth ty0 l q,nth_mem hq,by simpa using h⟩
theorem anyR_miss {l:List Ty} (h:∀q,q<l.length→(nth ty0 l q).kind≠3):anyR l=false:=by
 unfold anyR;rw [List.any_eq_false]
 intro x hx
 obtain ⟨k,hk,rfl⟩:=List.getElem_of_mem hx
 rw [←nth_get (d:=ty0) hk]
 simpa using h k hk
set_option maxRecDepth 100000 in
theorem takes_any (A R : Option Addr) (cap n rc : Nat) (ts : List Ty) (w : World) (hT : TysAt w A ts) (hn : n ≤ maxLen) :
    Calls Try.prog 96 #[.slice A ts.length cap, .slice R n rc] w fun e w' => e = .returned (.bool (!(anyR ts) && decide (n = ts.length))) ∧ Bl w w' := by
  have HT := hid hT
  have hlm := hT.1
  unfold maxLen at hlm hn
  clear hT
  have HHIT : Hid (∀ q, q < ts.length → (nth ty0 ts q).kind = 3 → anyR ts = true) := fun q hq h => anyR_hit hq h
  have HMISS : Hid ((∀ q, q < ts.length → (nth ty0 ts q).kind ≠ 3) → anyR ts = false) := anyR_miss
  obtain ⟨T, hTT⟩ : ∃ T, anyR ts = T := ⟨_, rfl⟩
  rw [hTT] at HHIT HMISS ⊢
  clear hTT
  have hd : decide (n = ts.length) = ((n : Int) == (ts.length : Int)) := by rw [Bool.eq_iff_iff]; simp; omega
  rw [hd]
  clear hd
  go_enter Try.func96, Try.ntmps96
  go_wp2
  go_loopw [9] (fun i wr => ∃ q : Nat, q ≤ ts.length ∧ i = .int .i64 q ∧ Hid (∀ j, j < q → (nth ty0 ts j).kind ≠ 3) ∧ Hid (Bl w wr)) (fun i _ => ts.length - (intOf i).toNat)
  case atStart => exact ⟨0, Nat.zero_le _, rfl, fun j hj => absurd hj (Nat.not_lt_zero _), Bl.refl _⟩
  case round =>
    obtain ⟨q, hq, rfl, hgq, hg⟩ := hrel
    by_cases hql : q < ts.length
    · rcases (HT.out.bl hg.out).2 with z0 | ⟨b, off, rfl, hcell⟩
      · omega
      obtain ⟨x0, x1, -, -⟩ := hcell q hql
      have HH := hid (HHIT.out q hql)
      generalize hX : nth ty0 ts q = t at *
      have HX := hid hX
      clear hcell hX
      by_cases h3 : t.kind = 3
      · have HF := hid (HH.out h3)
        have k3 : (t.kind == 3) = true := by simpa using h3
        have H3 := hid h3
        clear h3 HH
        go_wp2
        go_ret
        exact ⟨ret_bool (by rw [HF.out]; rfl), hg.out.alloc _⟩
      · have k3 : (t.kind == 3) = false := by simpa using h3
        have H3 : Hid (¬ t.kind = 3) := h3
        clear h3 HH
        go_wp2
        go_roundw
        case rel => exact ⟨q + 1, by omega, by go_num, fun j hj => if h : j < q then hgq.out j h else by have : j = q := by omega
                                                                                                         subst this; rw [HX.out]; exact H3.out, hg.out.alloc _⟩
        case measure => simp [intOf]; omega
    · obtain rfl : q = ts.length := by omega
      have HF := hid (HMISS.out hgq.out)
      go_wp2
      all_goals
        go_ret
        refine ⟨ret_bool ?_, hg.out⟩
        rw [HF.out]
        simp [*]
def pvM (ts:List Ty) (args:List Int) (j:Nat):Va:=⟨(nth ty0 ts j).kind,if (nth ty0 ts j).kind=1 then wrap32 (nth (0:Int) args j) else nth (0:Int) args j⟩
def pvL (ts:List Ty) (args:List Int) (q:Nat):List Va:=(List.range ts.length).map (fun j=>if j<q then pvM ts args j else va0)
theorem pvL_zero (ts:List Ty) (args:List Int):pvL ts args 0=List.replicate ts.length va0:=by
 unfold pvL
 apply List.ext_getElem
 ·simp
 ·intro i h1 h2;simp
theorem pvL_length (ts:List Ty) (args:List Int) (q:Nat):(pvL ts args q).length=ts.length:=by simp [pvL]
theorem pvL_set (ts:List Ty) (args:List Int) (q:Nat):(pvL ts args q).set q (pvM ts args q)=pvL ts args (q+1):=by
 unfold pvL
 apply List.ext_getElem
 ·simp
 ·intro i h1 h2
  simp only [List.getElem_set,List.getElem_map,List.getElem_range]
  by_cases hi:q=i
  ·subst hi;simp
  ·rw [if_neg hi]
   by_cases hlt:i<q
   ·rw [if_pos hlt,if_pos (by omega)]
   ·rw [if_neg hlt,if_neg (by omega)]
set_option maxRecDepth 100000 in
theorem values_any (A R:Option Addr) (cap n rc:Nat) (ts:List Ty) (args:List Int) (w:World) (hT:TysAt w A ts) (hR:IntsAt w R args) (hl:args.length=ts.length) (h4:ts.length≤4) (hk:∀q,q<ts.length→(nth ty0 ts q).kind=1∨(nth ty0 ts q).kind=2) :
  Calls Try.prog 72 #[.slice A ts.length cap,.slice R args.length rc] w fun e w'=>e=.returned (.slice (some ⟨w.heap.size,0,none⟩) ts.length ts.length)∧LBox w' w.heap.size (pvL ts args ts.length)∧Bl w w':=by
 have HT:=hid hT
 have HR:=hid hR
 have HK:=hid hk
 have hmk:=make_mv ts.length (by omega)
 have HS:Hid (Bl w (w.alloc (.cells (vaCells (List.replicate ts.length va0)).toArray 110))∧LBox (w.alloc (.cells (vaCells (List.replicate ts.length va0)).toArray 110)) w.heap.size (pvL ts args 0)) :=
  ⟨(Bl.refl w).alloc _,by rw [pvL_zero];exact LBox.new w _⟩
 rw [hl]
 have HL:=hid hl
 clear hT hR hk hl
 go_enter Try.func72,Try.ntmps72
 go_wp2
 go_loopw [13] (fun i wr=>∃q:Nat,q≤ts.length∧i=.int .i64 q∧Hid (Bl w wr∧LBox wr w.heap.size (pvL ts args q))) (fun i _=>ts.length-(intOf i).toNat)
 case atStart=>exact ⟨0,Nat.zero_le _,rfl,HS.out⟩
 case round =>
  clear HS hmk
  obtain ⟨q,hq,rfl,HB⟩:=hrel
  by_cases hql:q<ts.length
  ·rcases (HT.out.bl HB.out.1).2 with z0|⟨tb,to,rfl,hcell⟩
   ·omega
   rcases (HR.out.bl HB.out.1).2 with z0|⟨rb,ro,rfl,hrc⟩
   ·have:=HL.out;omega
   obtain ⟨x0,x1,-,-⟩:=hcell q hql
   obtain ⟨y0,-⟩:=hrc q (by rw [HL.out];exact hql)
   have hkq:=HK.out q hql
   have HPS:=hid (pvL_set ts args q)
   have HPM:Hid (pvM ts args q=⟨(nth ty0 ts q).kind,if (nth ty0 ts q).kind=1 then wrap32 (nth (0:Int) args q) else nth (0:Int) args q⟩):=rfl
   generalize hX:nth ty0 ts q=t at *
   generalize hY:nth (0:Int) args q=a at *
   clear hcell hrc hX hY
   have hrlt:rb<w.heap.size:=by
    rcases HR.out.2 with z0|⟨rb',ro',ee,hrc⟩
    ·have:=HL.out;omega
    ·cases ee
     exact cell_lt (hrc q (by rw [HL.out];exact hql)).1
   have hnr:w.heap.size≠rb:=by omega
   have hnr2:rb≠w.heap.size:=by omega
   have y0a:∀o,(wr.alloc o).cell? ⟨rb,ro+q,none⟩=some (.int .i64 a):=fun o=>((Bl.refl wr).alloc o).cell y0
   have hlt:=lt_some HB.out.2.blk
   have hne:w.heap.size≠wr.heap.size:=by omega
   have hne2:wr.heap.size≠w.heap.size:=by omega
   have HBN:=hid (blk_new wr #[.int .i64 t.kind,.int .i64 t.cls] 54)
   have hqL:q<(pvL ts args q).length:=by rw [pvL_length];exact hql
   have HQL:=hid hqL
   have HAW:Hid (Bl wr (wr.alloc (tyMO t))):=(Bl.refl wr).alloc _
   clear hqL
   have FST:Hid (∀w1,Bl (wr.alloc (tyMO t)) w1→LBox w1 w.heap.size (pvL ts args q)∧w1.cell? ⟨wr.heap.size,0,none⟩=some (.int .i64 t.kind)):=fun w1 b1=>⟨HB.out.2.bl (HAW.out.trans b1),c0_of (bl_blk b1 HBN.out)⟩
   rcases hkq with h1|h2
   ·have HT1:=hid h1
    have k1:(t.kind==1)=true:=by simpa using h1
    clear h1
    obtain ⟨N,hN⟩:∃N,wrap32 a=N:=⟨_,rfl⟩
    have HN:=hid hN
    go_wp2_with (first
     | (have:=L2;go_at_call 15;refine (narrow_any _ _).mono ?_;rintro e w5 ⟨he,hw5⟩;rw [hN] at he;subst he;rw [hw5];clear hw5 w5)
     | (have:=L2;go_at_call 99;refine (mint_any N _).mono ?_;rintro e w3 ⟨rfl,b3⟩;have L3:=L2.out.bl b3;have z0:=L3.c0 (i:=q) (by rw [List.length_set];exact HQL.out);have z1:=L3.c1 (i:=q) (by rw [List.length_set];exact HQL.out);have fz3:=free_blk L3.blk;replace b3:=hid b3;have L3:=hid L3)
     | (go_at_call 98;refine (mlong_any a _).mono ?_;rintro e w1 ⟨rfl,b1⟩;obtain ⟨L1,kt⟩:=FST.out w1 b1;have v0:=L1.c0 HQL.out;have v1:=L1.c1 HQL.out;have fz1:=free_blk L1.blk;have L2:=hid (L1.set HQL.out ⟨2,a⟩);have y5:=(HAW.out.trans b1).cell y0;replace b1:=hid b1;replace L1:=hid L1))
    go_roundw
    case rel =>
     refine ⟨q+1,by omega,by go_num,?_,?_⟩
     ·have h1:Bl w w1:=(HB.out.1.trans HAW.out).trans b1.out
      have h2:=(h1.setCell (p:=⟨w.heap.size,q*2,none⟩) (Nat.le_refl _) (.int .i64 2)).setCell (p:=⟨w.heap.size,q*2+1,none⟩) (Nat.le_refl _) (.int .i64 a)
      have h3:=h2.trans b3.out
      exact (h3.setCell (p:=⟨w.heap.size,q*2,none⟩) (Nat.le_refl _) _).setCell (p:=⟨w.heap.size,q*2+1,none⟩) (Nat.le_refl _) _
     ·have:=L3.out.set (i:=q) (by rw [List.length_set];exact HQL.out) ⟨1,N⟩
      rw [List.set_set] at this
      rw [←HPS.out,HPM.out,HT1.out,if_pos rfl,HN.out]
      exact this
    case measure=>simp [intOf];omega
   ·have HT2:=hid h2
    have k1:(t.kind==1)=false:=by rw [h2];rfl
    clear h2
    go_wp2_with (first
     | (go_at_call 98;refine (mlong_any a _).mono ?_;rintro e w1 ⟨rfl,b1⟩;obtain ⟨L1,kt⟩:=FST.out w1 b1;have v0:=L1.c0 HQL.out;have v1:=L1.c1 HQL.out;have fz1:=free_blk L1.blk;have L2:=hid (L1.set HQL.out ⟨2,a⟩);replace b1:=hid b1;replace L1:=hid L1))
    go_roundw
    case rel =>
     refine ⟨q+1,by omega,by go_num,?_,?_⟩
     ·have h1:Bl w w1:=(HB.out.1.trans HAW.out).trans b1.out
      exact (h1.setCell (p:=⟨w.heap.size,q*2,none⟩) (Nat.le_refl _) _).setCell (p:=⟨w.heap.size,q*2+1,none⟩) (Nat.le_refl _) _
     ·rw [←HPS.out,HPM.out,HT2.out,if_neg (by decide)]
      exact L2.out
    case measure=>simp [intOf];omega
  ·obtain rfl:q=ts.length:=by omega
   go_wp2
   go_ret
   exact ⟨rfl,HB.out.2,HB.out.1⟩
theorem within_any (n lo hi:Int) (w:World) :
  Calls Try.prog 47 #[.int .i64 n,.int .i64 lo,.int .i64 hi] w fun e w'=>e=.returned (.bool (decide (lo≤n∧n≤hi)))∧w'=w:=by
 go_enter Try.func47,Try.ntmps47
 go_wp2
 all_goals
  go_ret
  refine ⟨ret_bool ?_,rfl⟩
  rw [Bool.eq_iff_iff];simp;try omega
theorem rslots_any (A:Option Addr) (c:Nat) (F:List Ty) (w:World) (hl:TysAt w A F) (hb:F.length≤1000000) :
  Calls Try.prog 49 #[.slice A F.length c] w fun e w'=>e=.returned (.int .i64 (slotsN F:Nat))∧w'=w:=by
 obtain ⟨hm,hl⟩:=hl
 clear hm
 have HS:Hid (∀k,k<F.length→slotsN (F.take (k+1))=slotsN (F.take k)+(if (nth ty0 F k).kind=2 then 2 else 1)):=slotsN_take F
 have HB:Hid (∀k,slotsN (F.take k)≤2*k):=fun k=>by have:=slotsN_le (F.take k);have:=List.length_take_le k F;omega
 go_enter Try.func49,Try.ntmps49
 go_wp2
 go_loop [3,4] (fun n i=>∃k:Nat,k≤F.length∧i=.int .i64 k∧n=.int .i64 ((F.length:Int)+((slotsN (F.take k):Nat):Int)-k)) (fun _ i=>F.length-(intOf i).toNat)
 case atStart=>exact ⟨0,Nat.zero_le _,rfl,by simp [slotsN]⟩
 case round =>
  obtain ⟨k,hk,rfl,rfl⟩:=hrel
  have h2:=HB.out k
  by_cases hlt:k<F.length
  ·rcases hl with h0|⟨b,off,rfl,hcell⟩
   ·omega
   have ht:=(hcell k hlt).1
   have hs:=HS.out k hlt
   clear hcell
   by_cases hk2:(nth ty0 F k).kind=2
   ·rw [if_pos hk2] at hs
    rw [hk2] at ht
    have HS':Hid (slotsN (F.take (k+1))=slotsN (F.take k)+2):=hs
    clear hs hk2
    go_wp2
    go_round
    case rel=>exact ⟨k+1,by omega,by go_num,by rw [HS'.out];go_num⟩
    case measure=>simp [intOf];omega
   ·rw [if_neg hk2] at hs
    have HS':Hid (slotsN (F.take (k+1))=slotsN (F.take k)+1):=hs
    have hk2':((nth ty0 F k).kind==2)=false:=by simpa using hk2
    clear hs hk2
    go_wp2
    go_round
    case rel=>exact ⟨k+1,by omega,by go_num,by rw [HS'.out];go_num⟩
    case measure=>simp [intOf];omega
  ·obtain rfl:k=F.length:=by omega
   rw [List.take_length] at *
   go_wp2
   go_ret
   exact ⟨ret_int (by omega),rfl⟩
end Go.Proofs.Ytimjmdfokicbkaa
