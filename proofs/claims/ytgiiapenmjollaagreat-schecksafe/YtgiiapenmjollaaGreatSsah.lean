import Derived.Test.YtgiiapenmjollaaGreatSsag
import Derived.Defers
import Derived.Recover
import Derived.Test.YtgiiapenmjollaaGreatChecked
import Derived.WalkKit
import Derived.RowKit3
import Derived.Below
namespace Go.Proofs.YtgiiapenmjollaaGreat
set_option linter.all false
set_option maxHeartbeats 40000000
set_option maxRecDepth 100000
open Go.RowKit
def nrT (t:Ty):Prop:=t.kind≠3→t.cls=0
structure Nr (s:As):Prop where
 sl:∀t∈s.slots,nrT t
 st:∀t∈s.stk,nrT t
theorem tyB_nr {n:Nat} {t:Ty} (h:tyB n t=true):nrT t:=by
 have:=of_decide_eq_true h
 exact fun e=>by omega
theorem Nr.cut {s s1:As} {x:Ty} (w:Nr s) (h:s.stk=s1.stk++[x]) (hl:s1.slots=s.slots):Nr s1∧nrT x :=
 ⟨⟨by rw [hl];exact w.sl,fun t ht=>w.st t (by rw [h];exact List.mem_append_left _ ht)⟩,w.st x (by rw [h];simp)⟩
theorem Nr.take {s:As} {p:Ty×As} (w:Nr s) (h:takeT s=some p):Nr p.2∧nrT p.1:=w.cut (takeT_app h).1 (takeT_app h).2
theorem Nr.takeK {s:As} {k:Int} {p:Ty×As} (w:Nr s) (h:takeK k s=some p):Nr p.2∧nrT p.1:=w.cut (takeK_app h).1 (takeK_app h).2.1
theorem Nr.takeY {f:Fi} {s:As} {t:Ty} {s1:As} (w:Nr s) (h:takeY f.classes t s=some s1):Nr s1:=by
 obtain ⟨x,h1,h2,-⟩:=takeY_app h
 exact (w.cut h1 h2).1
theorem Nr.put {m:Me} {s s1:As} {v:Ty} (w:Nr s) (hv:nrT v) (h:putT m.stack v s=some s1):Nr s1:=by
 obtain ⟨rfl,hr⟩:=putT_eq h
 refine ⟨w.sl,fun t ht=>?_⟩
 rw [List.mem_append,List.mem_singleton] at ht
 rcases ht with ht|ht
 ·exact w.st t ht
 ·rw [ht];exact hv
theorem Nr.write {s:As} {a:Nat} {v:Ty} (w:Nr s) (hv:nrT v):Nr { s with slots:=wrT s.slots a v }:=by
 refine ⟨fun t ht=>?_,w.st⟩
 have h0:nrT ty0:=fun _=>rfl
 have h4:nrT ⟨4,0⟩:=fun _=>rfl
 have ht:t∈wrT s.slots a v:=ht
 unfold wrT at ht
 split at ht
 ·rcases mem_set' ht with rfl|ht
  ·exact hv
  rcases mem_set' ht with rfl|ht
  ·exact h4
  rcases mem_losT ht with rfl|ht
  ·exact h0
  rcases mem_losT ht with rfl|ht
  ·exact h0
  exact w.sl t ht
 ·rcases mem_set' ht with rfl|ht
  ·exact hv
  rcases mem_losT ht with rfl|ht
  ·exact h0
  exact w.sl t ht
theorem Nr.takes {f:Fi} {ts:List Ty}:∀(k:Nat) {s s1:As},Nr s→takesY f.classes ts k s=some s1→Nr s1
 | 0,s,s1,w,h=>by have h:=Option.some.inj h;subst h;exact w
 | k+1,s,s1,w,h=>by
  unfold takesY at h
  rw [Option.bind_eq_some_iff] at h
  obtain ⟨q,h1,h2⟩:=h
  exact Nr.takes k (w.takeY h1) h2
theorem Nr.work {f:Fi} {m:Me} {i:In} {s s1:As} (w:Nr s) (hlen:(s.slots.length:Int)=m.locs) (hmay:mayB f.classes=true) (hme:∀x∈f.methods,smeB f.classes f.methods.length x=true) (ok:InOk f.classes f.methods.length m.code.length m.locs i) (h:workT f m i s=some s1):Nr s1:=by
 have n1:nrT ⟨1,0⟩:=fun _=>rfl
 have n2:nrT ⟨2,0⟩:=fun _=>rfl
 have n3:nrT ⟨3,-1⟩:=fun e=>absurd rfl e
 unfold workT at h
 by_cases e1:i.op=1
 ·rw [if_pos e1] at h;exact w.put n1 h
 rw [if_neg e1] at h
 by_cases e2:i.op=2∨i.op=25
 ·rw [if_pos e2] at h;exact w.put n2 h
 rw [if_neg e2] at h
 by_cases e3:i.op=3
 ·rw [if_pos e3] at h;exact w.put n3 h
 rw [if_neg e3] at h
 by_cases e4:i.op=4
 ·rw [if_pos e4] at h
  have o:=ok.slot (Or.inl e4)
  have o2:=ok.kind (Or.inl e4)
  split at h
  ·rename_i hk
   have hx:=w.sl _ (nth_mem (d:=ty0) (i:=i.a.toNat) (l:=s.slots) (by omega))
   exact w.put hx h
  ·exact absurd h (by simp)
 rw [if_neg e4] at h
 by_cases e5:i.op=5
 ·rw [if_pos e5,Option.bind_eq_some_iff] at h
  obtain ⟨p,h1,h2⟩:=h
  have o:=ok.slot (Or.inr e5)
  have h2:=Option.some.inj h2
  subst h2
  have hk:=(takeK_app h1).2.2
  have hs:=(takeK_app h1).2.1
  obtain ⟨w1,t1⟩:=w.takeK h1
  exact w1.write t1
 rw [if_neg e5] at h
 by_cases e22:i.op=22
 ·rw [if_pos e22,Option.bind_eq_some_iff] at h
  obtain ⟨p,h1,h2⟩:=h
  have h2:=Option.some.inj h2
  subst h2
  exact (w.take h1).1
 rw [if_neg e22] at h
 by_cases e23:i.op=23
 ·rw [if_pos e23,Option.bind_eq_some_iff] at h
  obtain ⟨p,h1,h2⟩:=h
  rw [Option.bind_eq_some_iff] at h2
  obtain ⟨q,h2,h3⟩:=h2
  obtain ⟨w1,t1⟩:=w.take h1
  exact (w1.put t1 h2).put t1 h3
 rw [if_neg e23] at h
 by_cases e24:i.op=24
 ·rw [if_pos e24,Option.bind_eq_some_iff] at h
  obtain ⟨p,h1,h2⟩:=h
  have h2:=Option.some.inj h2
  subst h2
  exact (w.takeK h1).1
 rw [if_neg e24] at h
 by_cases e19:i.op=19
 ·rw [if_pos e19,Option.bind_eq_some_iff] at h
  obtain ⟨q,h1,h2⟩:=h
  have o:=ok.call e19
  have w1:=Nr.takes _ w h1
  split at h2
  ·have h2:=Option.some.inj h2
   subst h2;exact w1
  ·rename_i hk
   have hr:=(smeP (hme _ (nth_mem (d:=me0) (i:=i.a.toNat) (l:=f.methods) (by omega)))).2.2.2.2.2.2.2.2.2.2
   unfold retB at hr
   rw [Bool.or_eq_true] at hr
   rcases hr with hr|hr
   ·exact absurd (of_decide_eq_true hr).1 hk
   ·exact w1.put (tyB_nr hr) h2
 rw [if_neg e19] at h
 by_cases e6:i.op=6
 ·rw [if_pos e6,Option.bind_eq_some_iff] at h
  obtain ⟨p,h1,h2⟩:=h
  rw [Option.bind_eq_some_iff] at h2
  obtain ⟨q,h2,h3⟩:=h2
  exact ((w.takeK h1).1.takeK h2).1.put n1 h3
 rw [if_neg e6] at h
 by_cases e7:i.op=7
 ·rw [if_pos e7,Option.bind_eq_some_iff] at h
  obtain ⟨p,h1,h2⟩:=h
  rw [Option.bind_eq_some_iff] at h2
  obtain ⟨q,h2,h3⟩:=h2
  exact ((w.takeK h1).1.takeK h2).1.put n2 h3
 rw [if_neg e7] at h
 by_cases e8:i.op=8
 ·rw [if_pos e8,Option.bind_eq_some_iff] at h
  obtain ⟨p,h1,h2⟩:=h
  exact (w.takeK h1).1.put n2 h2
 rw [if_neg e8] at h
 by_cases e9:i.op=9
 ·rw [if_pos e9,Option.bind_eq_some_iff] at h
  obtain ⟨p,h1,h2⟩:=h
  exact (w.takeK h1).1.put n1 h2
 rw [if_neg e9] at h
 by_cases e10:i.op=10
 ·rw [if_pos e10,Option.bind_eq_some_iff] at h
  obtain ⟨p,h1,h2⟩:=h
  rw [Option.bind_eq_some_iff] at h2
  obtain ⟨q,h2,h3⟩:=h2
  exact ((w.takeK h1).1.takeK h2).1.put n1 h3
 rw [if_neg e10] at h
 by_cases e14:i.op=14
 ·rw [if_pos e14] at h
  have o:=ok.cls (Or.inl e14)
  exact w.put (fun e=>absurd rfl e) h
 rw [if_neg e14] at h
 by_cases e15:i.op=15
 ·rw [if_pos e15,Option.bind_eq_some_iff] at h
  obtain ⟨p,h1,h2⟩:=h
  have o:=ok.fld (Or.inl e15)
  exact (w.takeY h1).put (tyB_nr (may_fldT hmay (by omega) (by omega))) h2
 rw [if_neg e15] at h
 by_cases e16:i.op=16
 ·rw [if_pos e16,Option.bind_eq_some_iff] at h
  obtain ⟨p,h1,h2⟩:=h
  exact (w.takeY h1).takeY h2
 rw [if_neg e16] at h
 by_cases e17:i.op=17
 ·rw [if_pos e17,Option.bind_eq_some_iff] at h
  obtain ⟨p,h1,h2⟩:=h
  have o:=ok.cls (Or.inr (Or.inl e17))
  exact (w.takeK h1).1.put (fun e=>absurd rfl e) h2
 rw [if_neg e17] at h
 by_cases e18:i.op=18
 ·rw [if_pos e18,Option.bind_eq_some_iff] at h
  obtain ⟨p,h1,h2⟩:=h
  exact (w.takeK h1).1.put n1 h2
 rw [if_neg e18] at h
 have h:=Option.some.inj h
 subst h;exact w
theorem assert_up (x:Value) (w:World):(Instr.typeAssert (.iface 251 x) 20 251 true).run Tryz.prog w=.ok (.tuple #[x,.bool true]) w:=by
 simp [Instr.typeAssert,run_underlying Tryz.underlying251]
theorem assert_nil (w:World):(Instr.typeAssert .nilIface 20 251 true).run Tryz.prog w=.ok (.tuple #[.agg #[],.bool false]) w:=by
 simp [Instr.typeAssert,run_underlying Tryz.underlying251]
theorem hcatch_idle (w:World) :
  CallsD Tryz.prog 204 #[] .returning w fun e u' w'=>e=.returned (.tuple #[])∧u'=.returning∧w'=w:=by
 refine callsD_of_wpS Tryz.func204 rfl fun c₀ cs hu=>?_
 apply wpS_seq
 apply wpS_region
 simp [wpOpsS,go_sem,recoverD,hu,Tryz.ntmps204,Exit.thenS]
 refine wpS_of_wp ?_
 have hts:=assert_nil
 have he:((Array.replicate 9 undef).setIfInBounds 2 Value.nilIface)=#[undef,undef,.nilIface,undef,undef,undef,undef,undef,undef]:=rfl
 rw [he]
 clear he
 go_wp2
 cases c₀
 simp_all [bodyPostS,results,Tryz.results204]
theorem hcatch_up (older:List PanicEntry) (w:World) :
  CallsD Tryz.prog 204 #[] (.panicking ({ v:=.iface 251 (.agg #[]),recovered:=false }::older)) w fun e u' w' =>
   e=.returned (.tuple #[])∧u'=.panicking ({ v:=.iface 251 (.agg #[]),recovered:=true }::older)∧w'=w:=by
 refine callsD_of_wpS Tryz.func204 rfl fun c₀ cs hu=>?_
 apply wpS_seq
 apply wpS_region
 simp [wpOpsS,go_sem,recoverD,hu,Tryz.ntmps204,Exit.thenS]
 refine wpS_of_wp ?_
 have hts:=assert_up (.agg #[])
 have he:((Array.replicate 9 undef).setIfInBounds 2 (Value.iface 251 (.agg #[])))=#[undef,undef,.iface 251 (.agg #[]),undef,undef,undef,undef,undef,undef]:=rfl
 rw [he]
 clear he
 go_wp2
 simp [bodyPostS,results,Tryz.results204]
theorem holds_any (x y:Value) (S T:World→Prop) (w:World)
  (hc:Calls Tryz.prog 168 #[x,y] w fun e w'=>(e=upE∧S w')∨(e=.returned (.tuple #[])∧T w')) :
  Calls Tryz.prog 167 #[.func (.func 168) #[] #[x,y]] w fun e w'=>(e=.returned (.bool false)∧S w')∨(e=.returned (.bool true)∧T w'):=by
 have hmf:∀(fn:Fn) (first cap:Array Value) (w:World),(Instr.makeFunc fn first cap).run Tryz.prog w=.ok (.func fn first cap) w:=fun _ _ _ _=>rfl
 have HC:Hid (_):=hc
 clear hc
 go_enter_defers Tryz.func167,Tryz.ntmps167
 go_wp2_with (go_at_call 168;refine Calls.mono HC.out ?_;rintro e w1 (⟨rfl,s1⟩|⟨rfl,s1⟩);(refine leaves_cons (f:=204) (args:=#[]) (by simp) (by simp [go_sem]) ?_;refine (hcatch_up [] w1).mono ?_;rintro e u' w2 ⟨rfl,rfl,rfl⟩;simp [Leaves,settle,results,Tryz.results167,go_sem];exact s1))
 refine leaves_cons (f:=204) (args:=#[]) (by simp) (by simp [go_sem]) ?_
 refine (hcatch_idle _).mono ?_
 rintro e u' w2 ⟨rfl,rfl,rfl⟩
 simp [Leaves,settle,results,Tryz.results167,go_sem]
 exact s1
section
open Go.RowKit (wrap32 wrap64)
theorem narrow_any (a:Int) (w:World) :
  Calls Tryz.prog 102 #[.int .i64 a] w fun e w'=>e=.returned (.int .i64 (wrap32 a))∧w'=w:=by
 go_enter Tryz.func102,Tryz.ntmps102
 go_wp2
 go_ret
 exact ⟨ret_i (w64_w32 a),rfl⟩
end
theorem ret_ib {k:IntKind} {a b:Int} {x y:Bool} (h:a=b) (h':x=y):Ending.returned (.tuple #[.int k a,.bool x])=.returned (.tuple #[.int k b,.bool y]):=by rw [h,h']
theorem ret_b {x y:Bool} (h:x=y):Ending.returned (.bool x)=.returned (.bool y):=by rw [h]
theorem rcmp_any (a b:Int) (w:World) :
  Calls Tryz.prog 160 #[.int .i64 a,.int .i64 b] w fun e w'=>e=.returned (.int .i64 (cmpV a b))∧w'=w:=by
 unfold cmpV
 by_cases h:a<b
 ·rw [if_pos h]
  go_enter Tryz.func160,Tryz.ntmps160
  go_wp2
  go_ret
  exact ⟨rfl,rfl⟩
 by_cases h':b<a
 ·rw [if_neg h,if_pos h']
  go_enter Tryz.func160,Tryz.ntmps160
  go_wp2
  go_ret
  exact ⟨rfl,rfl⟩
 ·rw [if_neg h,if_neg h']
  go_enter Tryz.func160,Tryz.ntmps160
  go_wp2
  go_ret
  exact ⟨rfl,rfl⟩
theorem bit_round (a:Int) (i:Nat) (hlo:-9223372036854775808≤a) (hhi:a≤9223372036854775807) :
  -9223372036854775808≤a/2 ^ i∧a/2 ^ i≤9223372036854775807:=by
 have hp:(0:Int)<2 ^ i:=Int.pow_pos (by omega)
 constructor
 ·rw [Int.le_ediv_iff_mul_le hp]
  have:(1:Int)≤2 ^ i:=by omega
  have:=Int.mul_le_mul_of_nonpos_left (a:=(-9223372036854775808:Int)) (by omega) this
  omega
 ·by_cases h:0≤a
  ·have:=Int.ediv_le_self (2 ^ i) h;omega
  ·have:=Int.ediv_neg_of_neg_of_pos (by omega:a<0) hp;omega
theorem bne_iff' (n:Int):(n.tmod 2 !=0)=decide (n%2=1):=by
 have:=tmod2 n
 by_cases h:n%2=1
 ·have h':n.tmod 2≠0:=by omega
  simp [h,h']
 ·have h':n.tmod 2=0:=by omega
  simp [h,h']
theorem bit_any (a:Int) (k:Nat) (w:World) (hlo:-9223372036854775808≤a) (hhi:a≤9223372036854775807) (hk:k≤64) :
  Calls Tryz.prog 247 #[.int .i64 a,.int .i64 (k:Int)] w fun e w'=>e=.returned (.bool (bitB a k))∧w'=w:=by
 go_enter Tryz.func247,Tryz.ntmps247
 go_wp2
 go_loop [0,5] (fun n i=>∃j:Nat,j≤k∧i=.int .i64 j∧n=.int .i64 (a/2 ^ j)) (fun _ i=>k-(intOf i).toNat)
 case atStart=>exact ⟨0,Nat.zero_le _,rfl,by simp⟩
 case round =>
  obtain ⟨j,hj,rfl,rfl⟩:=hrel
  have hb:=bit_round a j hlo hhi
  have hs:=div_pow_succ a j
  have HS:Hid (a/2 ^ (j+1)=a/2 ^ j/2):=hs
  clear hs
  have hbit:Hid (bitB a j=decide (a/2 ^ j%2=1)):=rfl
  obtain ⟨n,hn⟩:∃n,a/2 ^ j=n:=⟨_,rfl⟩
  rw [hn] at hb HS hbit
  simp only [hn]
  have ht:=tmod2 n
  have hh:=half_even n
  by_cases hlt:j<k
  ·by_cases hneg:n.tmod 2<0
   ·have h2:=ht.2.1 hneg
    go_wp2
    go_round
    case rel=>exact ⟨j+1,by omega,by go_num,by rw [HS.out,←hh,h2.2]⟩
    case measure=>simp [intOf];omega
   ·go_wp2
    go_round
    case rel=>exact ⟨j+1,by omega,by go_num,by rw [HS.out,←hh,ht.1 (by omega)]⟩
    case measure=>simp [intOf];omega
  ·have:j=k:=by omega
   subst this
   go_wp2
   go_ret
   exact ⟨ret_b (by rw [hbit.out,bne_iff' n]),rfl⟩
theorem bits_next (f:Nat→Bool) (j:Nat):wrap64 (sumB f (j+1):Nat)=if f j=true then wrap64 (wrap64 (sumB f j:Nat)+wrap64 ((2:Int) ^ j)) else wrap64 (sumB f j:Nat):=by
 by_cases h:f j=true
 ·rw [if_pos h,w64_add];simp [sumB,h]
 ·rw [if_neg h];simp [sumB,h]
theorem pow_step (j:Nat):wrap64 (wrap64 ((2:Int) ^ j)+wrap64 ((2:Int) ^ j))=wrap64 ((2:Int) ^ (j+1)):=by
 rw [w64_add,Int.pow_succ];congr 1;omega
theorem bits_any (op a b:Int) (w:World) (ho:op=6∨op=7∨op=8) (hlo:-9223372036854775808≤a) (hhi:a≤9223372036854775807) (hlo':-9223372036854775808≤b) (hhi':b≤9223372036854775807) :
  Calls Tryz.prog 234 #[.int .i64 op,.int .i64 a,.int .i64 b] w fun e w'=>e=.returned (.int .i64 (wrap64 (sumB (fun i=>opB op (bitB a i) (bitB b i)) 64:Nat)))∧w'=w:=by
 go_enter Tryz.func234,Tryz.ntmps234
 go_wp2
 go_loop [7,8,9] (fun n p i=>∃j:Nat,j≤64∧i=.int .i64 j∧p=.int .i64 (wrap64 (2 ^ j))∧n=.int .i64 (wrap64 (sumB (fun i=>opB op (bitB a i) (bitB b i)) j:Nat))) (fun _ _ i=>64-(intOf i).toNat)
 case atStart=>exact ⟨0,Nat.zero_le _,rfl,by simp [wrap64],by simp [sumB,wrap64]⟩
 case round =>
  obtain ⟨j,hj,rfl,rfl,rfl⟩:=hrel
  have hps:Hid (wrap64 (wrap64 ((2:Int) ^ j)+wrap64 ((2:Int) ^ j))=wrap64 ((2:Int) ^ (j+1))):=pow_step j
  have HT:Hid (wrap64 (sumB (fun i=>opB op (bitB a i) (bitB b i)) (j+1):Nat)=if opB op (bitB a j) (bitB b j)=true then wrap64 (wrap64 (sumB (fun i=>opB op (bitB a i) (bitB b i)) j:Nat)+wrap64 ((2:Int) ^ j)) else wrap64 (sumB (fun i=>opB op (bitB a i) (bitB b i)) j:Nat)):=bits_next (fun i=>opB op (bitB a i) (bitB b i)) j
  by_cases hlt:j<64
  ·rcases ho with rfl|rfl|rfl<;>cases hx:bitB a j<;>cases hy:bitB b j
   all_goals
    go_wp2_with (go_at_call 247;refine (bit_any _ _ _ (by omega) (by omega) (by omega)).mono ?_;rintro e w' ⟨rfl,rfl⟩)
    go_round
    case rel=>exact ⟨j+1,by omega,by go_num,by rw [←hps.out],by rw [HT.out];simp [opB,hx,hy]⟩
    case measure=>simp [intOf];omega
  ·have:j=64:=by omega
   subst this
   go_wp2
   go_ret
   exact ⟨rfl,rfl⟩
theorem rnarrow_any (a:Int) (w:World) :
  Calls Tryz.prog 50 #[.int .i64 a] w fun e w'=>e=.returned (.int .i64 (wrap32 a))∧w'=w:=by
 have h:=ref_narrow a
 have hb:=tmod32_bd a
 by_cases h1:a.tmod 4294967296<0
 ·by_cases h2:a.tmod 4294967296+4294967296≥2147483648
  ·have HE:Hid (wrap32 a=a.tmod 4294967296+4294967296-4294967296):=h.1 h1 h2
   clear h
   go_enter Tryz.func50,Tryz.ntmps50
   go_wp2
   go_ret
   exact ⟨ret_i (by rw [HE.out];omega),rfl⟩
  ·have HE:Hid (wrap32 a=a.tmod 4294967296+4294967296):=h.2.1 h1 (by omega)
   clear h
   go_enter Tryz.func50,Tryz.ntmps50
   go_wp2
   go_ret
   exact ⟨ret_i (by rw [HE.out]),rfl⟩
 ·by_cases h2:a.tmod 4294967296≥2147483648
  ·have HE:Hid (wrap32 a=a.tmod 4294967296-4294967296):=h.2.2.1 (by omega) h2
   clear h
   go_enter Tryz.func50,Tryz.ntmps50
   go_wp2
   go_ret
   exact ⟨ret_i (by rw [HE.out]),rfl⟩
  ·have HE:Hid (wrap32 a=a.tmod 4294967296):=h.2.2.2 (by omega) (by omega)
   clear h
   go_enter Tryz.func50,Tryz.ntmps50
   go_wp2
   go_ret
   exact ⟨ret_i (by rw [HE.out]),rfl⟩
theorem neg_one_quo (a:Int):wrap64 (-a)=wrap64 (a.tdiv (-1)):=by
 congr 1;rw [Int.tdiv_neg,Int.tdiv_one]
theorem rem_by (a b:Int) (h:-9223372036854775808≤a) (h':a≤9223372036854775807):wrap64 (a-wrap64 (wrap64 (a.tdiv b)*b))=a.tmod b:=by
 have h1:=mul_tdiv_tmod a b
 have h2:=tmod_bd a b h h'
 rw [w64_mul]
 have h3:a-a.tdiv b*b=a.tmod b:=by omega
 have h4:wrap64 (a-wrap64 (a.tdiv b*b))=wrap64 (a-a.tdiv b*b):=by
  generalize a.tdiv b*b=x;unfold wrap64;omega
 rw [h4,h3,w64_in h2.1 h2.2]
theorem rlong_any (op a b:Int) (w:World) (hlo:-9223372036854775808≤a) (hhi:a≤9223372036854775807) (hlo':-9223372036854775808≤b) (hhi':b≤9223372036854775807) :
  Calls Tryz.prog 200 #[.int .i64 op,.int .i64 a,.int .i64 b] w fun e w'=>e=.returned (.tuple #[.int .i64 (lngV op a b),.bool (lngB op b)])∧w'=w:=by
 by_cases h1:op=1
 ·subst h1
  have HE:Hid (lngV 1 a b=wrap64 (a+b)∧lngB 1 b=true):=⟨by simp [lngV],by simp [lngB]⟩
  clear hlo hhi hlo' hhi'
  go_enter Tryz.func200,Tryz.ntmps200
  go_wp2
  go_ret2
  exact ⟨ret_ib HE.out.1.symm HE.out.2.symm,rfl⟩
 by_cases h2:op=2
 ·subst h2
  have HE:Hid (lngV 2 a b=wrap64 (a-b)∧lngB 2 b=true):=⟨by simp [lngV],by simp [lngB]⟩
  clear hlo hhi hlo' hhi'
  go_enter Tryz.func200,Tryz.ntmps200
  go_wp2
  go_ret2
  exact ⟨ret_ib HE.out.1.symm HE.out.2.symm,rfl⟩
 by_cases h3:op=3
 ·subst h3
  have HE:Hid (lngV 3 a b=wrap64 (a*b)∧lngB 3 b=true):=⟨by simp [lngV],by simp [lngB]⟩
  clear hlo hhi hlo' hhi'
  go_enter Tryz.func200,Tryz.ntmps200
  go_wp2
  go_ret2
  exact ⟨ret_ib HE.out.1.symm HE.out.2.symm,rfl⟩
 by_cases hbits:op=6∨op=7∨op=8
 ·have HE:Hid (lngV op a b=wrap64 (sumB (fun i=>opB op (bitB a i) (bitB b i)) 64:Nat)∧lngB op b=true) :=
   ⟨by have h4:¬op=4:=(by omega);have h5:¬op=5:=(by omega);simp only [lngV,if_neg h1,if_neg h2,if_neg h3,if_neg h4,if_neg h5,if_pos hbits],
    by simp only [lngB,decide_eq_true_eq];omega⟩
  have hc:=fun w=>bits_any op a b w hbits hlo hhi hlo' hhi'
  clear hlo hhi hlo' hhi'
  rcases hbits with rfl|rfl|rfl
  all_goals
   go_enter Tryz.func200,Tryz.ntmps200
   go_wp2_with (go_at_call 234;refine (hc _).mono ?_;rintro e w' ⟨rfl,rfl⟩)
   go_ret2
   exact ⟨ret_ib HE.out.1.symm HE.out.2.symm,rfl⟩
 by_cases h4:op=4
 ·subst h4
  by_cases hb:b=0
  ·subst hb
   have HE:Hid (lngV 4 a 0=0∧lngB 4 0=false):=⟨by simp [lngV],by simp [lngB]⟩
   clear hlo hhi hlo' hhi'
   go_enter Tryz.func200,Tryz.ntmps200
   go_wp2
   go_ret2
   exact ⟨ret_ib HE.out.1.symm HE.out.2.symm,rfl⟩
  ·have HE:Hid (lngV 4 a b=wrap64 (a.tdiv b)∧lngB 4 b=true):=⟨by simp [lngV,hb],by simp [lngB,hb]⟩
   clear hlo hhi hlo' hhi'
   by_cases hm:b=-1
   ·subst hm
    go_enter Tryz.func200,Tryz.ntmps200
    go_wp2
    go_ret2
    exact ⟨ret_ib (by rw [HE.out.1];exact neg_one_quo a) HE.out.2.symm,rfl⟩
   ·go_enter Tryz.func200,Tryz.ntmps200
    go_wp2
    go_ret2
    exact ⟨ret_ib HE.out.1.symm HE.out.2.symm,rfl⟩
 by_cases h5:op=5
 ·subst h5
  by_cases hb:b=0
  ·subst hb
   have HE:Hid (lngV 5 a 0=0∧lngB 5 0=false):=⟨by simp [lngV],by simp [lngB]⟩
   clear hlo hhi hlo' hhi'
   go_enter Tryz.func200,Tryz.ntmps200
   go_wp2
   go_ret2
   exact ⟨ret_ib HE.out.1.symm HE.out.2.symm,rfl⟩
  ·have HE:Hid (lngV 5 a b=a.tmod b∧lngB 5 b=true):=⟨by simp [lngV,hb],by simp [lngB,hb]⟩
   have HR:Hid (wrap64 (a-wrap64 (wrap64 (a.tdiv b)*b))=a.tmod b):=rem_by a b hlo hhi
   clear hlo hhi hlo' hhi'
   by_cases hm:b=-1
   ·subst hm
    go_enter Tryz.func200,Tryz.ntmps200
    go_wp2
    go_ret2
    exact ⟨ret_ib (by rw [HE.out.1,←HR.out,←neg_one_quo,Int.mul_neg_one]) HE.out.2.symm,rfl⟩
   ·go_enter Tryz.func200,Tryz.ntmps200
    go_wp2
    go_ret2
    exact ⟨ret_ib (by rw [HE.out.1,←HR.out]) HE.out.2.symm,rfl⟩
 have e1:lngV op a b=0:=by
  simp only [lngV,if_neg h1,if_neg h2,if_neg h3,if_neg h4,if_neg h5,if_neg hbits]
 have e2:lngB op b=false:=by simp only [lngB,decide_eq_false_iff_not];omega
 rw [e1,e2]
 clear e1 e2 hlo hhi hlo' hhi'
 have h6:¬op=6:=by omega
 have h7:¬op=7:=by omega
 have h8:¬op=8:=by omega
 clear hbits
 go_enter Tryz.func200,Tryz.ntmps200
 go_wp2
 go_ret2
 exact ⟨rfl,rfl⟩
theorem rint_any (op a b:Int) (w:World) :
  Calls Tryz.prog 201 #[.int .i64 op,.int .i64 a,.int .i64 b] w fun e w'=>e=.returned (.tuple #[.int .i64 (wrap32 (lngV op (wrap32 a) (wrap32 b))),.bool (lngB op (wrap32 b))])∧w'=w:=by
 have ha:=w32_bd a
 have hb:=w32_bd b
 go_enter Tryz.func201,Tryz.ntmps201
 go_wp2_with (first|(go_at_call 50;refine (rnarrow_any _ _).mono ?_;rintro e w' ⟨rfl,rfl⟩)|(go_at_call 200;refine (rlong_any _ _ _ _ (by omega) (by omega) (by omega) (by omega)).mono ?_;rintro e w' ⟨rfl,rfl⟩))
 go_ret2
 exact ⟨rfl,rfl⟩
theorem hld1 (a:Int):hldB 1 a=(a==0):=by unfold hldB;by_cases h:a=0<;>simp [h]
theorem hld2 (a:Int):hldB 2 a=decide (a<0):=by unfold hldB;simp
theorem hld3 (a:Int):hldB 3 a=(a !=0):=by unfold hldB;by_cases h:a=0<;>simp [h]
theorem hld4 (a:Int):hldB 4 a=decide (0<a):=by unfold hldB;simp
theorem hld0 (c a:Int) (h1:¬c=1) (h2:¬c=2) (h3:¬c=3) (h4:¬c=4):hldB c a=false:=by unfold hldB;simp [h1,h2,h3,h4]
theorem rholds_any (c a:Int) (w:World) :
  Calls Tryz.prog 111 #[.int .i64 c,.int .i64 a] w fun e w'=>e=.returned (.bool (hldB c a))∧w'=w:=by
 by_cases h1:c=1
 ·subst h1
  rw [hld1]
  go_enter Tryz.func111,Tryz.ntmps111
  go_wp2
  go_ret
  exact ⟨rfl,rfl⟩
 by_cases h2:c=2
 ·subst h2
  rw [hld2]
  go_enter Tryz.func111,Tryz.ntmps111
  go_wp2
  go_ret
  exact ⟨rfl,rfl⟩
 by_cases h3:c=3
 ·subst h3
  rw [hld3]
  go_enter Tryz.func111,Tryz.ntmps111
  go_wp2
  go_ret
  exact ⟨rfl,rfl⟩
 by_cases h4:c=4
 ·subst h4
  rw [hld4]
  go_enter Tryz.func111,Tryz.ntmps111
  go_wp2
  go_ret
  exact ⟨rfl,rfl⟩
 rw [hld0 c a h1 h2 h3 h4]
 go_enter Tryz.func111,Tryz.ntmps111
 go_wp2
 go_ret
 exact ⟨rfl,rfl⟩
theorem mes_ok {w:World} {B:Option Addr} {l:List Me} (h:MesAt w B l):∀m∈l,∀i∈m.code,i.ok:=by
 intro m hm i hi
 obtain ⟨j,hj,rfl⟩:=List.getElem_of_mem hm
 rcases h.2 with h0|⟨mb,mo,-,hcell⟩
 ·omega
 obtain ⟨P,C,J,p,c,k,-,-,-,-,-,-,-,-,hme⟩:=hcell j hj
 rw [nth_get hj] at hme
 obtain ⟨q,hq,rfl⟩:=List.getElem_of_mem hi
 rcases hme.2.1.2 with h0|⟨xb,xo,-,hc⟩
 ·omega
 ·have:=(hc q hq).2.2.2.2.2.1
  rw [nth_get hq] at this
  exact this
theorem ints_ok {w:World} {I:Option Addr} {l:List Int} (h:IntsAt w I l):∀n∈l,I64 n:=by
 intro n hn
 obtain ⟨j,hj,rfl⟩:=List.getElem_of_mem hn
 rcases h.2 with h0|⟨b,off,-,hc⟩
 ·omega
 ·have:=(hc j hj).2
  rw [nth_get hj] at this
  exact this
end Go.Proofs.YtgiiapenmjollaaGreat
