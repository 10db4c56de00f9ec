import Derived.Test.YtgiiapenmjollabGreatRlac
import Derived.Test.YtgiiapenmjollabGreatChecked
import Derived.WalkKit
import Derived.RowKit3
import Derived.Handy
namespace Go.Proofs.YtgiiapenmjollabGreat
set_option linter.all false
set_option maxHeartbeats 40000000
set_option maxRecDepth 100000
open Go.RowKit
section
open Go.RowKit (wrap32 wrap64)
theorem quotient_any (a b:Int) (w:World) :
  Calls Tryz.prog 331 #[.int .i64 a,.int .i64 b] w fun e w'=>e=.returned (.tuple #[.int .i64 (lngV 4 a b),.bool (lngB 4 b)])∧w'=w:=by
 by_cases h:b=0
 ·subst h
  go_enter Tryz.func331,Tryz.ntmps331
  go_wp2
  go_ret2
  exact ⟨ret_ib (by simp [lngV]) (by simp [lngB]),rfl⟩
 ·go_enter Tryz.func331,Tryz.ntmps331
  go_wp2
  go_ret2
  exact ⟨ret_ib (by simp [lngV,h]) (by simp [lngB,h]),rfl⟩
theorem remainder_any (a b:Int) (w:World) :
  Calls Tryz.prog 332 #[.int .i64 a,.int .i64 b] w fun e w'=>e=.returned (.tuple #[.int .i64 (lngV 5 a b),.bool (lngB 5 b)])∧w'=w:=by
 by_cases h:b=0
 ·subst h
  go_enter Tryz.func332,Tryz.ntmps332
  go_wp2
  go_ret2
  exact ⟨ret_ib (by simp [lngV]) (by simp [lngB]),rfl⟩
 ·go_enter Tryz.func332,Tryz.ntmps332
  go_wp2
  go_ret2
  exact ⟨ret_ib (by simp [lngV,h]) (by simp [lngB,h]),rfl⟩
theorem long_any (op a b:Int) (w:World) :
  Calls Tryz.prog 323 #[.int .i64 op,.int .i64 a,.int .i64 b] w fun e w'=>e=.returned (.tuple #[.int .i64 (lngV op a b),.bool (lngB op b)])∧w'=w:=by
 by_cases h1:op=1
 ·subst h1
  go_enter Tryz.func323,Tryz.ntmps323
  go_wp2
  go_ret2
  exact ⟨ret_ib (by simp [lngV]) (by simp [lngB]),rfl⟩
 by_cases h2:op=2
 ·subst h2
  go_enter Tryz.func323,Tryz.ntmps323
  go_wp2
  go_ret2
  exact ⟨ret_ib (by simp [lngV]) (by simp [lngB]),rfl⟩
 by_cases h3:op=3
 ·subst h3
  go_enter Tryz.func323,Tryz.ntmps323
  go_wp2
  go_ret2
  exact ⟨ret_ib (by simp [lngV]) (by simp [lngB]),rfl⟩
 by_cases h4:op=4
 ·subst h4
  go_enter Tryz.func323,Tryz.ntmps323
  go_wp2_with (go_at_call 331;refine (quotient_any _ _ _).mono ?_;rintro e w' ⟨rfl,rfl⟩)
  go_ret2
  exact ⟨rfl,rfl⟩
 by_cases h5:op=5
 ·subst h5
  go_enter Tryz.func323,Tryz.ntmps323
  go_wp2_with (go_at_call 332;refine (remainder_any _ _ _).mono ?_;rintro e w' ⟨rfl,rfl⟩)
  go_ret2
  exact ⟨rfl,rfl⟩
 by_cases h6:op=6
 ·subst h6
  go_enter Tryz.func323,Tryz.ntmps323
  go_wp2
  go_ret2
  exact ⟨ret_ib (lng_and a b).symm (by simp [lngB]),rfl⟩
 by_cases h7:op=7
 ·subst h7
  go_enter Tryz.func323,Tryz.ntmps323
  go_wp2
  go_ret2
  exact ⟨ret_ib (lng_or a b).symm (by simp [lngB]),rfl⟩
 by_cases h8:op=8
 ·subst h8
  go_enter Tryz.func323,Tryz.ntmps323
  go_wp2
  go_ret2
  exact ⟨ret_ib (lng_xor a b).symm (by simp [lngB]),rfl⟩
 have e1:lngV op a b=0:=by simp [lngV,h1,h2,h3,h4,h5,h6,h7,h8]
 have e2:lngB op b=false:=by simp only [lngB,decide_eq_false_iff_not];omega
 rw [e1,e2]
 clear e1 e2
 go_enter Tryz.func323,Tryz.ntmps323
 go_wp2
 go_ret2
 exact ⟨rfl,rfl⟩
theorem int_any (op a b:Int) (w:World) :
  Calls Tryz.prog 324 #[.int .i64 op,.int .i64 a,.int .i64 b] w fun e w'=>e=.returned (.tuple #[.int .i64 (wrap32 (lngV op (wrap32 a) (wrap32 b))),.bool (lngB op (wrap32 b))])∧w'=w:=by
 go_enter Tryz.func324,Tryz.ntmps324
 go_wp2_with (first|(go_at_call 149;refine (narrow_any _ _).mono ?_;rintro e w' ⟨rfl,rfl⟩)|(go_at_call 323;refine (long_any _ _ _ _).mono ?_;rintro e w' ⟨rfl,rfl⟩))
 go_ret2
 exact ⟨rfl,rfl⟩
theorem cmp_any (a b:Int) (w:World) :
  Calls Tryz.prog 300 #[.int .i64 a,.int .i64 b] w fun e w'=>e=.returned (.int .i64 (cmpV a b))∧w'=w:=by
 unfold cmpV
 by_cases h:a<b
 ·rw [if_pos h]
  go_enter Tryz.func300,Tryz.ntmps300
  go_wp2
  go_ret
  exact ⟨rfl,rfl⟩
 by_cases h':b<a
 ·rw [if_neg h,if_pos h']
  go_enter Tryz.func300,Tryz.ntmps300
  go_wp2
  go_ret
  exact ⟨rfl,rfl⟩
 ·rw [if_neg h,if_neg h']
  go_enter Tryz.func300,Tryz.ntmps300
  go_wp2
  go_ret
  exact ⟨rfl,rfl⟩
end
theorem ask_any (c a:Int) (b:Nat) (w:World) (hc:w.cell? ⟨b,0,none⟩=some (.int .i64 c)) :
  Calls Tryz.prog 260 #[.int .i64 a,.pointer (some ⟨b,0,none⟩)] w fun e w'=>e=.returned (.bool (hldB c a))∧w'=w:=by
 by_cases h1:c=1
 ·subst h1
  rw [hld1]
  go_enter Tryz.func260,Tryz.ntmps260
  go_wp2
  go_ret
  exact ⟨rfl,rfl⟩
 by_cases h2:c=2
 ·subst h2
  rw [hld2]
  go_enter Tryz.func260,Tryz.ntmps260
  go_wp2
  go_ret
  exact ⟨rfl,rfl⟩
 by_cases h3:c=3
 ·subst h3
  rw [hld3]
  go_enter Tryz.func260,Tryz.ntmps260
  go_wp2
  go_ret
  exact ⟨rfl,rfl⟩
 by_cases h4:c=4
 ·subst h4
  rw [hld4]
  go_enter Tryz.func260,Tryz.ntmps260
  go_wp2
  go_ret
  exact ⟨rfl,rfl⟩
 rw [hld0 c a h1 h2 h3 h4]
 go_enter Tryz.func260,Tryz.ntmps260
 go_wp2
 go_ret
 exact ⟨rfl,rfl⟩

def MeBox (w:World) (b off:Nat) (m:Me) (P C K:Option Addr) (p c k:Nat):Prop :=
 w.cell? ⟨b,off,none⟩=some (.slice P m.params.length p)∧w.cell? ⟨b,off+1,none⟩=some (.int .i64 m.ret.kind)∧w.cell? ⟨b,off+2,none⟩=some (.int .i64 m.ret.cls)
  ∧ w.cell? ⟨b,off+3,none⟩=some (.int .i64 m.stack)∧w.cell? ⟨b,off+4,none⟩=some (.int .i64 m.locs)∧w.cell? ⟨b,off+5,none⟩=some (.int .i64 m.regs)
  ∧ w.cell? ⟨b,off+6,none⟩=some (.slice C m.code.length c)∧w.cell? ⟨b,off+7,none⟩=some (.slice K m.hands.length k)
theorem MeBox.bl {w w':World} (h:Bl w w') {b off:Nat} {m:Me} {P C K:Option Addr} {p c k:Nat} (hb:MeBox w b off m P C K p c k):MeBox w' b off m P C K p c k :=
 ⟨h.cell hb.1,h.cell hb.2.1,h.cell hb.2.2.1,h.cell hb.2.2.2.1,h.cell hb.2.2.2.2.1,h.cell hb.2.2.2.2.2.1,h.cell hb.2.2.2.2.2.2.1,h.cell hb.2.2.2.2.2.2.2⟩
abbrev meV (m:Me) (P C K:Option Addr) (p c k:Nat):Value :=
 .agg #[.slice P m.params.length p,.int .i64 m.ret.kind,.int .i64 m.ret.cls,.int .i64 m.stack,.int .i64 m.locs,.int .i64 m.regs,.slice C m.code.length c,.slice K m.hands.length k]
abbrev fiV (nc nm:Nat) (A B:Option Addr) (a b:Nat):Value:=.agg #[.slice A nc a,.slice B nm b]
def FiBox (w:World) (b off:Nat) (nc nm:Nat) (A B:Option Addr) (x y:Nat):Prop :=
 w.cell? ⟨b,off,none⟩=some (.slice A nc x)∧w.cell? ⟨b,off+1,none⟩=some (.slice B nm y)
theorem FiBox.bl {w w':World} (h:Bl w w') {b off nc nm:Nat} {A B:Option Addr} {x y:Nat} (hb:FiBox w b off nc nm A B x y):FiBox w' b off nc nm A B x y:=⟨h.cell hb.1,h.cell hb.2⟩
theorem mes_ok {w:World} {B:Option Addr} {l:List Me} (h:MesAt w B l):∀m∈l,∀i∈m.code,i.ok:=by
 intro m hm i hi
 obtain ⟨j,hj,rfl⟩:=List.getElem_of_mem hm
 rcases h.2 with h0|⟨mb,mo,-,hcell⟩
 ·omega
 obtain ⟨P,C,J,p,c,k,-,-,-,-,-,-,-,-,hme⟩:=hcell j hj
 rw [nth_get hj] at hme
 obtain ⟨q,hq,rfl⟩:=List.getElem_of_mem hi
 rcases hme.2.1.2 with h0|⟨xb,xo,-,hc⟩
 ·omega
 ·have:=(hc q hq).2.2.2.2.2.1
  rw [nth_get hq] at this
  exact this
theorem ints_ok {w:World} {I:Option Addr} {l:List Int} (h:IntsAt w I l):∀n∈l,I64 n:=by
 intro n hn
 obtain ⟨j,hj,rfl⟩:=List.getElem_of_mem hn
 rcases h.2 with h0|⟨b,off,-,hc⟩
 ·omega
 ·have:=(hc j hj).2
  rw [nth_get hj] at this
  exact this
def RowAt (w:World) (A:Option Addr) (l:List Int):Prop :=
 l.length≤maxLen∧(l.length=0∨∃b off,A=some ⟨b,off,none⟩∧∀i,i<l.length→w.cell? ⟨b,off+i,none⟩=some (.int .i64 (nth (0:Int) l i)))
theorem RowAt.bl {w w':World} {A:Option Addr} {l:List Int} (h:RowAt w A l) (hb:Bl w w'):RowAt w' A l:=by
 refine ⟨h.1,?_⟩
 rcases h.2 with h0|⟨b,off,e,hc⟩
 ·exact Or.inl h0
 ·exact Or.inr ⟨b,off,e,fun i hi=>hb.cell (hc i hi)⟩
theorem row_at {w:World} {base:Nat} {v:Value} {l:List Int} (h:w.ownsRow base 2 1 v l.length (l.map (Value.int .i64))):∃A cap,v=.slice A l.length cap∧RowAt w A l:=by
 rcases h.2 with ⟨h1,h0⟩|⟨gb,cap,cur,rfl,h2,h3,h4,h5,h6,h7⟩
 ·exact ⟨none,0,by rw [h1,h0],by unfold maxLen;omega,Or.inl h0⟩
 ·refine ⟨_,cap,rfl,by omega,Or.inr ⟨gb,0,rfl,fun i hi=>?_⟩⟩
  rw [cell_blk h3]
  have h8:(cur.toList.take (l.length*1))[i]?=(l.map (Value.int .i64))[i]?:=by rw [h7]
  rw [List.getElem?_take,if_pos (by omega)] at h8
  rw [Nat.zero_add,←Array.getElem?_toList,h8,List.getElem?_map,List.getElem?_eq_getElem hi,nth_get hi]
  rfl
end Go.Proofs.YtgiiapenmjollabGreat
