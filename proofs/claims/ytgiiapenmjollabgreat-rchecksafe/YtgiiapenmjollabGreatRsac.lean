import Derived.Test.YtgiiapenmjollabGreatRsab
import Derived.Test.YtgiiapenmjollabGreatChecked
import Derived.Handy
import Derived.RangeFuncNested
import Derived.RangeFuncBound
import Derived.RangeFuncCalls
import Derived.RangeFuncLeaves
import Derived.RangeFuncFrom
import Derived.Shelf.Abstract
import Derived.Shelf.RegionOpen
import Derived.WalkKit
import Derived.OwnWalkIn
import Derived.TacticsInMore
import Derived.LoopNIn
import Derived.LoopIn
namespace Go.Proofs.YtgiiapenmjollabGreat
set_option linter.all false
set_option maxHeartbeats 40000000
set_option maxRecDepth 100000
open Go.RowKit
theorem within_any (n lo hi:Int) (w:World) :
  Calls Tryz.prog 36 #[.int .i64 n,.int .i64 lo,.int .i64 hi] w fun e w'=>e=.returned (.bool (decide (lo≤n∧n≤hi)))∧w'=w:=by
 go_enter Tryz.func36,Tryz.ntmps36
 go_wp2
 all_goals
  go_ret
  refine ⟨ret_bool ?_,rfl⟩
  rw [Bool.eq_iff_iff];simp;try omega
theorem rslots_any (A:Option Addr) (c:Nat) (F:List Ty) (w:World) (hl:TysAt w A F) (hb:F.length≤1000000) :
  Calls Tryz.prog 38 #[.slice A F.length c] w fun e w'=>e=.returned (.int .i64 (slotsN F:Nat))∧w'=w:=by
 obtain ⟨hm,hl⟩:=hl
 clear hm
 have HS:Hid (∀k,k<F.length→slotsN (F.take (k+1))=slotsN (F.take k)+(if (nth ty0 F k).kind=2 then 2 else 1)):=slotsN_take F
 have HB:Hid (∀k,slotsN (F.take k)≤2*k):=fun k=>by have:=slotsN_le (F.take k);have:=List.length_take_le k F;omega
 go_enter Tryz.func38,Tryz.ntmps38
 go_wp2
 go_loop [3,4] (fun n i=>∃k:Nat,k≤F.length∧i=.int .i64 k∧n=.int .i64 ((F.length:Int)+((slotsN (F.take k):Nat):Int)-k)) (fun _ i=>F.length-(intOf i).toNat)
 case atStart=>exact ⟨0,Nat.zero_le _,rfl,by simp [slotsN]⟩
 case round =>
  obtain ⟨k,hk,rfl,rfl⟩:=hrel
  have h2:=HB.out k
  by_cases hlt:k<F.length
  ·rcases hl with h0|⟨b,off,rfl,hcell⟩
   ·omega
   have ht:=(hcell k hlt).1
   have hs:=HS.out k hlt
   clear hcell
   by_cases hk2:(nth ty0 F k).kind=2
   ·rw [if_pos hk2] at hs
    rw [hk2] at ht
    have HS':Hid (slotsN (F.take (k+1))=slotsN (F.take k)+2):=hs
    clear hs hk2
    go_wp2
    go_round
    case rel=>exact ⟨k+1,by omega,by go_num,by rw [HS'.out];go_num⟩
    case measure=>simp [intOf];omega
   ·rw [if_neg hk2] at hs
    have HS':Hid (slotsN (F.take (k+1))=slotsN (F.take k)+1):=hs
    have hk2':((nth ty0 F k).kind==2)=false:=by simpa using hk2
    clear hs hk2
    go_wp2
    go_round
    case rel=>exact ⟨k+1,by omega,by go_num,by rw [HS'.out];go_num⟩
    case measure=>simp [intOf];omega
  ·obtain rfl:k=F.length:=by omega
   rw [List.take_length] at *
   go_wp2
   go_ret
   exact ⟨ret_int (by omega),rfl⟩
def MeBox (w:World) (b off:Nat) (m:Me) (P C K:Option Addr) (p c k:Nat):Prop :=
 w.cell? ⟨b,off,none⟩=some (.slice P m.params.length p)∧w.cell? ⟨b,off+1,none⟩=some (.int .i64 m.ret.kind)∧w.cell? ⟨b,off+2,none⟩=some (.int .i64 m.ret.cls)
  ∧ w.cell? ⟨b,off+3,none⟩=some (.int .i64 m.stack)∧w.cell? ⟨b,off+4,none⟩=some (.int .i64 m.locs)∧w.cell? ⟨b,off+5,none⟩=some (.int .i64 m.regs)
  ∧ w.cell? ⟨b,off+6,none⟩=some (.slice C m.code.length c)∧w.cell? ⟨b,off+7,none⟩=some (.slice K m.hands.length k)
theorem MeBox.bl {w w':World} (h:Bl w w') {b off:Nat} {m:Me} {P C K:Option Addr} {p c k:Nat} (hb:MeBox w b off m P C K p c k):MeBox w' b off m P C K p c k :=
 ⟨h.cell hb.1,h.cell hb.2.1,h.cell hb.2.2.1,h.cell hb.2.2.2.1,h.cell hb.2.2.2.2.1,h.cell hb.2.2.2.2.2.1,h.cell hb.2.2.2.2.2.2.1,h.cell hb.2.2.2.2.2.2.2⟩
abbrev meV (m:Me) (P C K:Option Addr) (p c k:Nat):Value :=
 .agg #[.slice P m.params.length p,.int .i64 m.ret.kind,.int .i64 m.ret.cls,.int .i64 m.stack,.int .i64 m.locs,.int .i64 m.regs,.slice C m.code.length c,.slice K m.hands.length k]
abbrev fiV (nc nm:Nat) (A B:Option Addr) (a b:Nat):Value:=.agg #[.slice A nc a,.slice B nm b]
def FiBox (w:World) (b off:Nat) (nc nm:Nat) (A B:Option Addr) (x y:Nat):Prop :=
 w.cell? ⟨b,off,none⟩=some (.slice A nc x)∧w.cell? ⟨b,off+1,none⟩=some (.slice B nm y)
theorem FiBox.bl {w w':World} (h:Bl w w') {b off nc nm:Nat} {A B:Option Addr} {x y:Nat} (hb:FiBox w b off nc nm A B x y):FiBox w' b off nc nm A B x y:=⟨h.cell hb.1,h.cell hb.2⟩
theorem boxes_new (w:World) (nc nm:Nat) (A B:Option Addr) (x y:Nat) (m:Me) (P C K:Option Addr) (p c k:Nat) (t t':TypeId) :
  FiBox ((w.alloc (.cells #[.slice A nc x,.slice B nm y] t)).alloc (.cells #[.slice P m.params.length p,.int .i64 m.ret.kind,.int .i64 m.ret.cls,.int .i64 m.stack,.int .i64 m.locs,.int .i64 m.regs,.slice C m.code.length c,.slice K m.hands.length k] t')) w.heap.size 0 nc nm A B x y
  ∧ MeBox ((w.alloc (.cells #[.slice A nc x,.slice B nm y] t)).alloc (.cells #[.slice P m.params.length p,.int .i64 m.ret.kind,.int .i64 m.ret.cls,.int .i64 m.stack,.int .i64 m.locs,.int .i64 m.regs,.slice C m.code.length c,.slice K m.hands.length k] t')) (w.heap.size+1) 0 m P C K p c k:=by
 refine ⟨⟨?_,?_⟩,⟨?_,?_,?_,?_,?_,?_,?_,?_⟩⟩<;>simp
theorem head_few {nc:Nat} {m:Me} {most:Int} (h:¬(m.params.length≤4∧m.hands.length≤8∧1≤m.code.length∧(m.code.length:Int)≤most)):headB nc m most=false:=by
 unfold headB;rw [decide_eq_false h];rfl
theorem head_par {nc:Nat} {m:Me} {most:Int} {q:Nat} (hq:q<m.params.length) (h:tyB nc (nth ty0 m.params q)=false):headB nc m most=false:=by
 unfold headB;rw [all_bad hq h];simp
theorem head_hand {nc:Nat} {m:Me} {most:Int} {q:Nat} (hq:q<m.hands.length) (h:hdB nc m.code.length (nth hd0 m.hands q)=false):headB nc m most=false:=by
 unfold headB;rw [all_bad hq h];simp
theorem head_good {nc:Nat} {m:Me} {most:Int} (h:m.params.length≤4∧m.hands.length≤8∧1≤m.code.length∧(m.code.length:Int)≤most)
  (hp:∀q,q<m.params.length→tyB nc (nth ty0 m.params q)=true) (hh:∀q,q<m.hands.length→hdB nc m.code.length (nth hd0 m.hands q)=true):headB nc m most=retB nc m.ret:=by
 unfold headB;rw [decide_eq_true h,all_good hp,all_good hh];simp
theorem rhead_any (nc nm:Nat) (A B:Option Addr) (a b:Nat) (m:Me) (P C K:Option Addr) (p c k:Nat) (most:Int) (w:World) (hP:TysAt w P m.params) (hK:HdsAt w K m.hands) (hnc:nc≤12) (hcode:m.code.length≤maxLen) :
  Calls Tryz.prog 37 #[fiV nc nm A B a b,meV m P C K p c k,.int .i64 most] w fun e w'=>e=.returned (.bool (headB nc m most))∧Bl w w':=by
 have HP:Hid (TysAt w P m.params):=hP
 have HK:Hid (HdsAt w K m.hands):=hK
 have hpm:=hP.1
 have hkm:=hK.1
 unfold maxLen at hcode hpm hkm
 clear hP hK
 by_cases h1:4<m.params.length
 ·have hb:=head_few (nc:=nc) (m:=m) (most:=most) (by omega)
  rw [hb]
  go_enter Tryz.func37,Tryz.ntmps37
  go_wp2
  go_ret
  exact ⟨rfl,((Bl.refl _).alloc _).alloc _⟩
 by_cases h2:8<m.hands.length
 ·have hb:=head_few (nc:=nc) (m:=m) (most:=most) (by omega)
  rw [hb]
  go_enter Tryz.func37,Tryz.ntmps37
  go_wp2
  go_ret
  exact ⟨rfl,((Bl.refl _).alloc _).alloc _⟩
 by_cases h3:1≤(m.code.length:Int)∧(m.code.length:Int)≤most
 ·have HG:Hid ((∀q,q<m.params.length→tyB nc (nth ty0 m.params q)=true)→(∀q,q<m.hands.length→hdB nc m.code.length (nth hd0 m.hands q)=true)→headB nc m most=retB nc m.ret):=head_good (by omega)
  have hd3:decide (1≤(m.code.length:Int)∧(m.code.length:Int)≤most)=true:=decide_eq_true h3
  obtain ⟨f0,m0⟩:=boxes_new w nc nm A B a b m P C K p c k 25 50
  have HF:Hid (FiBox _ w.heap.size 0 nc nm A B a b):=f0
  have HM:Hid (MeBox _ (w.heap.size+1) 0 m P C K p c k):=m0
  clear f0 m0
  go_enter Tryz.func37,Tryz.ntmps37
  go_wp2_with (go_at_call 36;refine (within_any _ _ _ _).mono ?_;rintro e w' ⟨he,rfl⟩;rw [hd3] at he;subst he)
  go_loopw [7] (fun i wr=>∃q:Nat,q≤m.params.length∧i=.int .i64 q∧Hid (∀j,j<q→tyB nc (nth ty0 m.params j)=true)∧Hid (Bl w wr)∧Hid (FiBox wr w.heap.size 0 nc nm A B a b)∧Hid (MeBox wr (w.heap.size+1) 0 m P C K p c k)) (fun i _=>m.params.length-(intOf i).toNat)
  case atStart=>exact ⟨0,Nat.zero_le _,rfl,fun j hj=>absurd hj (Nat.not_lt_zero _),((Bl.refl _).alloc _).alloc _,HF,HM⟩
  case round =>
   clear HF HM
   obtain ⟨q,hq,rfl,hgq,hg,HF,HM⟩:=hrel
   have hf0:=HF.out.1
   have hm0:=HM.out.1
   have hm7:=HM.out.2.2.2.2.2.2.2
   simp only [Nat.zero_add] at hm7
   by_cases hql:q<m.params.length
   ·have hty:=HP.out.bl hg.out
    rcases hty.2 with h0|⟨b',off',rfl,hcell⟩
    ·omega
    obtain ⟨ht1,ht2,-,-⟩:=hcell q hql
    clear hty hcell
    have gf:=fut_cell hf0
    have gm:=fut_cell hm0
    have g1:=fut_cell ht1
    have g2:=fut_cell ht2
    clear hm7
    cases hT:tyB nc (nth ty0 m.params q)
    ·have hT':tyB nc ⟨(nth ty0 m.params q).kind,(nth ty0 m.params q).cls⟩=false:=hT
     have HB:=head_par (most:=most) hql hT
     clear hT HG
     go_wp2
     refine wp_region_fut (by kernel_rfl) (by kernel_rfl) fun hne=>?_
     repeat (go_big_quiet_step ((go_at_call 77;exact Calls.fut_eq _ (rtype_any _ _ _ _ _ _) (congrArg Value.bool hT'))))
     refine wpQuiet_nil ?_
     rintro _ ⟨⟨w2,hw2⟩,rfl⟩
     go_wp2
     go_ret
     exact ⟨ret_bool HB.symm,hg.out.trans hw2⟩
    ·have hT':tyB nc ⟨(nth ty0 m.params q).kind,(nth ty0 m.params q).cls⟩=true:=hT
     have HT:Hid (tyB nc (nth ty0 m.params q)=true):=hT
     clear hT HG
     go_wp2
     refine wp_region_fut (by kernel_rfl) (by kernel_rfl) fun hne=>?_
     repeat (go_big_quiet_step ((go_at_call 77;exact Calls.fut_eq _ (rtype_any _ _ _ _ _ _) (congrArg Value.bool hT'))))
     refine wpQuiet_nil ?_
     rintro _ ⟨⟨w2,hw2⟩,rfl⟩
     go_wp2
     go_roundw
     case rel=>exact ⟨q+1,by omega,by go_num,fun j hj=>if h:j<q then hgq.out j h else by have:j=q:=(by omega);subst this;exact HT.out,hg.out.trans hw2,HF.out.bl hw2,HM.out.bl hw2⟩
     case measure=>simp [intOf];omega
   ·obtain rfl:q=m.params.length:=by omega
    have HG2:Hid ((∀q,q<m.hands.length→hdB nc m.code.length (nth hd0 m.hands q)=true)→headB nc m most=retB nc m.ret):=HG.out hgq.out
    clear HG hgq hql hq
    go_wp2
    clear hf0 hm0 hm7
    go_loopw [8] (fun i wr=>∃q:Nat,q≤m.hands.length∧i=.int .i64 q∧Hid (∀j,j<q→hdB nc m.code.length (nth hd0 m.hands j)=true)∧Hid (Bl w wr)∧Hid (FiBox wr w.heap.size 0 nc nm A B a b)∧Hid (MeBox wr (w.heap.size+1) 0 m P C K p c k)) (fun i _=>m.hands.length-(intOf i).toNat)
    case atStart=>exact ⟨0,Nat.zero_le _,rfl,fun j hj=>absurd hj (Nat.not_lt_zero _),hg,HF,HM⟩
    case round =>
     clear HF HM hg
     obtain ⟨q,hq,rfl,hgq,hg,HF,HM⟩:=hrel
     have hf0:=HF.out.1
     have hm1:=HM.out.2.1
     have hm2:=HM.out.2.2.1
     have hm6:=HM.out.2.2.2.2.2.2.1
     have hm7:=HM.out.2.2.2.2.2.2.2
     simp only [Nat.zero_add] at hm1 hm2 hm6 hm7
     by_cases hql:q<m.hands.length
     ·have hty:=HK.out.bl hg.out
      rcases hty.2 with h0|⟨b',off',rfl,hcell⟩
      ·omega
      obtain ⟨g0,g1,g2,g3,-⟩:=hcell q hql
      clear hty hcell hm1 hm2
      have HB:Hid (hdB nc m.code.length (nth hd0 m.hands q)=false→headB nc m most=false):=head_hand hql
      have HD:Hid (hdB nc m.code.length (nth hd0 m.hands q)=decide (0≤(nth hd0 m.hands q).fr∧(nth hd0 m.hands q).fr<(nth hd0 m.hands q).til∧(nth hd0 m.hands q).til≤m.code.length∧0≤(nth hd0 m.hands q).pc∧(nth hd0 m.hands q).pc<m.code.length∧0≤(nth hd0 m.hands q).cls∧(nth hd0 m.hands q).cls<nc)):=rfl
      generalize hX:nth hd0 m.hands q=X at *
      have qf0:∀o,(wr.alloc o).cell? ⟨w.heap.size,0,none⟩=some (.slice A nc a):=fun o=>((Bl.refl wr).alloc o).cell hf0
      have qm6:∀o,(wr.alloc o).cell? ⟨w.heap.size+1,6,none⟩=some (.slice C m.code.length c):=fun o=>((Bl.refl wr).alloc o).cell hm6
      by_cases t1:X.fr<0
      ·have HF':Hid (headB nc m most=false):=HB.out (HD.out.trans (decide_eq_false (by omega)))
       go_wp2
       go_ret
       exact ⟨ret_bool HF'.out.symm,hg.out.alloc _⟩
      by_cases t2:X.til≤X.fr
      ·have HF':Hid (headB nc m most=false):=HB.out (HD.out.trans (decide_eq_false (by omega)))
       go_wp2
       go_ret
       exact ⟨ret_bool HF'.out.symm,hg.out.alloc _⟩
      by_cases t3:(m.code.length:Int)<X.til
      ·have HF':Hid (headB nc m most=false):=HB.out (HD.out.trans (decide_eq_false (by omega)))
       go_wp2
       go_ret
       exact ⟨ret_bool HF'.out.symm,hg.out.alloc _⟩
      by_cases t4:0≤X.pc∧X.pc≤(m.code.length:Int)-1
      ·have d4:decide (0≤X.pc∧X.pc≤(m.code.length:Int)-1)=true:=decide_eq_true t4
       by_cases t5:0≤X.cls∧X.cls≤(nc:Int)-1
       ·have d5:decide (0≤X.cls∧X.cls≤(nc:Int)-1)=true:=decide_eq_true t5
        have HT:Hid (hdB nc m.code.length X=true):=HD.out.trans (decide_eq_true (by omega))
        go_wp2_with (go_at_call 36;refine (within_any _ _ _ _).mono ?_;rintro e w' ⟨he,rfl⟩;(first|rw [d4] at he|rw [d5] at he);subst he)
        go_roundw
        case rel=>exact ⟨q+1,by omega,by go_num,fun j hj=>if h:j<q then hgq.out j h else by have:j=q:=(by omega);subst this;rw [hX];exact HT.out,hg.out.alloc _,HF.out.bl ((Bl.refl _).alloc _),HM.out.bl ((Bl.refl _).alloc _)⟩
        case measure=>simp [intOf];omega
       ·have d5:decide (0≤X.cls∧X.cls≤(nc:Int)-1)=false:=decide_eq_false t5
        have HF':Hid (headB nc m most=false):=HB.out (HD.out.trans (decide_eq_false (by omega)))
        go_wp2_with (go_at_call 36;refine (within_any _ _ _ _).mono ?_;rintro e w' ⟨he,rfl⟩;(first|rw [d4] at he|rw [d5] at he);subst he)
        go_ret
        exact ⟨ret_bool HF'.out.symm,hg.out.alloc _⟩
      ·have d4:decide (0≤X.pc∧X.pc≤(m.code.length:Int)-1)=false:=decide_eq_false t4
       have HF':Hid (headB nc m most=false):=HB.out (HD.out.trans (decide_eq_false (by omega)))
       go_wp2_with (go_at_call 36;refine (within_any _ _ _ _).mono ?_;rintro e w' ⟨he,rfl⟩;rw [d4] at he;subst he)
       go_ret
       exact ⟨ret_bool HF'.out.symm,hg.out.alloc _⟩
     ·obtain rfl:q=m.hands.length:=by omega
      have HG3:Hid (headB nc m most=(decide (m.ret.kind=0∧m.ret.cls=0)||tyB nc ⟨m.ret.kind,m.ret.cls⟩)):=HG2.out hgq.out
      clear HG2 hgq hql hq
      by_cases t1:m.ret.kind=0
      ·by_cases t2:m.ret.cls=0
       ·have HF':headB nc m most=true:=HG3.out.trans (by rw [decide_eq_true ⟨t1,t2⟩];rfl)
        rw [t1] at hm1
        rw [t2] at hm2
        clear t1 t2
        go_wp2
        go_ret
        exact ⟨ret_bool HF'.symm,hg.out⟩
       ·have HF':Hid (headB nc m most=tyB nc ⟨m.ret.kind,m.ret.cls⟩):=HG3.out.trans (by rw [decide_eq_false (by omega)];rfl)
        have t2':(m.ret.cls==0)=false:=by simpa using t2
        have HT1:Hid (m.ret.kind=0):=t1
        rw [t1] at hm1
        clear t1 t2
        go_wp2_with (go_at_call 77;refine (rtype_any _ _ _ _ _ _).mono ?_;rintro e w' ⟨rfl,hg2⟩)
        go_ret
        exact ⟨ret_bool (by rw [HF'.out,HT1.out]),hg.out.trans hg2⟩
      ·have HF':Hid (headB nc m most=tyB nc ⟨m.ret.kind,m.ret.cls⟩):=HG3.out.trans (by rw [decide_eq_false (by omega)];rfl)
       have t1':(m.ret.kind==0)=false:=by simpa using t1
       clear t1
       go_wp2_with (go_at_call 77;refine (rtype_any _ _ _ _ _ _).mono ?_;rintro e w' ⟨rfl,hg2⟩)
       go_ret
       exact ⟨ret_bool HF'.out.symm,hg.out.trans hg2⟩
 ·have hb:=head_few (nc:=nc) (m:=m) (most:=most) (by omega)
  rw [hb]
  have hd3:decide (1≤(m.code.length:Int)∧(m.code.length:Int)≤most)=false:=decide_eq_false h3
  go_enter Tryz.func37,Tryz.ntmps37
  go_wp2_with (go_at_call 36;refine (within_any _ _ _ _).mono ?_;rintro e w' ⟨he,rfl⟩;rw [hd3] at he;subst he)
  go_ret
  exact ⟨rfl,((Bl.refl _).alloc _).alloc _⟩
section
open Go.RowKit Go.Shelf
attribute [local go_sem] Oper.semAt_some
theorem up1_in (F:Fence) (n:Nat) (hf:F.fn 315) (hro:F.round=none) (hn:1≤n) (lp Bc Bs:Nat) (A:Option Addr) (c:Nat) (l:List Cl) (u:Nat) (ht:Tree l) (hu:u<l.length) (w:World) (J Jx:List Nat→World→Prop)
  (hY:∀pre x W,J pre W→pre.length<(ups l u).length→YieldAt F (n-1) Tryz.prog lp #[.int .i64 (x:Nat)] W fun e W' =>
   (e=.returned (.bool true)∧J (pre++[x]) W'∧Below w.heap.size W W')∨(e=.returned (.bool false)∧Jx (pre++[x]) W'))
  (hl:ClsAt w A l) (hBc:w.cell? ⟨Bc,0,none⟩=some (.int .i64 u)) (hBs:w.cell? ⟨Bs,0,none⟩=some (.slice A l.length c)) (W:World) (hW:Bl w W) (h0:J [] W) :
  CallsIn F n Tryz.prog 315 #[.func (.yield lp) #[] #[],.pointer (some ⟨Bc,0,none⟩),.pointer (some ⟨Bs,0,none⟩)] W fun e W'=>(∃v,e=.returned v) ∧
   ((∃ys,ys=ups l u∧J ys W')∨(∃pre,pre <+: ups l u∧Jx pre W')):=by
 have HT:Hid (Tree l):=ht
 have HL:Hid (ClsAt w A l):=hl
 have HBs:Hid (w.cell? ⟨Bs,0,none⟩=some (.slice A l.length c)):=hBs
 have hc0:=hW.cell hBc
 have HW:Hid (Bl w W):=hW
 clear ht hl hBs hBc hW
 refine callsIn_of_wp Tryz.func315 rfl hf ?_ hro
 simp only [Tryz.ntmps315,List.size_toArray,List.length_cons,List.length_nil,Nat.reduceAdd,Nat.reduceSub,Array.replicate_succ,Array.replicate_zero,List.push_toArray,List.append_toArray,List.nil_append,List.cons_append]
 gi_wp2
 clear hc0
 gi_loopw [4] (fun p wr=>∃(pre rest:List Nat) (z:Int),p=.int .i64 z∧Hid (ups l u=pre++rest)∧Hid ((z=-1∧rest=[])∨∃k:Nat,z=k∧k<l.length∧rest=ups l k)∧Hid (Bl w wr)∧J pre wr)
  (fun p _=>(intOf p+1).toNat)
 case atStart=>exact ⟨[],ups l u,_,rfl,rfl,.inr ⟨u,rfl,hu,rfl⟩,HW,h0⟩
 case round =>
  obtain ⟨pre,rest,z,rfl,hx,hz,hg,hJs⟩:=hrel
  rcases hz.out with ⟨rfl,rfl⟩|⟨k,rfl,hk,rfl⟩
  ·clear hz
   gi_wp2
   go_end0
   exact ⟨⟨_,rfl⟩,.inl ⟨pre,by simpa using hx.out.symm,hJs⟩⟩
  ·clear hz
   obtain ⟨fn,tmps,assign,body,hy,hR⟩:=hY pre k wr hJs (by
    rw [hx.out,List.length_append]
    have:=List.length_pos_of_mem (ups_head (l:=l) k)
    omega)
   gi_wp2
   refine hR.mono ?_
   rintro e W3 (⟨rfl,hJ3,hk3⟩|⟨rfl,hJx3⟩)
   ·have hg3:Bl w W3:=Below.trans hg.out hk3
    have hs3:=hg3.cell HBs.out
    obtain ⟨hm,hcl⟩:=HL.out
    unfold maxLen at hm
    rcases hcl with h1|⟨b,off,rfl,hcl⟩
    ·omega
    have hsup:=hg3.cell (hcl k hk).1
    by_cases hk0:k=0
    ·subst hk0
     rw [HT.out.zero,Nat.zero_mul,Nat.add_zero] at hsup
     have hx':Hid (ups l u=(pre++[0])++[]):=by rw [hx.out,ups_zero];simp [Hid]
     clear hcl hk3 hy hR hx
     have HG:Hid (Bl w W3):=hg3
     clear hg3
     gi_wp2
     go_roundw
     case rel=>exact ⟨pre++[0],[],-1,rfl,hx',.inl ⟨rfl,rfl⟩,HG,hJ3⟩
     case measure=>simp [intOf]
    ·rw [super_par HT.out (by omega) hk] at hsup
     have hp:=par_lt HT.out (by omega) hk
     have hx':Hid (ups l u=(pre++[k])++ups l (par l k)):=by rw [hx.out,ups_step HT.out (by omega) hk];simp [Hid]
     clear hcl hk3 hy hR hx
     have HG:Hid (Bl w W3):=hg3
     clear hg3
     gi_wp2
     go_roundw
     case rel=>exact ⟨pre++[k],_,_,rfl,hx',.inr ⟨par l k,rfl,by omega,rfl⟩,HG,hJ3⟩
     case measure=>simp [intOf];omega
   ·gi_wp2
    refine bodyPost_ret (results_none rfl _ _ _) rfl ?_
    refine ⟨⟨_,rfl⟩,.inr ⟨pre++[k],?_,hJx3⟩⟩
    rw [hx.out]
    by_cases hk0:k=0
    ·subst hk0;rw [ups_zero];exact List.prefix_rfl
    ·rw [ups_step HT.out (by omega) hk];exact ⟨ups l (par l k),by simp⟩
theorem upward_any (A:Option Addr) (n c:Nat) (x:Int) (w:World) :
  Calls Tryz.prog 304 #[.slice A n c,.int .i64 x] w fun e w' =>
   e=.returned (.func (.func 315) #[] #[.pointer (some ⟨w.heap.size+1,0,none⟩),.pointer (some ⟨w.heap.size,0,none⟩)])
   ∧ w'=(w.alloc (.cells #[.slice A n c] 22)).alloc (.cells #[.int .i64 x] 3):=by
 refine (callsIn_wide (n:=3)).1 ?_
 refine callsIn_of_wp Tryz.func304 rfl trivial ?_ rfl
 simp only [Tryz.ntmps304,List.size_toArray,List.length_cons,List.length_nil,Nat.reduceAdd,Nat.reduceSub,Array.replicate_succ,Array.replicate_zero,List.push_toArray,List.append_toArray,List.nil_append,List.cons_append]
 gi_wp2
 go_ret
 exact ⟨rfl,rfl⟩
theorem up_stops (n:Nat) (hn:1≤n) (Bc Bs:Nat) (A:Option Addr) (c:Nat) (l:List Cl) (u:Nat) (ht:Tree l) (hu:u<l.length) (w:World)
  (hl:ClsAt w A l) (hBc:w.cell? ⟨Bc,0,none⟩=some (.int .i64 u)) (hBs:w.cell? ⟨Bs,0,none⟩=some (.slice A l.length c)) :
  SeqStopsK Fence.wide n Tryz.prog 315 #[.pointer (some ⟨Bc,0,none⟩),.pointer (some ⟨Bs,0,none⟩)] (fun x:Nat=>#[Value.int .i64 x]) (Below w.heap.size) (fun ys=>ys=ups l u) (fun pre=>pre <+: ups l u) (ups l u).length w :=
 fun lp J Jx W hW _ _ hY h0=>up1_in Fence.wide n trivial rfl hn lp Bc Bs A c l u ht hu w J Jx hY hl hBc hBs W hW h0
end
end Go.Proofs.YtgiiapenmjollabGreat
