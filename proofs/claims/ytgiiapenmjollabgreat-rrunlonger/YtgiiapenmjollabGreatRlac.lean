import Derived.Test.YtgiiapenmjollabGreatRlab
import Derived.Test.YtgiiapenmjollabGreatChecked
import Derived.Handy
import Derived.RangeFuncNested
import Derived.RangeFuncBound
import Derived.RangeFuncCalls
import Derived.RangeFuncLeaves
import Derived.RangeFuncFrom
import Derived.Shelf.Abstract
import Derived.Shelf.RegionOpen
import Derived.WalkKit
import Derived.OwnWalkIn
import Derived.TacticsInMore
import Derived.LoopNIn
import Derived.LoopIn
import Derived.BigQuiet
import Derived.Deep.RegionHeld3
import Derived.RowKit3
import Derived.Below
namespace Go.Proofs.YtgiiapenmjollabGreat
set_option linter.all false
set_option maxHeartbeats 40000000
set_option maxRecDepth 100000
open Go.RowKit
theorem maySuper_any (c s:Int) (w:World) :
  Calls Tryz.prog 128 #[.int .i64 c,.int .i64 s] w fun e w'=>e=.returned (.bool (decide ((c=0∧s=-1)∨(c≠0∧0≤s∧s<c))))∧w'=w:=by
 by_cases h0:c=0
 ·subst h0
  go_enter Tryz.func128,Tryz.ntmps128
  go_wp2
  all_goals
   go_ret
   refine ⟨ret_bool ?_,rfl⟩
   rw [Bool.eq_iff_iff];simp
 ·go_enter Tryz.func128,Tryz.ntmps128
  go_wp2_with (go_at_call 144;refine (numbers_any _ _ _).mono ?_;rintro e w' ⟨rfl,rfl⟩)
  all_goals
   go_ret
   refine ⟨ret_bool ?_,rfl⟩
   rw [Bool.eq_iff_iff];simp;omega
theorem mayType_any (n:Nat) (k x:Int) (w:World) :
  Calls Tryz.prog 245 #[.agg #[.int .i64 k,.int .i64 x],.int .i64 n] w fun e w'=>e=.returned (.bool (tyB n ⟨k,x⟩))∧Bl w w':=by
 have hk:k=1∨k=2∨k=3∨(k≠1∧k≠2∧k≠3):=by omega
 rcases hk with rfl|rfl|rfl|⟨h1,h2,h3⟩
 all_goals
  go_enter Tryz.func245,Tryz.ntmps245
  go_wp2_with (go_at_call 144;refine (numbers_any _ _ _).mono ?_;rintro e w' ⟨rfl,rfl⟩)
  go_ret
  refine ⟨ret_bool ?_,(Bl.refl _).alloc _⟩
  unfold tyB
  rw [Bool.eq_iff_iff];simp;try omega
def fldB (n:Nat) (f:List Ty):Bool:=decide (f.length≤6)&&f.all (tyB n)
theorem fld_long {n:Nat} {f:List Ty} (h:¬f.length≤6):fldB n f=false:=by unfold fldB;rw [decide_eq_false h];rfl
theorem all_ty_bad {n q:Nat} {f:List Ty} (hq:q<f.length) (h:tyB n (nth ty0 f q)=false):f.all (tyB n)=false:=by
 rw [List.all_eq_false];exact ⟨nth ty0 f q,nth_mem hq,by rw [h];decide⟩
theorem all_ty_good {n:Nat} {f:List Ty} (ht:∀k,k<f.length→tyB n (nth ty0 f k)=true):f.all (tyB n)=true:=by
 rw [List.all_eq_true]
 intro x hx
 obtain ⟨k,hk,rfl⟩:=List.getElem_of_mem hx
 rw [←nth_get hk];exact ht k hk
theorem mayTypes_any (A:Option Addr) (n c:Nat) (F:List Ty) (w:World) (hl:TysAt w A F) :
  Calls Tryz.prog 186 #[.int .i64 n,.slice A F.length c] w fun e w'=>e=.returned (.bool (F.all (tyB n)))∧Bl w w':=by
 obtain ⟨hm,hl⟩:=hl
 unfold maxLen at hm
 have HG:Hid ((∀k,k<F.length→tyB n (nth ty0 F k)=true)→F.all (tyB n)=true):=all_ty_good
 have HT:Hid (∀q,q<F.length→tyB n (nth ty0 F q)=false→F.all (tyB n)=false):=fun q=>all_ty_bad
 obtain ⟨R,hR⟩:∃R,F.all (tyB n)=R:=⟨_,rfl⟩
 rw [hR] at HG HT ⊢
 clear hR
 go_enter Tryz.func186,Tryz.ntmps186
 go_wp2
 go_loopw [9] (fun i wr=>∃q:Nat,q≤F.length∧i=.int .i64 q∧Hid (∀j,j<q→tyB n (nth ty0 F j)=true)∧Hid (Bl w wr)) (fun i _=>F.length-(intOf i).toNat)
 case atStart=>exact ⟨0,Nat.zero_le _,rfl,fun j hj=>absurd hj (Nat.not_lt_zero _),Bl.refl _⟩
 case round =>
  obtain ⟨q,hq,rfl,hgq,hg⟩:=hrel
  by_cases hql:q<F.length
  ·rcases hl with h0|⟨b,off,rfl,hcell⟩
   ·omega
   obtain ⟨ht1,ht2,-,-⟩:=hcell q hql
   replace ht1:=hg.out.cell ht1
   replace ht2:=hg.out.cell ht2
   clear hcell HG
   cases hT:tyB n (nth ty0 F q)
   ·have hT':tyB n ⟨(nth ty0 F q).kind,(nth ty0 F q).cls⟩=false:=hT
    have HF:=HT.out q hql hT
    clear HT hT
    go_wp2_with (go_at_call 245;refine (mayType_any _ _ _ _).mono ?_;rintro e w1 ⟨rfl,hg1⟩)
    go_ret
    exact ⟨ret_bool HF.symm,(hg.out.alloc _).trans hg1⟩
   ·have hT':tyB n ⟨(nth ty0 F q).kind,(nth ty0 F q).cls⟩=true:=hT
    have HT1:Hid (tyB n (nth ty0 F q)=true):=hT
    clear hT HT
    go_wp2_with (go_at_call 245;refine (mayType_any _ _ _ _).mono ?_;rintro e w1 ⟨rfl,hg1⟩)
    go_roundw
    case rel=>exact ⟨q+1,by omega,by go_num,fun j hj=>if h:j<q then hgq.out j h else by have:j=q:=(by omega);subst this;exact HT1.out,(hg.out.alloc _).trans hg1⟩
    case measure=>simp [intOf];omega
  ·have hkk:q=F.length:=by omega
   subst hkk
   have HF:=HG.out hgq.out
   clear HG hl
   go_wp2
   go_ret
   exact ⟨ret_bool HF.symm,hg.out⟩
theorem mayFields_any (A:Option Addr) (n c:Nat) (F:List Ty) (w:World) (hl:TysAt w A F) :
  Calls Tryz.prog 129 #[.slice A F.length c,.int .i64 n] w fun e w'=>e=.returned (.bool (fldB n F))∧Bl w w':=by
 have hm:=hl.1
 unfold maxLen at hm
 by_cases h6:F.length≤6
 ·have hb:fldB n F=F.all (tyB n):=by unfold fldB;rw [decide_eq_true h6];rfl
  rw [hb]
  go_enter Tryz.func129,Tryz.ntmps129
  go_wp2_with (go_at_call 186;refine (mayTypes_any _ _ _ _ _ hl).mono ?_;rintro e w1 ⟨rfl,hg1⟩)
  go_ret
  exact ⟨rfl,hg1⟩
 ·have hb:=fld_long (n:=n) h6
  rw [hb]
  clear hb hl
  go_enter Tryz.func129,Tryz.ntmps129
  go_wp2
  go_ret
  exact ⟨rfl,Bl.refl _⟩
def supB (l:List Cl) (i:Nat):Bool:=decide (((i:Int)=0∧(nth cl0 l i).super=-1)∨((i:Int)≠0∧0≤(nth cl0 l i).super∧(nth cl0 l i).super<i))
theorem may_sup {l:List Cl} {i:Nat} (hi:i<l.length) (h:supB l i=false):mayB l=false:=by
 unfold supB at h
 rw [decide_eq_false_iff_not] at h
 by_cases h0:i=0
 ·subst h0;exact may_few (by omega)
 ·exact may_cl hi (cl_bad (by omega))
theorem may_fld {l:List Cl} {i:Nat} (hi:i<l.length) (h:fldB l.length (nth cl0 l i).fields=false):mayB l=false:=by
 refine may_cl hi ?_
 by_cases h6:(nth cl0 l i).fields.length≤6
 ·unfold fldB at h
  rw [decide_eq_true h6,Bool.true_and] at h
  unfold clB;rw [h,Bool.and_false]
 ·exact cl_bad (by omega)
theorem may_both {l:List Cl} (h4:4≤l.length) (h12:l.length≤12) (h:∀i,i<l.length→supB l i=true∧fldB l.length (nth cl0 l i).fields=true):mayB l=true:=by
 have h0:=(h 0 (by omega)).1
 unfold supB at h0
 rw [decide_eq_true_eq] at h0
 refine may_good ⟨h4,h12,by omega⟩ fun i hi=>?_
 obtain ⟨h1,h2⟩:=h i hi
 unfold supB at h1;unfold fldB at h2
 rw [decide_eq_true_eq] at h1
 rw [Bool.and_eq_true,decide_eq_true_eq] at h2
 unfold clB
 rw [h2.2,Bool.and_true,decide_eq_true_eq]
 exact ⟨by omega,h2.1⟩
theorem may_any (A:Option Addr) (c:Nat) (l:List Cl) (w:World) (hl:ClsAt w A l) :
  Calls Tryz.prog 62 #[.slice A l.length c] w fun e w'=>e=.returned (.bool (mayB l))∧Bl w w':=by
 obtain ⟨hm,hl⟩:=hl
 unfold maxLen at hm
 by_cases h4:¬(4≤(l.length:Int)∧(l.length:Int)≤12)
 ·have hb:mayB l=false:=may_few (by omega)
  rw [hb]
  clear hb hl
  have hd:decide (4≤(l.length:Int)∧(l.length:Int)≤12)=false:=decide_eq_false h4
  go_enter Tryz.func62,Tryz.ntmps62
  go_wp2_with (go_at_call 63;refine (span_any _ _ _ _).mono ?_;rintro e w1 ⟨he,rfl⟩;rw [hd] at he;subst he)
  go_ret
  exact ⟨rfl,Bl.refl _⟩
 replace h4:=Decidable.of_not_not h4
 have hd:decide (4≤(l.length:Int)∧(l.length:Int)≤12)=true:=decide_eq_true h4
 rcases hl with hl|⟨b,off,rfl,hc⟩
 ·omega
 have HB:Hid ((∀i,i<l.length→supB l i=true∧fldB l.length (nth cl0 l i).fields=true)→mayB l=true):=may_both (by omega) (by omega)
 go_enter Tryz.func62,Tryz.ntmps62
 go_wp2_with (go_at_call 63;refine (span_any _ _ _ _).mono ?_;rintro e w1 ⟨he,hw1⟩;rw [hd] at he;subst he;rw [hw1];clear hw1 w1)
 go_loopw [11] (fun i wr=>∃k:Nat,k≤l.length∧i=.int .i64 k∧Hid (∀j,j<k→supB l j=true∧fldB l.length (nth cl0 l j).fields=true)∧Hid (Bl w wr)) (fun i _=>l.length-(intOf i).toNat)
 case atStart=>exact ⟨0,Nat.zero_le _,rfl,fun j hj=>absurd hj (Nat.not_lt_zero _),Bl.refl _⟩
 case round =>
  obtain ⟨k,hk,rfl,hgood,hg⟩:=hrel
  by_cases hlt:k<l.length
  ·obtain ⟨hsup,hsb,A',c',hfl,hty⟩:=hc k hlt
   replace hsup:=hg.out.cell hsup
   replace hfl:=hg.out.cell hfl
   have HTY:Hid (TysAt wr A' (nth cl0 l k).fields):=hty.bl hg.out
   have HS:Hid (supB l k=false→mayB l=false):=may_sup hlt
   have HF:Hid (fldB l.length (nth cl0 l k).fields=false→mayB l=false):=may_fld hlt
   clear hc HB hty
   cases hS:supB l k
   ·have HBAD:=HS.out hS
    have hS':decide (((k:Int)=0∧(nth cl0 l k).super=-1)∨((k:Int)≠0∧0≤(nth cl0 l k).super∧(nth cl0 l k).super<k))=false:=hS
    clear hS
    go_wp2_with (go_at_call 128;refine (maySuper_any _ _ _).mono ?_;rintro e w1 ⟨he,rfl⟩;rw [hS'] at he;subst he)
    go_ret
    exact ⟨ret_bool HBAD.symm,hg.out.alloc _⟩
   ·have HST:Hid (supB l k=true):=hS
    have hS':decide (((k:Int)=0∧(nth cl0 l k).super=-1)∨((k:Int)≠0∧0≤(nth cl0 l k).super∧(nth cl0 l k).super<k))=true:=hS
    clear hS
    cases hF:fldB l.length (nth cl0 l k).fields
    ·have HBAD:=HF.out hF
     go_wp2_with (first
      | (go_at_call 128;refine (maySuper_any _ _ _).mono ?_;rintro e w1 ⟨he,rfl⟩;rw [hS'] at he;subst he)
      | (go_at_call 129;refine (mayFields_any _ _ _ _ _ (HTY.out.bl ((Bl.refl _).alloc _))).mono ?_;rintro e w1 ⟨he,hg1⟩;rw [hF] at he;subst he))
     go_ret
     exact ⟨ret_bool HBAD.symm,(hg.out.alloc _).trans hg1⟩
    ·have HFT:Hid (fldB l.length (nth cl0 l k).fields=true):=hF
     go_wp2_with (first
      | (go_at_call 128;refine (maySuper_any _ _ _).mono ?_;rintro e w1 ⟨he,rfl⟩;rw [hS'] at he;subst he)
      | (go_at_call 129;refine (mayFields_any _ _ _ _ _ (HTY.out.bl ((Bl.refl _).alloc _))).mono ?_;rintro e w1 ⟨he,hg1⟩;rw [hF] at he;subst he))
     go_roundw
     case rel=>exact ⟨k+1,by omega,by go_num,fun j hj=>if h:j<k then hgood.out j h else by have:j=k:=(by omega);subst this;exact ⟨HST.out,HFT.out⟩,(hg.out.alloc _).trans hg1⟩
     case measure=>simp [intOf];omega
  ·have hkk:k=l.length:=by omega
   subst hkk
   have HBB:=HB.out hgood.out
   clear HB hc
   go_wp2
   go_ret
   exact ⟨ret_bool HBB.symm,hg.out⟩
section
open Go.RowKit Go.Shelf
attribute [local go_sem] Oper.semAt_some
theorem up1_in (F:Fence) (n:Nat) (hf:F.fn 315) (hro:F.round=none) (hn:1≤n) (lp Bc Bs:Nat) (A:Option Addr) (c:Nat) (l:List Cl) (u:Nat) (ht:Tree l) (hu:u<l.length) (w:World) (J Jx:List Nat→World→Prop)
  (hY:∀pre x W,J pre W→pre.length<(ups l u).length→YieldAt F (n-1) Tryz.prog lp #[.int .i64 (x:Nat)] W fun e W' =>
   (e=.returned (.bool true)∧J (pre++[x]) W'∧Below w.heap.size W W')∨(e=.returned (.bool false)∧Jx (pre++[x]) W'))
  (hl:ClsAt w A l) (hBc:w.cell? ⟨Bc,0,none⟩=some (.int .i64 u)) (hBs:w.cell? ⟨Bs,0,none⟩=some (.slice A l.length c)) (W:World) (hW:Bl w W) (h0:J [] W) :
  CallsIn F n Tryz.prog 315 #[.func (.yield lp) #[] #[],.pointer (some ⟨Bc,0,none⟩),.pointer (some ⟨Bs,0,none⟩)] W fun e W'=>(∃v,e=.returned v) ∧
   ((∃ys,ys=ups l u∧J ys W')∨(∃pre,pre <+: ups l u∧Jx pre W')):=by
 have HT:Hid (Tree l):=ht
 have HL:Hid (ClsAt w A l):=hl
 have HBs:Hid (w.cell? ⟨Bs,0,none⟩=some (.slice A l.length c)):=hBs
 have hc0:=hW.cell hBc
 have HW:Hid (Bl w W):=hW
 clear ht hl hBs hBc hW
 refine callsIn_of_wp Tryz.func315 rfl hf ?_ hro
 simp only [Tryz.ntmps315,List.size_toArray,List.length_cons,List.length_nil,Nat.reduceAdd,Nat.reduceSub,Array.replicate_succ,Array.replicate_zero,List.push_toArray,List.append_toArray,List.nil_append,List.cons_append]
 gi_wp2
 clear hc0
 gi_loopw [4] (fun p wr=>∃(pre rest:List Nat) (z:Int),p=.int .i64 z∧Hid (ups l u=pre++rest)∧Hid ((z=-1∧rest=[])∨∃k:Nat,z=k∧k<l.length∧rest=ups l k)∧Hid (Bl w wr)∧J pre wr)
  (fun p _=>(intOf p+1).toNat)
 case atStart=>exact ⟨[],ups l u,_,rfl,rfl,.inr ⟨u,rfl,hu,rfl⟩,HW,h0⟩
 case round =>
  obtain ⟨pre,rest,z,rfl,hx,hz,hg,hJs⟩:=hrel
  rcases hz.out with ⟨rfl,rfl⟩|⟨k,rfl,hk,rfl⟩
  ·clear hz
   gi_wp2
   go_end0
   exact ⟨⟨_,rfl⟩,.inl ⟨pre,by simpa using hx.out.symm,hJs⟩⟩
  ·clear hz
   obtain ⟨fn,tmps,assign,body,hy,hR⟩:=hY pre k wr hJs (by
    rw [hx.out,List.length_append]
    have:=List.length_pos_of_mem (ups_head (l:=l) k)
    omega)
   gi_wp2
   refine hR.mono ?_
   rintro e W3 (⟨rfl,hJ3,hk3⟩|⟨rfl,hJx3⟩)
   ·have hg3:Bl w W3:=Below.trans hg.out hk3
    have hs3:=hg3.cell HBs.out
    obtain ⟨hm,hcl⟩:=HL.out
    unfold maxLen at hm
    rcases hcl with h1|⟨b,off,rfl,hcl⟩
    ·omega
    have hsup:=hg3.cell (hcl k hk).1
    by_cases hk0:k=0
    ·subst hk0
     rw [HT.out.zero,Nat.zero_mul,Nat.add_zero] at hsup
     have hx':Hid (ups l u=(pre++[0])++[]):=by rw [hx.out,ups_zero];simp [Hid]
     clear hcl hk3 hy hR hx
     have HG:Hid (Bl w W3):=hg3
     clear hg3
     gi_wp2
     go_roundw
     case rel=>exact ⟨pre++[0],[],-1,rfl,hx',.inl ⟨rfl,rfl⟩,HG,hJ3⟩
     case measure=>simp [intOf]
    ·rw [super_par HT.out (by omega) hk] at hsup
     have hp:=par_lt HT.out (by omega) hk
     have hx':Hid (ups l u=(pre++[k])++ups l (par l k)):=by rw [hx.out,ups_step HT.out (by omega) hk];simp [Hid]
     clear hcl hk3 hy hR hx
     have HG:Hid (Bl w W3):=hg3
     clear hg3
     gi_wp2
     go_roundw
     case rel=>exact ⟨pre++[k],_,_,rfl,hx',.inr ⟨par l k,rfl,by omega,rfl⟩,HG,hJ3⟩
     case measure=>simp [intOf];omega
   ·gi_wp2
    refine bodyPost_ret (results_none rfl _ _ _) rfl ?_
    refine ⟨⟨_,rfl⟩,.inr ⟨pre++[k],?_,hJx3⟩⟩
    rw [hx.out]
    by_cases hk0:k=0
    ·subst hk0;rw [ups_zero];exact List.prefix_rfl
    ·rw [ups_step HT.out (by omega) hk];exact ⟨ups l (par l k),by simp⟩
theorem upward_any (A:Option Addr) (n c:Nat) (x:Int) (w:World) :
  Calls Tryz.prog 304 #[.slice A n c,.int .i64 x] w fun e w' =>
   e=.returned (.func (.func 315) #[] #[.pointer (some ⟨w.heap.size+1,0,none⟩),.pointer (some ⟨w.heap.size,0,none⟩)])
   ∧ w'=(w.alloc (.cells #[.slice A n c] 22)).alloc (.cells #[.int .i64 x] 3):=by
 refine (callsIn_wide (n:=3)).1 ?_
 refine callsIn_of_wp Tryz.func304 rfl trivial ?_ rfl
 simp only [Tryz.ntmps304,List.size_toArray,List.length_cons,List.length_nil,Nat.reduceAdd,Nat.reduceSub,Array.replicate_succ,Array.replicate_zero,List.push_toArray,List.append_toArray,List.nil_append,List.cons_append]
 gi_wp2
 go_ret
 exact ⟨rfl,rfl⟩
theorem up_stops (n:Nat) (hn:1≤n) (Bc Bs:Nat) (A:Option Addr) (c:Nat) (l:List Cl) (u:Nat) (ht:Tree l) (hu:u<l.length) (w:World)
  (hl:ClsAt w A l) (hBc:w.cell? ⟨Bc,0,none⟩=some (.int .i64 u)) (hBs:w.cell? ⟨Bs,0,none⟩=some (.slice A l.length c)) :
  SeqStopsK Fence.wide n Tryz.prog 315 #[.pointer (some ⟨Bc,0,none⟩),.pointer (some ⟨Bs,0,none⟩)] (fun x:Nat=>#[Value.int .i64 x]) (Below w.heap.size) (fun ys=>ys=ups l u) (fun pre=>pre <+: ups l u) (ups l u).length w :=
 fun lp J Jx W hW _ _ hY h0=>up1_in Fence.wide n trivial rfl hn lp Bc Bs A c l u ht hu w J Jx hY hl hBc hBs W hW h0
end

section
open Go.RowKit Go.Shelf
attribute [local go_sem] Oper.semAt_some
theorem below_any (A:Option Addr) (c:Nat) (l:List Cl) (u d:Nat) (ht:Tree l) (hu:u<l.length) (w:World) (hl:ClsAt w A l) :
  Calls Tryz.prog 302 #[.slice A l.length c,.int .i64 u,.int .i64 d] w fun e w'=>e=.returned (.bool (belN l u d))∧Bl w w':=by
 have HT:Hid (Tree l):=ht
 have HL:Hid (ClsAt w A l):=hl
 clear ht hl
 refine (callsIn_wide (n:=3)).1 ?_
 refine callsIn_of_wp_marks Tryz.func302 rfl trivial ?_ rfl
 simp only [Tryz.ntmps302,List.size_toArray,List.length_cons,List.length_nil,Nat.reduceAdd,Nat.reduceSub,Array.replicate_succ,Array.replicate_zero,List.push_toArray,List.append_toArray,List.nil_append,List.cons_append]
 gi_wp2_with (refine ⟨trivial,?_⟩;gi_at_call 304;refine (callsIn_wide.2 (upward_any _ _ _ _ _)).mono ?_;rintro e w' ⟨rfl,rfl⟩)
 have c0:=Boxed.new w 3 (.int .i64 (d:Int))
 have c1:=Boxed.new (w.alloc (.cells #[.int .i64 (d:Int)] 3)) 4 (.bool false)
 have c2:=Boxed.new ((w.alloc (.cells #[.int .i64 (d:Int)] 3)).alloc (.cells #[.bool false] 4)) 22 (.slice A l.length c)
 have c3:=Boxed.new (((w.alloc (.cells #[.int .i64 (d:Int)] 3)).alloc (.cells #[.bool false] 4)).alloc (.cells #[.slice A l.length c] 22)) 3 (.int .i64 (u:Int))
 simp only [World.size_alloc] at c1 c2 c3
 have hB0:Bl w ((((w.alloc (.cells #[.int .i64 (d:Int)] 3)).alloc (.cells #[.bool false] 4)).alloc (.cells #[.slice A l.length c] 22)).alloc (.cells #[.int .i64 (u:Int)] 3)):=((((Bl.refl w).alloc _).alloc _).alloc _).alloc _
 refine wpIn_rangeFunc_ownF (F:=Fence.wide) rfl (by omega) (gf:=315) (lb:=#[.pointer (some ⟨w.heap.size+1+1+1,0,none⟩),.pointer (some ⟨w.heap.size+1+1,0,none⟩)]) rfl trivial (enters_of Tryz.func315 (by kernel_rfl) rfl)
  (up_stops _ (by omega) (w.heap.size+1+1+1) (w.heap.size+1+1) A c l u HT.out hu _ (HL.out.bl hB0) c3.cell (c2.alloc _).cell) belowK_t (belowK_b (Nat.le_refl _)) (Below.refl _ _) (fun _=>rfl)
  (fun pre W=>((∀y∈pre,y≠d)∧Boxed W w.heap.size 3 (.int .i64 (d:Int))∧Boxed W (w.heap.size+1) 4 (.bool false))∧Below w.heap.size w W)
  (fun c pre W=>(c=.ret∧d∈pre∧Boxed W (w.heap.size+1) 4 (.bool true))∧Below w.heap.size w W)
  (OwnFrom.and (Own.from (fun s X Y row hs hg hr=>⟨hs.1,boxed_own _ _ (fun _=>_) s X Y row hs.2.1 hg hr,boxed_own _ _ (fun _=>_) s X Y row hs.2.2 hg hr⟩) _) (ownFrom_below (Nat.le_refl _) hB0.size))
  (fun c=>OwnFrom.and (Own.from (fun s X Y row hs hg hr=>⟨hs.1,hs.2.1,boxed_own _ _ (fun _=>_) s X Y row hs.2.2 hg hr⟩) _) (ownFrom_below (Nat.le_refl _) hB0.size))
  ⟨⟨by simp,((c0.alloc _).alloc _).alloc _,(c1.alloc _).alloc _⟩,hB0⟩
  (fun x=>{ tmps:=#[.slice A l.length c,.int .i64 u,.int .i64 d,undef,undef,.pointer (some ⟨w.heap.size,0,none⟩),.pointer (some ⟨w.heap.size+1,0,none⟩),.int .i64 (x:Int),.slice A l.length c,.int .i64 u,
   .func (.func 315) #[] #[.pointer (some ⟨w.heap.size+1+1+1,0,none⟩),.pointer (some ⟨w.heap.size+1+1,0,none⟩)],.int .i64 (x:Int),undef,undef,undef],defers:=[] }) ?assign ?body ?done ?stop
 case assign =>
  intro l x W K hK
  gi_wp2
  exact hK
 case body =>
  rintro lp pre x W ⟨⟨hp,hcw,hcr⟩,hB⟩ _
  have h1:=hcw.cell
  have h2:=hcr.cell
  have h3:=hcr.frozen
  have HB:Hid (Below w.heap.size w W):=hB
  have HC:Hid (Boxed W (w.heap.size+1) 4 (.bool false)):=hcr
  have HW:Hid (Boxed W w.heap.size 3 (.int .i64 (d:Int))):=hcw
  clear hB hcr hcw c0 c1 c2 c3 hB0
  by_cases hx:x=d
  ·subst hx
   gi_wp2
   exact ⟨KeepsOthers.setCell _ _ _,⟨rfl,List.mem_append.2 (.inr (by simp)),HC.out.set _⟩,HB.out.setCell (p:=⟨w.heap.size+1,0,none⟩) (by simp) _⟩
  ·have hx':((x:Int)==(d:Int))=false:=by simp;omega
   gi_wp2
   exact ⟨KeepsOthers.refl _,Below.refl _ _,⟨fun y hy=>(List.mem_append.1 hy).elim (hp y) (fun e=>by simp at e;subst e;exact hx),HW,HC⟩,HB⟩
 case done =>
  rintro D ys W hD rfl ⟨⟨hne,_,hcr⟩,hB⟩ hK
  have h2:=hcr.cell
  have h3:=hcr.frozen
  gi_wp2
  have hK':=(KeepsOthers.setCell W ⟨w.heap.size+1,0,none⟩ (.bool false)).same D _ hK rfl
  refine ⟨by simp,.inl ⟨_,_,rfl,run_takeDeferred hK',?_⟩⟩
  have hc5:=cell_kept (hcr.set (.bool false)).cell (grownBy_putObj' _ D (.deferred none)) (fun r e=>by cases e;exact ⟨_,hK',rfl⟩)
  refine ⟨.bool false,?_,by rw [show belN l u d=false from decide_eq_false (fun h=>hne d h rfl)],(hB.setCell (p:=⟨w.heap.size+1,0,none⟩) (by simp) _).trans (belowK_b (w:=w) (Nat.le_refl _) _ D _ _ (by simp at hD;omega) hK' rfl rfl)⟩
  simp [results,Tryz.f302,go_sem,hc5]
 case stop =>
  rintro D c pre W hD hpre ⟨⟨rfl,hin,hcr⟩,hB⟩ hK
  gi_wp2
  refine ⟨by simp,.inl ⟨_,_,rfl,run_takeDeferred hK,?_⟩⟩
  have hc5:=cell_kept hcr.cell (grownBy_putObj' _ D (.deferred none)) (fun r e=>by cases e;exact ⟨_,hK,rfl⟩)
  refine ⟨.bool true,?_,by rw [bel_iff.2 (hpre.subset hin)],hB.trans (belowK_b (w:=w) (Nat.le_refl _) W D _ _ (by simp at hD;omega) hK rfl rfl)⟩
  simp [results,Tryz.f302,go_sem,hc5]
end
section
open Go.RowKit Go.Shelf
attribute [local go_sem] Oper.semAt_some
theorem Bl.keeps {W W':World} (h:Bl W W'):KeepsOthers W W':=⟨h.size,fun i _ hi _=>(Below.block h i (Array.getElem?_eq_some_iff.1 hi).1).trans hi⟩
theorem areClasses_any (A:Option Addr) (c:Nat) (l:List Cl) (x y:Int) (w:World) (hl:ClsAt w A l) :
  Calls Tryz.prog 301 #[.slice A l.length c,.int .i64 x,.int .i64 y] w fun e w'=>e=.returned (.bool (mayB l&&clsI l x y))∧Bl w w':=by
 have HL:Hid (ClsAt w A l):=hl
 clear hl
 have hc:clsI l x y=(decide (0≤x∧x<l.length)&&decide (0≤y∧y<l.length)):=by
  unfold clsI;rw [Bool.eq_iff_iff];simp;omega
 rw [hc]
 clear hc
 cases hm:mayB l
 ·go_enter Tryz.func301,Tryz.ntmps301
  go_wp2_with (go_at_call 62;refine (may_any _ _ _ _ HL.out).mono ?_;rintro e w1 ⟨he,hg⟩;rw [hm] at he;subst he)
  go_ret
  exact ⟨rfl,hg⟩
 ·cases hx:decide (0≤x∧x<l.length)
  ·go_enter Tryz.func301,Tryz.ntmps301
   go_wp2_with (first
    | (go_at_call 62;refine (may_any _ _ _ _ HL.out).mono ?_;rintro e w1 ⟨he,hg⟩;rw [hm] at he;subst he)
    | (go_at_call 144;refine (numbers_any _ _ _).mono ?_;rintro e w2 ⟨he,rfl⟩;rw [hx] at he;subst he))
   go_ret
   exact ⟨rfl,hg⟩
  ·go_enter Tryz.func301,Tryz.ntmps301
   go_wp2_with (first
    | (go_at_call 62;refine (may_any _ _ _ _ HL.out).mono ?_;rintro e w1 ⟨he,hg⟩;rw [hm] at he;subst he)
    | (go_at_call 144;refine (numbers_any _ _ _).mono ?_;rintro e w2 ⟨he,rfl⟩;(try rw [hx] at he);subst he))
   go_ret
   exact ⟨ret_bool (by rw [Bool.eq_iff_iff];simp),hg⟩
theorem hbelow_any (A:Option Addr) (c:Nat) (l:List Cl) (x y:Int) (w:World) (hl:ClsAt w A l) :
  Calls Tryz.prog 270 #[.slice A l.length c,.int .i64 x,.int .i64 y] w fun e w'=>e=.returned (.bool (belV l x y))∧Bl w w':=by
 have HL:Hid (ClsAt w A l):=hl
 clear hl
 unfold belV
 cases hm:(mayB l&&clsI l x y)
 ·rw [Bool.false_and]
  go_enter Tryz.func270,Tryz.ntmps270
  go_wp2_with (go_at_call 301;refine (areClasses_any _ _ _ _ _ _ HL.out).mono ?_;rintro e w1 ⟨he,hg⟩;rw [hm] at he;subst he)
  go_ret
  exact ⟨rfl,hg⟩
 ·rw [Bool.true_and]
  have hmm:=Bool.and_eq_true_iff.1 hm
  have HT:Hid (Tree l):=(may_tree hmm.1).1
  have hin:0≤x∧x<l.length∧0≤y∧y<l.length:=of_decide_eq_true hmm.2
  clear hmm
  obtain ⟨h1,h2,h3,h4⟩:=hin
  obtain ⟨u,rfl⟩:=Int.eq_ofNat_of_zero_le h1
  obtain ⟨d,rfl⟩:=Int.eq_ofNat_of_zero_le h3
  simp only [Int.toNat_natCast]
  have hu:u<l.length:=by omega
  clear h1 h2 h3 h4
  go_enter Tryz.func270,Tryz.ntmps270
  go_wp2_with (first
   | (go_at_call 301;refine (areClasses_any _ _ _ _ _ _ HL.out).mono ?_;rintro e w1 ⟨he,hg⟩;rw [hm] at he;subst he)
   | (go_at_call 302;refine (below_any _ _ _ _ _ HT.out hu _ (HL.out.bl hg)).mono ?_;rintro e w2 ⟨rfl,hg2⟩))
  go_ret
  exact ⟨rfl,hg.trans hg2⟩
end
structure Fut (w:World) where
 to:World
 is:Bl w to
theorem wp_region_fut {P:Program} {id:Nat} {Q:Exit→Act→World→Prop} {a:Act} {w:World} {l:List Oper} (hm:P.follows .mixedOrders=true) (hB:Region.lexB .any l.toArray=true)
  (h:Nonempty (Fut w)→wpQuiet P l.toArray (fun w'=>∃x:Fut w,w'=x.to) (fun a'=>∀w',(∃x:Fut w,w'=x.to)→Q .normal a' w') l a):(Code.region id l.toArray true).wp P Q a w :=
 wp_region_quiet (C:=fun w'=>∃x:Fut w,w'=x.to) hm hB ⟨⟨_,(Bl.refl w).drew⟩,rfl⟩ (by simpa using h ⟨⟨w,Bl.refl w⟩⟩)
theorem Calls.fut {P:Program} {f:FuncId} {args:Array Value} {w:World} {v:Value} (x:Fut w)
  (h:Calls P f args x.to fun e w'=>e=.returned v∧Bl x.to w'):Calls P f args x.to fun e w''=>e=.returned v∧∃y:Fut w,w''=y.to :=
 h.mono fun _ w'' ⟨he,hb⟩=>⟨he,⟨w'',x.is.trans hb⟩,rfl⟩
theorem Calls.fut_same {P:Program} {f:FuncId} {args:Array Value} {w:World} {v:Value} (x:Fut w)
  (h:Calls P f args x.to fun e w'=>e=.returned v∧w'=x.to):Calls P f args x.to fun e w''=>e=.returned v∧∃y:Fut w,w''=y.to :=
 h.mono fun _ _ ⟨he,hb⟩=>⟨he,x,hb⟩
theorem Calls.fut_eq {P:Program} {f:FuncId} {args:Array Value} {w:World} {v v':Value} (x:Fut w)
  (h:Calls P f args x.to fun e w'=>e=.returned v∧Bl x.to w') (hv:v=v'):Calls P f args x.to fun e w''=>e=.returned v'∧∃y:Fut w,w''=y.to :=
 hv▸Calls.fut x h
theorem Calls.fut_same_eq {P:Program} {f:FuncId} {args:Array Value} {w:World} {v v':Value} (x:Fut w)
  (h:Calls P f args x.to fun e w'=>e=.returned v∧w'=x.to) (hv:v=v'):Calls P f args x.to fun e w''=>e=.returned v'∧∃y:Fut w,w''=y.to :=
 hv▸Calls.fut_same x h
theorem fut_cell {w:World} {b o:Nat} {v:Value} (h:w.cell? ⟨b,o,none⟩=some v) (x:Fut w):x.to.cell? ⟨b,o,none⟩=some v:=x.is.cell h
theorem takeH {P:Program} {md:Region.Mode} {ops:Array Oper} {Q:Exit→Act→World→Prop} {S:World→Prop} {i:Nat} {oi:Oper} {d:Option Tmp} {v:Value} {fuel:Nat} {listed:Array Bool} {a:Act} {w:World} (hi:ops[i]?=some oi) (hd:oi.dst=d)
  (hs:Region.noSelect ops=true) (hf:Region.free md ops listed i=true) (hr:(Region.ready md ops listed).contains i=true)
  (hQ:∀c a w,Q (.panic c) (a.put oi.dst v) w→Q (.panic c) a w) (hw:Region.wanted oi (yielded ops a.tmps)=true) (hy:∀w,S w→(execOp a.eval oi).run P w=.ok (.value v) w) (hS:S w)
  (h:wpAnyH P md ops Q S fuel (listed.setIfInBounds i true) (a.put d v) w):wpAnyH P md ops Q S (fuel+1) listed a w :=
 wpAnyH_take hi hs hf hr hQ (Or.inl ⟨hw,hy⟩) hS (hd▸h)
def qOp:Op→Bool
 | .call c=>match c.callee with | .builtin .len=>true|_=>false
 | .move _ | .assign _ | .fieldAddr .. | .nilCheck _ | .load .. | .binOp .. | .unOp .. | .indexAddr .. | .build .. | .slice .. | .index .. | .extract .. | .convert .. | .field .. | .pick .. | .lookup ..=>true
 | _=>false
def nxA (md:Region.Mode) (l:List Bool):List Edge→Bool
 | []=>true
 | e::es=>(!Region.binds md e||l.getD e.on false)&&nxA md l es
def nxL (md:Region.Mode) (l:List Bool) (k:Nat):List Oper→List Bool→Option (Nat×Oper)
 | o::os,b::bs=>match !b&&(qOp o.op&&nxA md l o.after.toList) with
  | true=>some (k,o)
  | false=>nxL md l (k+1) os bs
 | _,_=>none
theorem nx_at {md:Region.Mode} {l:List Bool} {i:Nat} {o:Oper}:∀(os:List Oper) (bs:List Bool) (k:Nat),nxL md l k os bs=some (i,o)→∃q,i=k+q∧os[q]?=some o
 | [],bs,k,h=>by simp [nxL] at h
 | x::os,[],k,h=>by simp [nxL] at h
 | x::os,b::bs,k,h=>by
  unfold nxL at h
  split at h
  ·have h:=Option.some.inj h
   exact ⟨0,by have:=congrArg Prod.fst h;simp at this;omega,by have:=congrArg Prod.snd h;simp at this;simp [this]⟩
  ·obtain ⟨q,h1,h2⟩:=nx_at os bs (k+1) h
   exact ⟨q+1,by omega,by simpa using h2⟩
theorem tn {P:Program} {md:Region.Mode} {ops:Array Oper} {Q:Exit→Act→World→Prop} {S:World→Prop} {i:Nat} {oi:Oper} {v:Value} {fuel:Nat} {listed:Array Bool} {a:Act} {w:World} (hn:nxL md listed.toList 0 ops.toList listed.toList=some (i,oi))
  (hr:(Region.noSelect ops&&(Region.free md ops listed i&&((Region.ready md ops listed).contains i&&Region.wanted oi (yielded ops a.tmps))))=true)
  (hQ:∀c a w,Q (.panic c) (a.put oi.dst v) w→Q (.panic c) a w) (hy:∀w,S w→(execOp a.eval oi).run P w=.ok (.value v) w) (hS:S w)
  (h:wpAnyH P md ops Q S fuel (listed.setIfInBounds i true) (a.put oi.dst v) w):wpAnyH P md ops Q S (fuel+1) listed a w:=by
 rw [Bool.and_eq_true,Bool.and_eq_true,Bool.and_eq_true] at hr
 obtain ⟨q,h1,h2⟩:=nx_at _ _ _ hn
 have hi:ops[i]?=some oi:=by rw [h1,Nat.zero_add,←Array.getElem?_toList];exact h2
 exact takeH hi rfl hr.1 hr.2.1 hr.2.2.1 hQ hr.2.2.2 hy hS h
theorem tk {P:Program} {md:Region.Mode} {ops:Array Oper} {Q:Exit→Act→World→Prop} {S:World→Prop} {i:Nat} {oi:Oper} {d:Option Tmp} {v:Value} {fuel:Nat} {listed:Array Bool} {a:Act} {w:World} (hi:ops[i]?=some oi) (hd:oi.dst=d)
  (hr:(Region.noSelect ops&&(Region.free md ops listed i&&(Region.ready md ops listed).contains i))=true)
  (hQ:∀c a w,Q (.panic c) (a.put oi.dst v) w→Q (.panic c) a w) (hw:Region.wanted oi (yielded ops a.tmps)=true) (hy:∀w,S w→(execOp a.eval oi).run P w=.ok (.value v) w) (hS:S w)
  (h:wpAnyH P md ops Q S fuel (listed.setIfInBounds i true) (a.put d v) w):wpAnyH P md ops Q S (fuel+1) listed a w:=by
 rw [Bool.and_eq_true,Bool.and_eq_true] at hr
 exact takeH hi hd hr.1 hr.2.1 hr.2.2 hQ hw hy hS h
theorem rd1 {P:Program} {md:Region.Mode} {ops:Array Oper} {Q:Exit→Act→World→Prop} {S:World→Prop} {fuel:Nat} {listed:Array Bool} {a:Act} {w:World} {i:Nat} {o:Oper} (hr:Region.ready md ops listed=[i]) (ho:ops[i]?=some o)
  (h:∀K':Act→World→Prop,Shut (∀a w,S w→(S w→wpAnyH P md ops Q S fuel (listed.setIfInBounds i true) a w)→K' a w)→if Region.wanted o (yielded ops a.tmps)=true then Oper.wp P o a w K' Q else K' (a.put o.dst undef) w):wpAnyH P md ops Q S (fuel+1) listed a w :=
 wpAnyH_ready hr (by simp) (AllReadyH.cons ho h AllReadyH.nil)
theorem aS (a:Act) (t:Tmp) (v:Value):a.put (some t) v={ a with tmps:=a.tmps.setIfInBounds t v }:=rfl
theorem aN (a:Act) (v:Value):a.put none v=a:=rfl
theorem aT {α:Type} (l:List α) (i:Nat) (x:α):l.toArray.setIfInBounds i x=(l.set i x).toArray:=List.setIfInBounds_toArray ..
theorem a0 {α:Type} (x y:α) (l:List α):(x::l).set 0 y=y::l:=rfl
theorem a1 {α:Type} (x y:α) (l:List α) (n:Nat):(x::l).set (n+1) y=x::l.set n y:=rfl
theorem aZ:(∀(a:Act) (t:Tmp) (v:Value),a.put (some t) v={ a with tmps:=a.tmps.setIfInBounds t v })∧(∀(a:Act) (v:Value),a.put none v=a)∧(∀{α:Type} (l:List α) (i:Nat) (x:α),l.toArray.setIfInBounds i x=(l.set i x).toArray)∧(∀{α:Type} (x y:α) (l:List α),(x::l).set 0 y=y::l)∧(∀{α:Type} (x y:α) (l:List α) (n:Nat),(x::l).set (n+1) y=x::l.set n y) :=
 ⟨aS,aN,aT,a0,a1⟩
theorem ret_ib {k:IntKind} {a b:Int} {x y:Bool} (h:a=b) (h':x=y):Ending.returned (.tuple #[.int k a,.bool x])=.returned (.tuple #[.int k b,.bool y]):=by rw [h,h']
theorem hld1 (a:Int):hldB 1 a=(a==0):=by unfold hldB;by_cases h:a=0<;>simp [h]
theorem hld2 (a:Int):hldB 2 a=decide (a<0):=by unfold hldB;simp
theorem hld3 (a:Int):hldB 3 a=(a !=0):=by unfold hldB;by_cases h:a=0<;>simp [h]
theorem hld4 (a:Int):hldB 4 a=decide (0<a):=by unfold hldB;simp
theorem hld0 (c a:Int) (h1:¬c=1) (h2:¬c=2) (h3:¬c=3) (h4:¬c=4):hldB c a=false:=by unfold hldB;simp [h1,h2,h3,h4]
section
open Go.RowKit (wrap32 wrap64)
theorem narrow_any (a:Int) (w:World) :
  Calls Tryz.prog 149 #[.int .i64 a] w fun e w'=>e=.returned (.int .i64 (wrap32 a))∧w'=w:=by
 go_enter Tryz.func149,Tryz.ntmps149
 go_wp2
 go_ret
 exact ⟨ret_i (w64_w32 a),rfl⟩
end
end Go.Proofs.YtgiiapenmjollabGreat
