import Derived.Test.YtimjmdfokicbkaaSlaa
import Derived.Test.YtimjmdfokicbkaaSlae
import Derived.Test.YtimjmdfokicbkaaSlag
import Derived.RangeFuncNested
import Derived.RangeFuncBound
import Derived.RangeFuncCalls
import Derived.RangeFuncLeaves
import Derived.RangeFuncFrom
import Derived.Shelf.Abstract
import Derived.Shelf.RegionOpen
import Derived.WalkKit
import Derived.OwnWalkIn
import Derived.TacticsInMore
import Derived.LoopNIn
import Derived.LoopIn
import Derived.Test.YtimjmdfokicbkaaChecked
import Derived.Handy
import Derived.BigQuiet
import Derived.Laws.StructEq
import Derived.Deep.RegionHeld3
namespace Go.Proofs.Ytimjmdfokicbkaa
set_option linter.unusedVariables false
set_option linter.unusedSimpArgs false
set_option maxHeartbeats 40000000
open Go.RowKit
section
open Go.RowKit Go.Shelf
attribute [local go_sem] Oper.semAt_some
set_option maxRecDepth 100000 in
theorem up1_in (F:Fence) (n:Nat) (hf:F.fn 60) (hro:F.round=none) (hn:1≤n) (lp Bc Bs:Nat) (A:Option Addr) (c:Nat) (l:List Cl) (u:Nat) (ht:Tree l) (hu:u<l.length) (w:World) (J Jx:List Nat→World→Prop)
  (hY:∀pre x W,J pre W→pre.length<(ups l u).length→YieldAt F (n-1) Try.prog lp #[.int .i64 (x:Nat)] W fun e W' =>
   (e=.returned (.bool true)∧J (pre++[x]) W'∧Below w.heap.size W W')∨(e=.returned (.bool false)∧Jx (pre++[x]) W'))
  (hl:ClsAt w A l) (hBc:w.cell? ⟨Bc,0,none⟩=some (.int .i64 u)) (hBs:w.cell? ⟨Bs,0,none⟩=some (.slice A l.length c)) (W:World) (hW:Bl w W) (h0:J [] W) :
  CallsIn F n Try.prog 60 #[.func (.yield lp) #[] #[],.pointer (some ⟨Bc,0,none⟩),.pointer (some ⟨Bs,0,none⟩)] W fun e W'=>(∃v,e=.returned v) ∧
   ((∃ys,ys=ups l u∧J ys W')∨(∃pre,pre <+: ups l u∧Jx pre W')):=by
 have HT:Hid (Tree l):=ht
 have HL:Hid (ClsAt w A l):=hl
 have HBs:Hid (w.cell? ⟨Bs,0,none⟩=some (.slice A l.length c)):=hBs
 have hc0:=hW.cell hBc
 have HW:Hid (Bl w W):=hW
 clear ht hl hBs hBc hW
 refine callsIn_of_wp Try.func60 rfl hf ?_ hro
 simp only [Try.ntmps60,List.size_toArray,List.length_cons,List.length_nil,Nat.reduceAdd,Nat.reduceSub,Array.replicate_succ,Array.replicate_zero,List.push_toArray,List.append_toArray,List.nil_append,List.cons_append]
 gi_wp2
 clear hc0
 gi_loopw [4] (fun p wr=>∃(pre rest:List Nat) (z:Int),p=.int .i64 z∧Hid (ups l u=pre++rest)∧Hid ((z=-1∧rest=[])∨∃k:Nat,z=k∧k<l.length∧rest=ups l k)∧Hid (Bl w wr)∧J pre wr)
  (fun p _=>(intOf p+1).toNat)
 case atStart=>exact ⟨[],ups l u,_,rfl,rfl,.inr ⟨u,rfl,hu,rfl⟩,HW,h0⟩
 case round =>
  obtain ⟨pre,rest,z,rfl,hx,hz,hg,hJs⟩:=hrel
  rcases hz.out with ⟨rfl,rfl⟩|⟨k,rfl,hk,rfl⟩
  ·clear hz
   gi_wp2
   go_end0
   exact ⟨⟨_,rfl⟩,.inl ⟨pre,by simpa using hx.out.symm,hJs⟩⟩
  ·clear hz
   obtain ⟨fn,tmps,assign,body,hy,hR⟩:=hY pre k wr hJs (by
    rw [hx.out,List.length_append]
    have:=List.length_pos_of_mem (ups_head (l:=l) k)
    omega)
   gi_wp2
   refine hR.mono ?_
   rintro e W3 (⟨rfl,hJ3,hk3⟩|⟨rfl,hJx3⟩)
   ·have hg3:Bl w W3:=Below.trans hg.out hk3
    have hs3:=hg3.cell HBs.out
    obtain ⟨hm,hcl⟩:=HL.out
    unfold maxLen at hm
    rcases hcl with h1|⟨b,off,rfl,hcl⟩
    ·omega
    have hsup:=hg3.cell (hcl k hk).1
    by_cases hk0:k=0
    ·subst hk0
     rw [HT.out.zero,Nat.zero_mul,Nat.add_zero] at hsup
     have hx':Hid (ups l u=(pre++[0])++[]):=by rw [hx.out,ups_zero];simp [Hid]
     clear hcl hk3 hy hR hx
     have HG:Hid (Bl w W3):=hg3
     clear hg3
     gi_wp2
     go_roundw
     case rel=>exact ⟨pre++[0],[],-1,rfl,hx',.inl ⟨rfl,rfl⟩,HG,hJ3⟩
     case measure=>simp [intOf]
    ·rw [super_par HT.out (by omega) hk] at hsup
     have hp:=par_lt HT.out (by omega) hk
     have hx':Hid (ups l u=(pre++[k])++ups l (par l k)):=by rw [hx.out,ups_step HT.out (by omega) hk];simp [Hid]
     clear hcl hk3 hy hR hx
     have HG:Hid (Bl w W3):=hg3
     clear hg3
     gi_wp2
     go_roundw
     case rel=>exact ⟨pre++[k],_,_,rfl,hx',.inr ⟨par l k,rfl,by omega,rfl⟩,HG,hJ3⟩
     case measure=>simp [intOf];omega
   ·gi_wp2
    refine bodyPost_ret (results_none rfl _ _ _) rfl ?_
    refine ⟨⟨_,rfl⟩,.inr ⟨pre++[k],?_,hJx3⟩⟩
    rw [hx.out]
    by_cases hk0:k=0
    ·subst hk0;rw [ups_zero];exact List.prefix_rfl
    ·rw [ups_step HT.out (by omega) hk];exact ⟨ups l (par l k),by simp⟩
theorem upward_any (A:Option Addr) (n c:Nat) (x:Int) (w:World) :
  Calls Try.prog 42 #[.slice A n c,.int .i64 x] w fun e w' =>
   e=.returned (.func (.func 60) #[] #[.pointer (some ⟨w.heap.size+1,0,none⟩),.pointer (some ⟨w.heap.size,0,none⟩)])
   ∧ w'=(w.alloc (.cells #[.slice A n c] 29)).alloc (.cells #[.int .i64 x] 3):=by
 refine (callsIn_wide (n:=3)).1 ?_
 refine callsIn_of_wp Try.func42 rfl trivial ?_ rfl
 simp only [Try.ntmps42,List.size_toArray,List.length_cons,List.length_nil,Nat.reduceAdd,Nat.reduceSub,Array.replicate_succ,Array.replicate_zero,List.push_toArray,List.append_toArray,List.nil_append,List.cons_append]
 gi_wp2
 go_ret
 exact ⟨rfl,rfl⟩
theorem up_stops (n:Nat) (hn:1≤n) (Bc Bs:Nat) (A:Option Addr) (c:Nat) (l:List Cl) (u:Nat) (ht:Tree l) (hu:u<l.length) (w:World)
  (hl:ClsAt w A l) (hBc:w.cell? ⟨Bc,0,none⟩=some (.int .i64 u)) (hBs:w.cell? ⟨Bs,0,none⟩=some (.slice A l.length c)) :
  SeqStopsK Fence.wide n Try.prog 60 #[.pointer (some ⟨Bc,0,none⟩),.pointer (some ⟨Bs,0,none⟩)] (fun x:Nat=>#[Value.int .i64 x]) (Below w.heap.size) (fun ys=>ys=ups l u) (fun pre=>pre <+: ups l u) (ups l u).length w :=
 fun lp J Jx W hW _ _ hY h0=>up1_in Fence.wide n trivial rfl hn lp Bc Bs A c l u ht hu w J Jx hY hl hBc hBs W hW h0
end
theorem rbelow_any (A:Option Addr) (c:Nat) (l:List Cl) (x y:Int) (w:World) (hl:ClsAt w A l) (ht:Tree l) :
  Calls Try.prog 25 #[.slice A l.length c,.int .i64 x,.int .i64 y] w fun e w'=>e=.returned (.bool (clsI l x y&&belN l x.toNat y.toNat))∧w'=w:=by
 obtain ⟨hm,hl⟩:=hl
 unfold maxLen at hm
 by_cases hin:0≤x∧x<l.length∧0≤y∧y<l.length
 ·have hI:clsI l x y=true:=decide_eq_true hin
  rw [hI,Bool.true_and]
  clear hI
  obtain ⟨h1,h2,h3,h4⟩:=hin
  obtain ⟨u,rfl⟩:=Int.eq_ofNat_of_zero_le h1
  obtain ⟨d,rfl⟩:=Int.eq_ofNat_of_zero_le h3
  simp only [Int.toNat_natCast]
  have HT:Hid (Tree l):=ht
  rcases hl with hl|⟨b,off,rfl,hc⟩
  ·omega
  have hu:u<l.length:=by omega
  have hd:d<l.length:=by omega
  clear ht
  go_enter Try.func25,Try.ntmps25
  go_wp2
  go_loop [1] (fun i=>∃k:Nat,i=.int .i64 k∧k<l.length∧Hid (belN l u d=belN l k d)) (fun i=>(intOf i).toNat)
  case atStart=>exact ⟨u,rfl,hu,rfl⟩
  case round =>
   obtain ⟨k,rfl,hk,hb⟩:=hrel
   by_cases hlt:d<k
   ·have hsup:=(hc k hk).1
    rw [super_par HT.out (by omega) hk] at hsup
    have hp:=par_lt HT.out (by omega) hk
    have hs:=bel_step HT.out hk hlt
    have HS:Hid (belN l u d=belN l (par l k) d):=hb.out.trans hs
    clear hc hs hb
    go_wp2
    go_round
    case rel=>exact ⟨par l k,rfl,by omega,HS⟩
    case measure=>simp [intOf];omega
   ·have HS:Hid (belN l u d=decide (k=d)):=by
     refine hb.out.trans ?_
     by_cases he:k=d
     ·subst he;rw [bel_self,decide_eq_true rfl]
     ·rw [bel_low HT.out hk (by omega),decide_eq_false he]
    clear hc hb
    go_wp2
    go_ret
    refine ⟨ret_bool ?_,rfl⟩
    rw [HS.out,Bool.eq_iff_iff];simp;omega
 ·have hI:clsI l x y=false:=decide_eq_false hin
  rw [hI,Bool.false_and]
  clear hI hl ht
  go_enter Try.func25,Try.ntmps25
  go_wp2
  all_goals first
   | (go_ret;exact ⟨rfl,rfl⟩)
   | (exfalso;omega)
section
open Go.RowKit Go.Shelf
attribute [local go_sem] Oper.semAt_some
set_option maxRecDepth 100000 in
theorem below_any (A:Option Addr) (c:Nat) (l:List Cl) (u d:Nat) (ht:Tree l) (hu:u<l.length) (w:World) (hl:ClsAt w A l) :
  Calls Try.prog 41 #[.slice A l.length c,.int .i64 u,.int .i64 d] w fun e w'=>e=.returned (.bool (belN l u d))∧Bl w w':=by
 have HT:Hid (Tree l):=ht
 have HL:Hid (ClsAt w A l):=hl
 clear ht hl
 refine (callsIn_wide (n:=3)).1 ?_
 refine callsIn_of_wp_marks Try.func41 rfl trivial ?_ rfl
 simp only [Try.ntmps41,List.size_toArray,List.length_cons,List.length_nil,Nat.reduceAdd,Nat.reduceSub,Array.replicate_succ,Array.replicate_zero,List.push_toArray,List.append_toArray,List.nil_append,List.cons_append]
 gi_wp2_with (refine ⟨trivial,?_⟩;gi_at_call 42;refine (callsIn_wide.2 (upward_any _ _ _ _ _)).mono ?_;rintro e w' ⟨rfl,rfl⟩)
 have c0:=Boxed.new w 3 (.int .i64 (d:Int))
 have c1:=Boxed.new (w.alloc (.cells #[.int .i64 (d:Int)] 3)) 4 (.bool false)
 have c2:=Boxed.new ((w.alloc (.cells #[.int .i64 (d:Int)] 3)).alloc (.cells #[.bool false] 4)) 29 (.slice A l.length c)
 have c3:=Boxed.new (((w.alloc (.cells #[.int .i64 (d:Int)] 3)).alloc (.cells #[.bool false] 4)).alloc (.cells #[.slice A l.length c] 29)) 3 (.int .i64 (u:Int))
 simp only [World.size_alloc] at c1 c2 c3
 have hB0:Bl w ((((w.alloc (.cells #[.int .i64 (d:Int)] 3)).alloc (.cells #[.bool false] 4)).alloc (.cells #[.slice A l.length c] 29)).alloc (.cells #[.int .i64 (u:Int)] 3)):=((((Bl.refl w).alloc _).alloc _).alloc _).alloc _
 refine wpIn_rangeFunc_ownF (F:=Fence.wide) rfl (by omega) (gf:=60) (lb:=#[.pointer (some ⟨w.heap.size+1+1+1,0,none⟩),.pointer (some ⟨w.heap.size+1+1,0,none⟩)]) rfl trivial (enters_of Try.func60 (by kernel_rfl) rfl)
  (up_stops _ (by omega) (w.heap.size+1+1+1) (w.heap.size+1+1) A c l u HT.out hu _ (HL.out.bl hB0) c3.cell (c2.alloc _).cell) belowK_t (belowK_b (Nat.le_refl _)) (Below.refl _ _) (fun _=>rfl)
  (fun pre W=>((∀y∈pre,y≠d)∧Boxed W w.heap.size 3 (.int .i64 (d:Int))∧Boxed W (w.heap.size+1) 4 (.bool false))∧Below w.heap.size w W)
  (fun c pre W=>(c=.ret∧d∈pre∧Boxed W (w.heap.size+1) 4 (.bool true))∧Below w.heap.size w W)
  (OwnFrom.and (Own.from (fun s X Y row hs hg hr=>⟨hs.1,boxed_own _ _ (fun _=>_) s X Y row hs.2.1 hg hr,boxed_own _ _ (fun _=>_) s X Y row hs.2.2 hg hr⟩) _) (ownFrom_below (Nat.le_refl _) hB0.size))
  (fun c=>OwnFrom.and (Own.from (fun s X Y row hs hg hr=>⟨hs.1,hs.2.1,boxed_own _ _ (fun _=>_) s X Y row hs.2.2 hg hr⟩) _) (ownFrom_below (Nat.le_refl _) hB0.size))
  ⟨⟨by simp,((c0.alloc _).alloc _).alloc _,(c1.alloc _).alloc _⟩,hB0⟩
  (fun x=>{ tmps:=#[.slice A l.length c,.int .i64 u,.int .i64 d,undef,undef,.pointer (some ⟨w.heap.size,0,none⟩),.pointer (some ⟨w.heap.size+1,0,none⟩),.int .i64 (x:Int),.slice A l.length c,.int .i64 u,
   .func (.func 60) #[] #[.pointer (some ⟨w.heap.size+1+1+1,0,none⟩),.pointer (some ⟨w.heap.size+1+1,0,none⟩)],.int .i64 (x:Int),undef,undef,undef],defers:=[] }) ?assign ?body ?done ?stop
 case assign =>
  intro l x W K hK
  gi_wp2
  exact hK
 case body =>
  rintro lp pre x W ⟨⟨hp,hcw,hcr⟩,hB⟩ _
  have h1:=hcw.cell
  have h2:=hcr.cell
  have h3:=hcr.frozen
  have HB:Hid (Below w.heap.size w W):=hB
  have HC:Hid (Boxed W (w.heap.size+1) 4 (.bool false)):=hcr
  have HW:Hid (Boxed W w.heap.size 3 (.int .i64 (d:Int))):=hcw
  clear hB hcr hcw c0 c1 c2 c3 hB0
  by_cases hx:x=d
  ·subst hx
   gi_wp2
   exact ⟨KeepsOthers.setCell _ _ _,⟨rfl,List.mem_append.2 (.inr (by simp)),HC.out.set _⟩,HB.out.setCell (p:=⟨w.heap.size+1,0,none⟩) (by simp) _⟩
  ·have hx':((x:Int)==(d:Int))=false:=by simp;omega
   gi_wp2
   exact ⟨KeepsOthers.refl _,Below.refl _ _,⟨fun y hy=>(List.mem_append.1 hy).elim (hp y) (fun e=>by simp at e;subst e;exact hx),HW,HC⟩,HB⟩
 case done =>
  rintro D ys W hD rfl ⟨⟨hne,_,hcr⟩,hB⟩ hK
  have h2:=hcr.cell
  have h3:=hcr.frozen
  gi_wp2
  have hK':=(KeepsOthers.setCell W ⟨w.heap.size+1,0,none⟩ (.bool false)).same D _ hK rfl
  refine ⟨by simp,.inl ⟨_,_,rfl,run_takeDeferred hK',?_⟩⟩
  have hc5:=cell_kept (hcr.set (.bool false)).cell (grownBy_putObj' _ D (.deferred none)) (fun r e=>by cases e;exact ⟨_,hK',rfl⟩)
  refine ⟨.bool false,?_,by rw [show belN l u d=false from decide_eq_false (fun h=>hne d h rfl)],(hB.setCell (p:=⟨w.heap.size+1,0,none⟩) (by simp) _).trans (belowK_b (w:=w) (Nat.le_refl _) _ D _ _ (by simp at hD;omega) hK' rfl rfl)⟩
  simp [results,Try.f41,go_sem,hc5]
 case stop =>
  rintro D c pre W hD hpre ⟨⟨rfl,hin,hcr⟩,hB⟩ hK
  gi_wp2
  refine ⟨by simp,.inl ⟨_,_,rfl,run_takeDeferred hK,?_⟩⟩
  have hc5:=cell_kept hcr.cell (grownBy_putObj' _ D (.deferred none)) (fun r e=>by cases e;exact ⟨_,hK,rfl⟩)
  refine ⟨.bool true,?_,by rw [bel_iff.2 (hpre.subset hin)],hB.trans (belowK_b (w:=w) (Nat.le_refl _) W D _ _ (by simp at hD;omega) hK rfl rfl)⟩
  simp [results,Try.f41,go_sem,hc5]
end
section
open Go.RowKit Go.Shelf
attribute [local go_sem] Oper.semAt_some
theorem Bl.boxed {W W':World} (h:Bl W W') {B:Nat} {t:TypeId} {v:Value} (hb:Boxed W B t v):Boxed W' B t v:=(Below.block h B hb.lt).trans hb
theorem Bl.keeps {W W':World} (h:Bl W W'):KeepsOthers W W':=⟨h.size,fun i _ hi _=>(Below.block h i (Array.getElem?_eq_some_iff.1 hi).1).trans hi⟩
theorem areClasses_any (A:Option Addr) (c:Nat) (l:List Cl) (x y:Int) (w:World) (hl:ClsAt w A l) :
  Calls Try.prog 40 #[.slice A l.length c,.int .i64 x,.int .i64 y] w fun e w'=>e=.returned (.bool (mayB l&&clsI l x y))∧Bl w w':=by
 have HL:Hid (ClsAt w A l):=hl
 clear hl
 have hc:clsI l x y=(decide (0≤x∧x<l.length)&&decide (0≤y∧y<l.length)):=by
  unfold clsI;rw [Bool.eq_iff_iff];simp;omega
 rw [hc]
 clear hc
 cases hm:mayB l
 ·go_enter Try.func40,Try.ntmps40
  go_wp2_with (go_at_call 21;refine (may_any _ _ _ _ HL.out).mono ?_;rintro e w1 ⟨he,hg⟩;rw [hm] at he;subst he)
  go_ret
  exact ⟨rfl,hg⟩
 ·cases hx:decide (0≤x∧x<l.length)
  ·go_enter Try.func40,Try.ntmps40
   go_wp2_with (first
    | (go_at_call 21;refine (may_any _ _ _ _ HL.out).mono ?_;rintro e w1 ⟨he,hg⟩;rw [hm] at he;subst he)
    | (go_at_call 58;refine (numbers_any _ _ _).mono ?_;rintro e w2 ⟨he,rfl⟩;rw [hx] at he;subst he))
   go_ret
   exact ⟨rfl,hg⟩
  ·go_enter Try.func40,Try.ntmps40
   go_wp2_with (first
    | (go_at_call 21;refine (may_any _ _ _ _ HL.out).mono ?_;rintro e w1 ⟨he,hg⟩;rw [hm] at he;subst he)
    | (go_at_call 58;refine (numbers_any _ _ _).mono ?_;rintro e w2 ⟨he,rfl⟩;(try rw [hx] at he);subst he))
   go_ret
   exact ⟨ret_bool (by rw [Bool.eq_iff_iff];simp),hg⟩
theorem hbelow_any (A:Option Addr) (c:Nat) (l:List Cl) (x y:Int) (w:World) (hl:ClsAt w A l) :
  Calls Try.prog 22 #[.slice A l.length c,.int .i64 x,.int .i64 y] w fun e w'=>e=.returned (.bool (belV l x y))∧Bl w w':=by
 have HL:Hid (ClsAt w A l):=hl
 clear hl
 unfold belV
 cases hm:(mayB l&&clsI l x y)
 ·rw [Bool.false_and]
  go_enter Try.func22,Try.ntmps22
  go_wp2_with (go_at_call 40;refine (areClasses_any _ _ _ _ _ _ HL.out).mono ?_;rintro e w1 ⟨he,hg⟩;rw [hm] at he;subst he)
  go_ret
  exact ⟨rfl,hg⟩
 ·rw [Bool.true_and]
  have hmm:=Bool.and_eq_true_iff.1 hm
  have HT:Hid (Tree l):=(may_tree hmm.1).1
  have hin:0≤x∧x<l.length∧0≤y∧y<l.length:=of_decide_eq_true hmm.2
  clear hmm
  obtain ⟨h1,h2,h3,h4⟩:=hin
  obtain ⟨u,rfl⟩:=Int.eq_ofNat_of_zero_le h1
  obtain ⟨d,rfl⟩:=Int.eq_ofNat_of_zero_le h3
  simp only [Int.toNat_natCast]
  have hu:u<l.length:=by omega
  clear h1 h2 h3 h4
  go_enter Try.func22,Try.ntmps22
  go_wp2_with (first
   | (go_at_call 40;refine (areClasses_any _ _ _ _ _ _ HL.out).mono ?_;rintro e w1 ⟨he,hg⟩;rw [hm] at he;subst he)
   | (go_at_call 41;refine (below_any _ _ _ _ _ HT.out hu _ (HL.out.bl hg)).mono ?_;rintro e w2 ⟨rfl,hg2⟩))
  go_ret
  exact ⟨rfl,hg.trans hg2⟩
set_option maxRecDepth 100000 in
theorem hjoin_any (A:Option Addr) (c:Nat) (l:List Cl) (x y:Int) (w:World) (hl:ClsAt w A l) :
  Calls Try.prog 23 #[.slice A l.length c,.int .i64 x,.int .i64 y] w fun e w'=>e=.returned (.int .i64 (joinV l x y))∧Bl w w':=by
 have HL:Hid (ClsAt w A l):=hl
 clear hl
 unfold joinV
 have b0:=Boxed.new w 29 (.slice A l.length c)
 have b1:=Boxed.new (w.alloc (.cells #[.slice A l.length c] 29)) 3 (.int .i64 y)
 have b2:=Boxed.new ((w.alloc (.cells #[.slice A l.length c] 29)).alloc (.cells #[.int .i64 y] 3)) 3 (.int .i64 0)
 simp only [World.size_alloc] at b1 b2
 have HB0:Hid (Boxed (((w.alloc (.cells #[.slice A l.length c] 29)).alloc (.cells #[.int .i64 y] 3)).alloc (.cells #[.int .i64 0] 3)) w.heap.size 29 (.slice A l.length c)):=(b0.alloc _).alloc _
 have HB1:Hid (Boxed (((w.alloc (.cells #[.slice A l.length c] 29)).alloc (.cells #[.int .i64 y] 3)).alloc (.cells #[.int .i64 0] 3)) (w.heap.size+1) 3 (.int .i64 y)):=b1.alloc _
 have HB2:Hid (Boxed (((w.alloc (.cells #[.slice A l.length c] 29)).alloc (.cells #[.int .i64 y] 3)).alloc (.cells #[.int .i64 0] 3)) (w.heap.size+1+1) 3 (.int .i64 0)):=b2
 clear b0 b1 b2
 have HW:Hid (Bl w (((w.alloc (.cells #[.slice A l.length c] 29)).alloc (.cells #[.int .i64 y] 3)).alloc (.cells #[.int .i64 0] 3))):=(((Bl.refl w).alloc _).alloc _).alloc _
 refine (callsIn_wide (n:=3)).1 ?_
 refine callsIn_of_wp_marks Try.func23 rfl trivial ?_ rfl
 simp only [Try.ntmps23,List.size_toArray,List.length_cons,List.length_nil,Nat.reduceAdd,Nat.reduceSub,Array.replicate_succ,Array.replicate_zero,List.push_toArray,List.append_toArray,List.nil_append,List.cons_append]
 cases hm:(mayB l&&clsI l x y)
 ·gi_wp2_with (refine ⟨trivial,?_⟩;gi_at_call 40;refine (callsIn_wide.2 (areClasses_any _ _ _ _ _ _ (HL.out.bl HW.out))).mono ?_;rintro e w1 ⟨he,hg⟩;rw [hm] at he;subst he;have q0:=(hg.boxed HB2.out).cell;have q1:=(hg.boxed HB2.out).frozen)
  have hc5:=((hg.boxed HB2.out).set (.int .i64 (-1))).cell
  exact ⟨_,by simp [results,Try.f23,go_sem,hc5],rfl,(HW.out.trans hg).setCell (p:=⟨w.heap.size+1+1,0,none⟩) (by simp;omega) _⟩
 ·have hmm:=Bool.and_eq_true_iff.1 hm
  have HT:Hid (Tree l):=(may_tree hmm.1).1
  have hin:0≤x∧x<l.length∧0≤y∧y<l.length:=of_decide_eq_true hmm.2
  clear hmm
  rw [if_pos rfl]
  obtain ⟨h1,h2,h3,h4⟩:=hin
  obtain ⟨u,rfl⟩:=Int.eq_ofNat_of_zero_le h1
  obtain ⟨d,rfl⟩:=Int.eq_ofNat_of_zero_le h3
  simp only [Int.toNat_natCast]
  have hu:u<l.length:=by omega
  have hd:d<l.length:=by omega
  clear h1 h2 h3 h4
  gi_wp2_with (first
   | (refine ⟨trivial,?_⟩;gi_at_call 40;refine (callsIn_wide.2 (areClasses_any _ _ _ _ _ _ (HL.out.bl HW.out))).mono ?_;rintro e w1 ⟨he,hg⟩;rw [hm] at he;subst he;have q0:=(hg.boxed HB0.out).cell;have q1:=(hg.boxed HB1.out).cell)
   | (refine ⟨trivial,?_⟩;gi_at_call 42;refine (callsIn_wide.2 (upward_any _ _ _ _ _)).mono ?_;rintro e w' ⟨rfl,rfl⟩))
  have b0:=((hg.boxed HB0.out).alloc (.cells #[.slice A l.length c] 29)).alloc (.cells #[.int .i64 (u:Int)] 3)
  have b1:=((hg.boxed HB1.out).alloc (.cells #[.slice A l.length c] 29)).alloc (.cells #[.int .i64 (u:Int)] 3)
  have b2:=((hg.boxed HB2.out).alloc (.cells #[.slice A l.length c] 29)).alloc (.cells #[.int .i64 (u:Int)] 3)
  have b3:=(Boxed.new w1 29 (.slice A l.length c)).alloc (.cells #[.int .i64 (u:Int)] 3)
  have b4:=Boxed.new (w1.alloc (.cells #[.slice A l.length c] 29)) 3 (.int .i64 (u:Int))
  rw [World.size_alloc] at b4
  have hWW:Bl w ((w1.alloc (.cells #[.slice A l.length c] 29)).alloc (.cells #[.int .i64 (u:Int)] 3)):=((HW.out.trans hg).alloc _).alloc _
  have hsz:w.heap.size+1+1+1≤w1.heap.size:=by have:=hg.size;simpa using this
  obtain ⟨W0,hW0⟩:∃W0,(w1.alloc (.cells #[.slice A l.length c] 29)).alloc (.cells #[.int .i64 (u:Int)] 3)=W0:=⟨_,rfl⟩
  have hsz0:w1.heap.size≤W0.heap.size:=by rw [←hW0];simp;omega
  rw [hW0] at b0 b1 b2 b3 b4 hWW ⊢
  clear hW0 q0 q1 HB0 HB1 HB2 HW
  refine wpIn_rangeFunc_ownF (F:=Fence.wide) rfl (by omega) (gf:=60) (lb:=#[.pointer (some ⟨w1.heap.size+1,0,none⟩),.pointer (some ⟨w1.heap.size,0,none⟩)]) rfl trivial (enters_of Try.func60 (by kernel_rfl) rfl)
   (up_stops _ (by omega) (w1.heap.size+1) w1.heap.size A c l u HT.out hu W0 (HL.out.bl hWW) b4.cell b3.cell) belowK_t (belowK_b (Nat.le_refl _)) (Below.refl _ _) (fun _=>rfl)
   (fun pre W=>((∀y∈pre,y∉ups l d)∧Boxed W w.heap.size 29 (.slice A l.length c)∧Boxed W (w.heap.size+1) 3 (.int .i64 (d:Int))∧Boxed W (w.heap.size+1+1) 3 (.int .i64 0))∧(W0.heap.size≤W.heap.size)∧Below w.heap.size w W)
   (fun c pre W=>(c=.ret∧∃pre' j,pre=pre'++[j]∧(∀y∈pre',y∉ups l d)∧j∈ups l d∧Boxed W (w.heap.size+1+1) 3 (.int .i64 (j:Nat)))∧Below w.heap.size w W)
   (OwnFrom.and (Own.from (fun s X Y row hs hg hr=>⟨hs.1,boxed_own _ _ (fun _=>_) s X Y row hs.2.1 hg hr,boxed_own _ _ (fun _=>_) s X Y row hs.2.2.1 hg hr,boxed_own _ _ (fun _=>_) s X Y row hs.2.2.2 hg hr⟩) _)
    (OwnFrom.and (fun _ _ _ _ hs hg _=>Nat.le_trans hs hg.size) (ownFrom_below (Nat.le_refl _) hWW.size)))
   (fun c=>OwnFrom.and (Own.from (fun s X Y row hs hg hr=>by
    obtain ⟨h1,p,j,h2,h3,h4,h5⟩:=hs
    exact ⟨h1,p,j,h2,h3,h4,boxed_own _ _ (fun _=>_) s X Y row h5 hg hr⟩) _) (ownFrom_below (Nat.le_refl _) hWW.size))
   ⟨⟨by simp,b0,b1,b2⟩,Nat.le_refl _,hWW⟩
   (fun x=>{ tmps:=#[.slice A l.length c,.int .i64 u,.int .i64 d,.pointer (some ⟨w.heap.size,0,none⟩),undef,.pointer (some ⟨w.heap.size+1,0,none⟩),.pointer (some ⟨w.heap.size+1+1,0,none⟩),.int .i64 (x:Int),.slice A l.length c,.int .i64 u,.int .i64 d,.bool true,.bool false,
    .slice A l.length c,.int .i64 u,.func (.func 60) #[] #[.pointer (some ⟨w1.heap.size+1,0,none⟩),.pointer (some ⟨w1.heap.size,0,none⟩)],.int .i64 (x:Int),undef,undef,undef,undef,undef],defers:=[] }) ?assign ?body ?done ?stop
  case assign =>
   intro l x W K hK
   gi_wp2
   exact hK
  case body =>
   rintro lp pre x W ⟨⟨hp,k0,k1,k2⟩,hS,hB⟩ _
   have h0:=k0.cell
   have h1:=k1.cell
   have h2:=k2.cell
   have h3:=k2.frozen
   have HB:Hid (Below w.heap.size w W):=hB
   have HK:Hid (Boxed W w.heap.size 29 (.slice A l.length c)∧Boxed W (w.heap.size+1) 3 (.int .i64 (d:Int))∧Boxed W (w.heap.size+1+1) 3 (.int .i64 0)):=⟨k0,k1,k2⟩
   have HLW:Hid (ClsAt W A l):=HL.out.bl hB
   have HS:Hid (W0.heap.size≤W.heap.size):=hS
   have HP:Hid (∀y∈pre,y∉ups l d):=hp
   clear hB k0 k1 k2 b0 b1 b2 b3 b4 hWW hS hp
   cases hb:belN l d x
   ·have HX:Hid (x∉ups l d):=by intro h;rw [bel_iff.2 h] at hb;exact absurd hb (by decide)
    gi_wp2_with (refine ⟨trivial,?_⟩;gi_at_call 41;refine (CallsIn.inRound lp (callsIn_wide.2 (below_any _ _ _ _ _ HT.out hd _ HLW.out))).mono ?_;rintro e W2 ⟨he,hg2⟩;rw [hb] at he;subst he)
    refine ⟨hg2.keeps,Below.mono hg2 HS.out,⟨fun y hy=>(List.mem_append.1 hy).elim (HP.out y) (fun e=>by simp at e;subst e;exact HX.out),hg2.boxed HK.out.1,hg2.boxed HK.out.2.1,hg2.boxed HK.out.2.2⟩,Nat.le_trans HS.out hg2.size,Bl.trans HB.out hg2⟩
   ·have HX:Hid (x∈ups l d):=bel_iff.1 hb
    gi_wp2_with (refine ⟨trivial,?_⟩;gi_at_call 41;refine (CallsIn.inRound lp (callsIn_wide.2 (below_any _ _ _ _ _ HT.out hd _ HLW.out))).mono ?_;rintro e W2 ⟨he,hg2⟩;rw [hb] at he;subst he;have m0:=(hg2.boxed HK.out.2.2).cell;have m1:=(hg2.boxed HK.out.2.2).frozen)
    exact ⟨hg2.keeps.trans (KeepsOthers.setCell _ _ _),⟨rfl,pre,x,rfl,HP.out,HX.out,(hg2.boxed HK.out.2.2).set _⟩,(Bl.trans HB.out hg2).setCell (p:=⟨w.heap.size+1+1,0,none⟩) (by simp;omega) _⟩
  case done =>
   rintro D ys W hD rfl ⟨⟨hne,_,_,_⟩,_,_⟩ hK
   exact absurd (ups_root HT.out d hd) (hne 0 (ups_root HT.out u hu))
  case stop =>
   rintro D c pre W hD hpre ⟨⟨rfl,pre',j,rfl,hne,hj,hcr⟩,hB⟩ hK
   obtain ⟨post,hpost⟩:=hpre
   have HJ:Hid (joinN l u d=j):=join_is (join_cut HT.out hu (pre:=pre') (post:=post) (by rw [←hpost];simp) hne hj)
   clear hpost
   gi_wp2
   refine ⟨by simp,.inl ⟨_,_,rfl,run_takeDeferred hK,?_⟩⟩
   have hc5:=cell_kept hcr.cell (grownBy_putObj' _ D (.deferred none)) (fun r e=>by cases e;exact ⟨_,hK,rfl⟩)
   refine ⟨.int .i64 (j:Nat),?_,by rw [HJ.out],hB.trans (belowK_b (w:=w) (Nat.le_refl _) W D _ _ (by omega) hK rfl rfl)⟩
   simp [results,Try.f23,go_sem,hc5]
end
structure Fut (w:World) where
 to:World
 is:Bl w to
theorem wp_region_fut {P:Program} {id:Nat} {Q:Exit→Act→World→Prop} {a:Act} {w:World} {l:List Oper} (hm:P.follows .mixedOrders=true) (hB:Region.lexB .any l.toArray=true)
  (h:Nonempty (Fut w)→wpQuiet P l.toArray (fun w'=>∃x:Fut w,w'=x.to) (fun a'=>∀w',(∃x:Fut w,w'=x.to)→Q .normal a' w') l a):(Code.region id l.toArray true).wp P Q a w :=
 wp_region_quiet (C:=fun w'=>∃x:Fut w,w'=x.to) hm hB ⟨⟨_,(Bl.refl w).drew⟩,rfl⟩ (by simpa using h ⟨⟨w,Bl.refl w⟩⟩)
theorem Calls.fut {P:Program} {f:FuncId} {args:Array Value} {w:World} {v:Value} (x:Fut w)
  (h:Calls P f args x.to fun e w'=>e=.returned v∧Bl x.to w'):Calls P f args x.to fun e w''=>e=.returned v∧∃y:Fut w,w''=y.to :=
 h.mono fun _ w'' ⟨he,hb⟩=>⟨he,⟨w'',x.is.trans hb⟩,rfl⟩
theorem Calls.fut_same {P:Program} {f:FuncId} {args:Array Value} {w:World} {v:Value} (x:Fut w)
  (h:Calls P f args x.to fun e w'=>e=.returned v∧w'=x.to):Calls P f args x.to fun e w''=>e=.returned v∧∃y:Fut w,w''=y.to :=
 h.mono fun _ _ ⟨he,hb⟩=>⟨he,x,hb⟩
theorem Calls.fut_eq {P:Program} {f:FuncId} {args:Array Value} {w:World} {v v':Value} (x:Fut w)
  (h:Calls P f args x.to fun e w'=>e=.returned v∧Bl x.to w') (hv:v=v'):Calls P f args x.to fun e w''=>e=.returned v'∧∃y:Fut w,w''=y.to :=
 hv▸Calls.fut x h
theorem Calls.fut_same_eq {P:Program} {f:FuncId} {args:Array Value} {w:World} {v v':Value} (x:Fut w)
  (h:Calls P f args x.to fun e w'=>e=.returned v∧w'=x.to) (hv:v=v'):Calls P f args x.to fun e w''=>e=.returned v'∧∃y:Fut w,w''=y.to :=
 hv▸Calls.fut_same x h
theorem fut_cell {w:World} {b o:Nat} {v:Value} (h:w.cell? ⟨b,o,none⟩=some v) (x:Fut w):x.to.cell? ⟨b,o,none⟩=some v:=x.is.cell h
structure HRd (w:World) (g:Mg) (h:Hp):Prop where
 A:w.cell? ⟨g.hb,0,none⟩=some (.slice g.A h.file.classes.length g.a)
 O:h.objs.length=0∨∃gb cap,w.cell? ⟨g.hb,1,none⟩=some (.slice (some ⟨gb,0,none⟩) h.objs.length cap)∧∀i,i<h.objs.length→w.cell? ⟨gb,i,none⟩=some (.int .i64 (nth ob0 h.objs i).cls)
 cls:ClsAt w g.A h.file.classes
 may:mayB h.file.classes=true
 few:h.objs.length≤100
theorem HRd.bl {w w':World} {g:Mg} {h:Hp} (H:HRd w g h) (hb:Bl w w'):HRd w' g h:=by
 refine ⟨hb.cell H.A,?_,H.cls.bl hb,H.may,H.few⟩
 rcases H.O with h0|⟨gb,cap,h1,h2⟩
 ·exact Or.inl h0
 ·exact Or.inr ⟨gb,cap,hb.cell h1,fun i hi=>hb.cell (h2 i hi)⟩
structure Fix (w0:World) (g:Mg) (h:Hp):Prop where
 cls:ClsAt w0 g.A h.file.classes
 mes:MesAt w0 g.M h.file.methods
 inp:IntsAt w0 g.I h.input
 may:mayB h.file.classes=true
theorem RH.rd {s:Nat} {w0 w:World} {g:Mg} {h:Hp} {qs:List Nat} {vc vo vx:Value} (H:RH s w0 g w h qs vc vo vx) (F:Fix w0 g h) (hf:h.objs.length≤100):HRd w g h:=by
 refine ⟨by rw [cell_blk H.hp];rfl,?_,F.cls.bl H.bl,F.may,hf⟩
 rcases H.obs.2 with ⟨h1,h0⟩|⟨gb,cap,cur,rfl,h2,h3,h4,h5,h6,h7⟩
 ·exact Or.inl h0
 ·refine Or.inr ⟨gb,cap,by rw [cell_blk H.hp];rfl,fun i hi=>?_⟩
  have e:(h.objs.map (fun o=>Value.int .i64 o.cls))[i]?=some (.int .i64 (nth ob0 h.objs i).cls):=by
   rw [List.getElem?_map,List.getElem?_eq_getElem hi,nth_get hi];rfl
  rw [←h7,List.getElem?_take,if_pos (by omega)] at e
  rw [cell_blk h3]
  simpa using e
theorem RX.rd {s:Nat} {X:Nat→Prop} {wx w0 w:World} {g:Mg} {h:Hp} {qs:List Nat} {a:Mc} {c:Cal} (H:RX s X wx w0 g w h qs a c) (F:Fix w0 g h) (hf:h.objs.length≤100):HRd w g h:=by
 obtain ⟨vc,vo,vx,vs,l,H⟩:=H
 exact H.rh.rd F hf
theorem nothing_any (w:World):Calls Try.prog 112 #[] w fun e w'=>e=.returned (mvV ⟨3,0⟩)∧Bl w w':=by
 go_enter Try.func112,Try.ntmps112
 go_wp2
 refine bodyPost_ret (results_cell_row rfl _ _ w.heap.size _ _ _ _ rfl (blk_new _ _ _) Try.underlying110 rfl info_mv) rfl ?_
 exact ⟨rfl,(Bl.refl w).alloc _⟩
def isN (u:Va):Bool:=decide (u.kind=3)&&decide (u.n=0)
theorem mv_fields:Try.prog.underlying 110=some (.struct (Try.prog.fieldsOf 110)):=by kernel_rfl
theorem mv_held:Try.prog.stoodInHeld 110=false:=by kernel_rfl
theorem mv_guard:Try.prog.eqGuardType Try.prog.depth 110=false:=by kernel_rfl
theorem eql_mv (a b c d:Int) (w:World):(binOp .eql 110 (.agg #[.int .i64 a,.int .i64 b]) (.agg #[.int .i64 c,.int .i64 d])).run Try.prog w=.ok (.bool (decide (a=c)&&decide (b=d))) w:=by
 rw [run_eql_struct,run_equalIn_agg w 9999 _ _ _ mv_fields mv_held]
 simp [go_sem,Try.underlying110,Try.underlying3,Try.underlying2]
 by_cases h1:a=c<;>by_cases h2:b=d<;>simp [h1,h2]
theorem isNothing_any (u:Va) (w:World):Calls Try.prog 89 #[mvV u] w fun e w'=>e=.returned (.bool (isN u))∧Bl w w':=by
 have HB:Hid (Bl w (w.alloc (.cells #[.int .i64 u.kind,.int .i64 u.n] 110))):=(Bl.refl w).alloc _
 have hq:=fun w=>eql_mv u.kind u.n 3 0 w
 go_enter Try.func89,Try.ntmps89
 go_wp2
 have x0:∀x:Fut (w.alloc (.cells #[.int .i64 u.kind,.int .i64 u.n] 110)),x.to.cell? ⟨w.heap.size,0,none⟩=some (.int .i64 u.kind):=fut_cell (cell_of_new rfl)
 have x1:∀x:Fut (w.alloc (.cells #[.int .i64 u.kind,.int .i64 u.n] 110)),x.to.cell? ⟨w.heap.size,1,none⟩=some (.int .i64 u.n):=fut_cell (cell_of_new rfl)
 refine wp_region_fut (by kernel_rfl) (by kernel_rfl) fun hne=>?_
 repeat (go_big_quiet_step ((go_at_call 112;exact Calls.fut_eq _ (nothing_any _) rfl)))
 refine wpQuiet_nil ?_
 rintro _ ⟨⟨w2,hw2⟩,rfl⟩
 clear x0 x1 hne
 go_wp2
 go_ret
 exact ⟨rfl,HB.out.trans hw2⟩
theorem classOf_any (g:Mg) (h:Hp) (n:Nat) (w:World) (R:HRd w g h) (hn:n<h.objs.length) :
  Calls Try.prog 100 #[.pointer (some ⟨g.hb,0,none⟩),mvV ⟨3,(n:Int)+1⟩] w fun e w'=>e=.returned (.int .i64 (nth ob0 h.objs n).cls)∧Bl w w':=by
 rcases R.O with h0|⟨gb,cap,h1,h2⟩
 ·omega
 have h3:=h2 n hn
 have hf:=R.few
 have hq:=cell_lt h1
 have hgb:=cell_lt h3
 have hw:IntKind.i64.wrap (n:Int)=(n:Int):=by rw [IntKind.wrap_i64];omega
 have hs:((n:Int)+1-1)=(n:Int):=by omega
 have hn0:(0:Int)≤(n:Int):=by omega
 have hn1:(n:Int)<(h.objs.length:Int):=by omega
 clear R h2
 go_enter Try.func100,Try.ntmps100
 go_wp2
 go_quiet (fail)
 go_wp2
 go_ret
 exact ⟨rfl,by repeat (first|exact Bl.refl _|apply Bl.drew|apply bl_drewN|apply Bl.alloc)⟩
theorem isN_yes {v:Va} (hk:v.kind=3) (hv:v.n=-1):isN (im v)=true:=by rw [im_ref hk,hv];rfl
theorem isN_no {v:Va} (hk:v.kind=3) (hv:0≤v.n):isN (im v)=false:=by
 rw [im_ref hk]
 have:¬v.n+1=0:=by omega
 simp [isN,this]
theorem belI_V {l:List Cl} (h:mayB l=true) (x y:Int):belV l x y=belI l x y:=by unfold belV belI;rw [h,Bool.true_and]
set_option maxRecDepth 100000 in
theorem mbelow_yes (g:Mg) (h:Hp) (v:Va) (c:Int) (w:World) (R:HRd w g h) (hk:v.kind=3) (hv:0≤v.n) (hn:v.n<h.objs.length) :
  Calls Try.prog 121 #[.pointer (some ⟨g.hb,0,none⟩),mvV (im v),.int .i64 c] w fun e w'=>e=.returned (.bool (belI h.file.classes (h.obj v.n).cls c))∧Bl w w':=by
 have HN:Hid (isN (im v)=false):=isN_no hk hv
 obtain ⟨n,hn'⟩:∃n:Nat,v.n=n:=⟨v.n.toNat,by omega⟩
 have hnl:n<h.objs.length:=by omega
 have ho:h.obj v.n=nth ob0 h.objs n:=by unfold Hp.obj;rw [hn',Int.toNat_natCast]
 have e:im v=⟨3,(n:Int)+1⟩:=by rw [im_ref hk,hn']
 rw [ho]
 rw [e] at HN ⊢
 generalize hU:(n:Int)+1=u at HN
 have HB:Hid (Bl w (w.alloc (.cells #[.int .i64 3,.int .i64 u] 110))):=(Bl.refl w).alloc _
 have HR:Hid (HRd (w.alloc (.cells #[.int .i64 3,.int .i64 u] 110)) g h):=R.bl HB.out
 have x2:∀x:Fut (w.alloc (.cells #[.int .i64 3,.int .i64 u] 110)),x.to.cell? ⟨g.hb,0,none⟩=some (.slice g.A h.file.classes.length g.a):=fut_cell HR.out.A
 have HU:Hid ((n:Int)+1=u):=hU
 obtain ⟨O,hO⟩:∃O,(nth ob0 h.objs n).cls=O:=⟨_,rfl⟩
 have HO:Hid ((nth ob0 h.objs n).cls=O):=hO
 rw [hO]
 have HV:Hid (belV h.file.classes O c=belI h.file.classes O c):=belI_V R.may O c
 obtain ⟨z,hz⟩:∃z,belI h.file.classes O c=z:=⟨_,rfl⟩
 rw [hz] at HV ⊢
 clear R hk hv hn hn' ho e hU hO hz
 go_enter Try.func121,Try.ntmps121
 go_wp2
 have x0:∀x:Fut (w.alloc (.cells #[.int .i64 3,.int .i64 u] 110)),x.to.cell? ⟨w.heap.size,0,none⟩=some (.int .i64 3):=fut_cell (cell_of_new rfl)
 have x1:∀x:Fut (w.alloc (.cells #[.int .i64 3,.int .i64 u] 110)),x.to.cell? ⟨w.heap.size,1,none⟩=some (.int .i64 u):=fut_cell (cell_of_new rfl)
 refine wp_region_fut (by kernel_rfl) (by kernel_rfl) fun hne=>?_
 repeat (go_big_quiet_step ((first
  | (go_at_call 89;exact Calls.fut_eq _ (isNothing_any ⟨3,u⟩ _) (congrArg Value.bool HN.out))
  | (go_at_call 100;rename_i xx;have hcc:=classOf_any g h n xx.to (HR.out.bl xx.is) hnl;rw [HU.out,HO.out] at hcc;exact Calls.fut_eq _ hcc rfl)
  | (go_at_call 22;rename_i xx;exact Calls.fut_eq _ (hbelow_any _ _ _ _ _ _ (HR.out.cls.bl xx.is)) (congrArg Value.bool HV.out)))))
 refine wpQuiet_nil ?_
 rintro _ ⟨⟨w2,hw2⟩,rfl⟩
 clear x0 x1 x2 hne
 go_wp2
 go_ret
 exact ⟨rfl,HB.out.trans hw2⟩
end Go.Proofs.Ytimjmdfokicbkaa
