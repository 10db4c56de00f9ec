import Derived.Test.YtgiiapenmjollabGreatRsac
import Derived.Test.YtgiiapenmjollabGreatChecked
import Derived.Handy
import Derived.WalkKit
import Derived.RowKit3
import Derived.Below
namespace Go.Proofs.YtgiiapenmjollabGreat
set_option linter.all false
set_option maxHeartbeats 40000000
set_option maxRecDepth 100000
open Go.RowKit
theorem rbelow_any (A:Option Addr) (c:Nat) (l:List Cl) (x y:Int) (w:World) (hl:ClsAt w A l) (ht:Tree l) :
  Calls Tryz.prog 160 #[.slice A l.length c,.int .i64 x,.int .i64 y] w fun e w'=>e=.returned (.bool (clsI l x y&&belN l x.toNat y.toNat))∧w'=w:=by
 obtain ⟨hm,hl⟩:=hl
 unfold maxLen at hm
 by_cases hin:0≤x∧x<l.length∧0≤y∧y<l.length
 ·have hI:clsI l x y=true:=decide_eq_true hin
  rw [hI,Bool.true_and]
  clear hI
  obtain ⟨h1,h2,h3,h4⟩:=hin
  obtain ⟨u,rfl⟩:=Int.eq_ofNat_of_zero_le h1
  obtain ⟨d,rfl⟩:=Int.eq_ofNat_of_zero_le h3
  simp only [Int.toNat_natCast]
  have HT:Hid (Tree l):=ht
  rcases hl with hl|⟨b,off,rfl,hc⟩
  ·omega
  have hu:u<l.length:=by omega
  have hd:d<l.length:=by omega
  clear ht
  go_enter Tryz.func160,Tryz.ntmps160
  go_wp2
  go_loop [1] (fun i=>∃k:Nat,i=.int .i64 k∧k<l.length∧Hid (belN l u d=belN l k d)) (fun i=>(intOf i).toNat)
  case atStart=>exact ⟨u,rfl,hu,rfl⟩
  case round =>
   obtain ⟨k,rfl,hk,hb⟩:=hrel
   by_cases hlt:d<k
   ·have hsup:=(hc k hk).1
    rw [super_par HT.out (by omega) hk] at hsup
    have hp:=par_lt HT.out (by omega) hk
    have hs:=bel_step HT.out hk hlt
    have HS:Hid (belN l u d=belN l (par l k) d):=hb.out.trans hs
    clear hc hs hb
    go_wp2
    go_round
    case rel=>exact ⟨par l k,rfl,by omega,HS⟩
    case measure=>simp [intOf];omega
   ·have HS:Hid (belN l u d=decide (k=d)):=by
     refine hb.out.trans ?_
     by_cases he:k=d
     ·subst he;rw [bel_self,decide_eq_true rfl]
     ·rw [bel_low HT.out hk (by omega),decide_eq_false he]
    clear hc hb
    go_wp2
    go_ret
    refine ⟨ret_bool ?_,rfl⟩
    rw [HS.out,Bool.eq_iff_iff];simp;omega
 ·have hI:clsI l x y=false:=decide_eq_false hin
  rw [hI,Bool.false_and]
  clear hI hl ht
  go_enter Tryz.func160,Tryz.ntmps160
  go_wp2
  all_goals first
   | (go_ret;exact ⟨rfl,rfl⟩)
   | (exfalso;omega)
section
open Go.RowKit Go.Shelf
attribute [local go_sem] Oper.semAt_some
theorem below_any (A:Option Addr) (c:Nat) (l:List Cl) (u d:Nat) (ht:Tree l) (hu:u<l.length) (w:World) (hl:ClsAt w A l) :
  Calls Tryz.prog 302 #[.slice A l.length c,.int .i64 u,.int .i64 d] w fun e w'=>e=.returned (.bool (belN l u d))∧Bl w w':=by
 have HT:Hid (Tree l):=ht
 have HL:Hid (ClsAt w A l):=hl
 clear ht hl
 refine (callsIn_wide (n:=3)).1 ?_
 refine callsIn_of_wp_marks Tryz.func302 rfl trivial ?_ rfl
 simp only [Tryz.ntmps302,List.size_toArray,List.length_cons,List.length_nil,Nat.reduceAdd,Nat.reduceSub,Array.replicate_succ,Array.replicate_zero,List.push_toArray,List.append_toArray,List.nil_append,List.cons_append]
 gi_wp2_with (refine ⟨trivial,?_⟩;gi_at_call 304;refine (callsIn_wide.2 (upward_any _ _ _ _ _)).mono ?_;rintro e w' ⟨rfl,rfl⟩)
 have c0:=Boxed.new w 3 (.int .i64 (d:Int))
 have c1:=Boxed.new (w.alloc (.cells #[.int .i64 (d:Int)] 3)) 4 (.bool false)
 have c2:=Boxed.new ((w.alloc (.cells #[.int .i64 (d:Int)] 3)).alloc (.cells #[.bool false] 4)) 22 (.slice A l.length c)
 have c3:=Boxed.new (((w.alloc (.cells #[.int .i64 (d:Int)] 3)).alloc (.cells #[.bool false] 4)).alloc (.cells #[.slice A l.length c] 22)) 3 (.int .i64 (u:Int))
 simp only [World.size_alloc] at c1 c2 c3
 have hB0:Bl w ((((w.alloc (.cells #[.int .i64 (d:Int)] 3)).alloc (.cells #[.bool false] 4)).alloc (.cells #[.slice A l.length c] 22)).alloc (.cells #[.int .i64 (u:Int)] 3)):=((((Bl.refl w).alloc _).alloc _).alloc _).alloc _
 refine wpIn_rangeFunc_ownF (F:=Fence.wide) rfl (by omega) (gf:=315) (lb:=#[.pointer (some ⟨w.heap.size+1+1+1,0,none⟩),.pointer (some ⟨w.heap.size+1+1,0,none⟩)]) rfl trivial (enters_of Tryz.func315 (by kernel_rfl) rfl)
  (up_stops _ (by omega) (w.heap.size+1+1+1) (w.heap.size+1+1) A c l u HT.out hu _ (HL.out.bl hB0) c3.cell (c2.alloc _).cell) belowK_t (belowK_b (Nat.le_refl _)) (Below.refl _ _) (fun _=>rfl)
  (fun pre W=>((∀y∈pre,y≠d)∧Boxed W w.heap.size 3 (.int .i64 (d:Int))∧Boxed W (w.heap.size+1) 4 (.bool false))∧Below w.heap.size w W)
  (fun c pre W=>(c=.ret∧d∈pre∧Boxed W (w.heap.size+1) 4 (.bool true))∧Below w.heap.size w W)
  (OwnFrom.and (Own.from (fun s X Y row hs hg hr=>⟨hs.1,boxed_own _ _ (fun _=>_) s X Y row hs.2.1 hg hr,boxed_own _ _ (fun _=>_) s X Y row hs.2.2 hg hr⟩) _) (ownFrom_below (Nat.le_refl _) hB0.size))
  (fun c=>OwnFrom.and (Own.from (fun s X Y row hs hg hr=>⟨hs.1,hs.2.1,boxed_own _ _ (fun _=>_) s X Y row hs.2.2 hg hr⟩) _) (ownFrom_below (Nat.le_refl _) hB0.size))
  ⟨⟨by simp,((c0.alloc _).alloc _).alloc _,(c1.alloc _).alloc _⟩,hB0⟩
  (fun x=>{ tmps:=#[.slice A l.length c,.int .i64 u,.int .i64 d,undef,undef,.pointer (some ⟨w.heap.size,0,none⟩),.pointer (some ⟨w.heap.size+1,0,none⟩),.int .i64 (x:Int),.slice A l.length c,.int .i64 u,
   .func (.func 315) #[] #[.pointer (some ⟨w.heap.size+1+1+1,0,none⟩),.pointer (some ⟨w.heap.size+1+1,0,none⟩)],.int .i64 (x:Int),undef,undef,undef],defers:=[] }) ?assign ?body ?done ?stop
 case assign =>
  intro l x W K hK
  gi_wp2
  exact hK
 case body =>
  rintro lp pre x W ⟨⟨hp,hcw,hcr⟩,hB⟩ _
  have h1:=hcw.cell
  have h2:=hcr.cell
  have h3:=hcr.frozen
  have HB:Hid (Below w.heap.size w W):=hB
  have HC:Hid (Boxed W (w.heap.size+1) 4 (.bool false)):=hcr
  have HW:Hid (Boxed W w.heap.size 3 (.int .i64 (d:Int))):=hcw
  clear hB hcr hcw c0 c1 c2 c3 hB0
  by_cases hx:x=d
  ·subst hx
   gi_wp2
   exact ⟨KeepsOthers.setCell _ _ _,⟨rfl,List.mem_append.2 (.inr (by simp)),HC.out.set _⟩,HB.out.setCell (p:=⟨w.heap.size+1,0,none⟩) (by simp) _⟩
  ·have hx':((x:Int)==(d:Int))=false:=by simp;omega
   gi_wp2
   exact ⟨KeepsOthers.refl _,Below.refl _ _,⟨fun y hy=>(List.mem_append.1 hy).elim (hp y) (fun e=>by simp at e;subst e;exact hx),HW,HC⟩,HB⟩
 case done =>
  rintro D ys W hD rfl ⟨⟨hne,_,hcr⟩,hB⟩ hK
  have h2:=hcr.cell
  have h3:=hcr.frozen
  gi_wp2
  have hK':=(KeepsOthers.setCell W ⟨w.heap.size+1,0,none⟩ (.bool false)).same D _ hK rfl
  refine ⟨by simp,.inl ⟨_,_,rfl,run_takeDeferred hK',?_⟩⟩
  have hc5:=cell_kept (hcr.set (.bool false)).cell (grownBy_putObj' _ D (.deferred none)) (fun r e=>by cases e;exact ⟨_,hK',rfl⟩)
  refine ⟨.bool false,?_,by rw [show belN l u d=false from decide_eq_false (fun h=>hne d h rfl)],(hB.setCell (p:=⟨w.heap.size+1,0,none⟩) (by simp) _).trans (belowK_b (w:=w) (Nat.le_refl _) _ D _ _ (by simp at hD;omega) hK' rfl rfl)⟩
  simp [results,Tryz.f302,go_sem,hc5]
 case stop =>
  rintro D c pre W hD hpre ⟨⟨rfl,hin,hcr⟩,hB⟩ hK
  gi_wp2
  refine ⟨by simp,.inl ⟨_,_,rfl,run_takeDeferred hK,?_⟩⟩
  have hc5:=cell_kept hcr.cell (grownBy_putObj' _ D (.deferred none)) (fun r e=>by cases e;exact ⟨_,hK,rfl⟩)
  refine ⟨.bool true,?_,by rw [bel_iff.2 (hpre.subset hin)],hB.trans (belowK_b (w:=w) (Nat.le_refl _) W D _ _ (by simp at hD;omega) hK rfl rfl)⟩
  simp [results,Tryz.f302,go_sem,hc5]
end
section
open Go.RowKit Go.Shelf
attribute [local go_sem] Oper.semAt_some
theorem Bl.boxed {W W':World} (h:Bl W W') {B:Nat} {t:TypeId} {v:Value} (hb:Boxed W B t v):Boxed W' B t v:=(Below.block h B hb.lt).trans hb
theorem Bl.keeps {W W':World} (h:Bl W W'):KeepsOthers W W':=⟨h.size,fun i _ hi _=>(Below.block h i (Array.getElem?_eq_some_iff.1 hi).1).trans hi⟩
end
section
open Go.RowKit Go.Shelf
attribute [local go_sem] Oper.semAt_some
theorem join_any (A:Option Addr) (c:Nat) (l:List Cl) (u d:Nat) (ht:Tree l) (hu:u<l.length) (hd:d<l.length) (w:World) (hl:ClsAt w A l) :
  Calls Tryz.prog 272 #[.slice A l.length c,.int .i64 (u:Int),.int .i64 (d:Int)] w fun e w'=>e=.returned (.int .i64 ((joinN l u d:Nat):Int))∧Bl w w':=by
 have HL:Hid (ClsAt w A l):=hl
 clear hl
 have b0:=Boxed.new w 22 (.slice A l.length c)
 have b1:=Boxed.new (w.alloc (.cells #[.slice A l.length c] 22)) 3 (.int .i64 (d:Int))
 have b2:=Boxed.new ((w.alloc (.cells #[.slice A l.length c] 22)).alloc (.cells #[.int .i64 (d:Int)] 3)) 3 (.int .i64 0)
 simp only [World.size_alloc] at b1 b2
 have HB0:Hid (Boxed (((w.alloc (.cells #[.slice A l.length c] 22)).alloc (.cells #[.int .i64 (d:Int)] 3)).alloc (.cells #[.int .i64 0] 3)) w.heap.size 22 (.slice A l.length c)):=(b0.alloc _).alloc _
 have HB1:Hid (Boxed (((w.alloc (.cells #[.slice A l.length c] 22)).alloc (.cells #[.int .i64 (d:Int)] 3)).alloc (.cells #[.int .i64 0] 3)) (w.heap.size+1) 3 (.int .i64 (d:Int))):=b1.alloc _
 have HB2:Hid (Boxed (((w.alloc (.cells #[.slice A l.length c] 22)).alloc (.cells #[.int .i64 (d:Int)] 3)).alloc (.cells #[.int .i64 0] 3)) (w.heap.size+1+1) 3 (.int .i64 0)):=b2
 clear b0 b1 b2
 have HW:Hid (Bl w (((w.alloc (.cells #[.slice A l.length c] 22)).alloc (.cells #[.int .i64 (d:Int)] 3)).alloc (.cells #[.int .i64 0] 3))):=(((Bl.refl w).alloc _).alloc _).alloc _
 refine (callsIn_wide (n:=3)).1 ?_
 refine callsIn_of_wp_marks Tryz.func272 rfl trivial ?_ rfl
 simp only [Tryz.ntmps272,List.size_toArray,List.length_cons,List.length_nil,Nat.reduceAdd,Nat.reduceSub,Array.replicate_succ,Array.replicate_zero,List.push_toArray,List.append_toArray,List.nil_append,List.cons_append]
 have HT:Hid (Tree l):=ht
 clear ht
 gi_wp2_with (refine ⟨trivial,?_⟩;gi_at_call 304;refine (callsIn_wide.2 (upward_any _ _ _ _ _)).mono ?_;rintro e w' ⟨rfl,rfl⟩)
 have s3:(((w.alloc (.cells #[.slice A l.length c] 22)).alloc (.cells #[.int .i64 (d:Int)] 3)).alloc (.cells #[.int .i64 0] 3)).heap.size=w.heap.size+1+1+1:=by simp
 have b0:=(HB0.out.alloc (.cells #[.slice A l.length c] 22)).alloc (.cells #[.int .i64 (u:Int)] 3)
 have b1:=(HB1.out.alloc (.cells #[.slice A l.length c] 22)).alloc (.cells #[.int .i64 (u:Int)] 3)
 have b2:=(HB2.out.alloc (.cells #[.slice A l.length c] 22)).alloc (.cells #[.int .i64 (u:Int)] 3)
 have b3:=(Boxed.new (((w.alloc (.cells #[.slice A l.length c] 22)).alloc (.cells #[.int .i64 (d:Int)] 3)).alloc (.cells #[.int .i64 0] 3)) 22 (.slice A l.length c)).alloc (.cells #[.int .i64 (u:Int)] 3)
 have b4:=Boxed.new ((((w.alloc (.cells #[.slice A l.length c] 22)).alloc (.cells #[.int .i64 (d:Int)] 3)).alloc (.cells #[.int .i64 0] 3)).alloc (.cells #[.slice A l.length c] 22)) 3 (.int .i64 (u:Int))
 rw [World.size_alloc,s3] at b4
 rw [s3] at b3
 have hWW:Bl w (((((w.alloc (.cells #[.slice A l.length c] 22)).alloc (.cells #[.int .i64 (d:Int)] 3)).alloc (.cells #[.int .i64 0] 3)).alloc (.cells #[.slice A l.length c] 22)).alloc (.cells #[.int .i64 (u:Int)] 3)):=(HW.out.alloc _).alloc _
 have hsz0:w.heap.size+1+1+1≤(((((w.alloc (.cells #[.slice A l.length c] 22)).alloc (.cells #[.int .i64 (d:Int)] 3)).alloc (.cells #[.int .i64 0] 3)).alloc (.cells #[.slice A l.length c] 22)).alloc (.cells #[.int .i64 (u:Int)] 3)).heap.size:=by simp
 obtain ⟨W0,hW0⟩:∃W0,((((w.alloc (.cells #[.slice A l.length c] 22)).alloc (.cells #[.int .i64 (d:Int)] 3)).alloc (.cells #[.int .i64 0] 3)).alloc (.cells #[.slice A l.length c] 22)).alloc (.cells #[.int .i64 (u:Int)] 3)=W0:=⟨_,rfl⟩
 rw [hW0] at b0 b1 b2 b3 b4 hWW hsz0 ⊢
 clear hW0 HB0 HB1 HB2 HW s3
 refine wpIn_rangeFunc_ownF (F:=Fence.wide) rfl (by omega) (gf:=315) (lb:=#[.pointer (some ⟨w.heap.size+1+1+1+1,0,none⟩),.pointer (some ⟨w.heap.size+1+1+1,0,none⟩)]) rfl trivial (enters_of Tryz.func315 (by kernel_rfl) rfl)
  (up_stops _ (by omega) (w.heap.size+1+1+1+1) (w.heap.size+1+1+1) A c l u HT.out hu W0 (HL.out.bl hWW) b4.cell b3.cell) belowK_t (belowK_b (Nat.le_refl _)) (Below.refl _ _) (fun _=>rfl)
  (fun pre W=>((∀y∈pre,y∉ups l d)∧Boxed W w.heap.size 22 (.slice A l.length c)∧Boxed W (w.heap.size+1) 3 (.int .i64 (d:Int))∧Boxed W (w.heap.size+1+1) 3 (.int .i64 0))∧(W0.heap.size≤W.heap.size)∧Below w.heap.size w W)
  (fun c pre W=>(c=.ret∧∃pre' j,pre=pre'++[j]∧(∀y∈pre',y∉ups l d)∧j∈ups l d∧Boxed W (w.heap.size+1+1) 3 (.int .i64 (j:Nat)))∧Below w.heap.size w W)
  (OwnFrom.and (Own.from (fun s X Y row hs hg hr=>⟨hs.1,boxed_own _ _ (fun _=>_) s X Y row hs.2.1 hg hr,boxed_own _ _ (fun _=>_) s X Y row hs.2.2.1 hg hr,boxed_own _ _ (fun _=>_) s X Y row hs.2.2.2 hg hr⟩) _)
   (OwnFrom.and (fun _ _ _ _ hs hg _=>Nat.le_trans hs hg.size) (ownFrom_below (Nat.le_refl _) hWW.size)))
  (fun c=>OwnFrom.and (Own.from (fun s X Y row hs hg hr=>by
   obtain ⟨h1,p,j,h2,h3,h4,h5⟩:=hs
   exact ⟨h1,p,j,h2,h3,h4,boxed_own _ _ (fun _=>_) s X Y row h5 hg hr⟩) _) (ownFrom_below (Nat.le_refl _) hWW.size))
  ⟨⟨by simp,b0,b1,b2⟩,Nat.le_refl _,hWW⟩
  (fun x=>{ tmps:=#[.slice A l.length c,.int .i64 u,.int .i64 d,.pointer (some ⟨w.heap.size,0,none⟩),undef,.pointer (some ⟨w.heap.size+1,0,none⟩),.pointer (some ⟨w.heap.size+1+1,0,none⟩),.int .i64 (x:Int),.slice A l.length c,.int .i64 u,.func (.func 315) #[] #[.pointer (some ⟨w.heap.size+1+1+1+1,0,none⟩),.pointer (some ⟨w.heap.size+1+1+1,0,none⟩)],.int .i64 (x:Int),undef,undef,undef,undef,undef],defers:=[] }) ?assign ?body ?done ?stop
 case assign =>
  intro l x W K hK
  gi_wp2
  exact hK
 case body =>
  rintro lp pre x W ⟨⟨hp,k0,k1,k2⟩,hS,hB⟩ _
  have h0:=k0.cell
  have h1:=k1.cell
  have h2:=k2.cell
  have h3:=k2.frozen
  have HB:Hid (Below w.heap.size w W):=hB
  have HK:Hid (Boxed W w.heap.size 22 (.slice A l.length c)∧Boxed W (w.heap.size+1) 3 (.int .i64 (d:Int))∧Boxed W (w.heap.size+1+1) 3 (.int .i64 0)):=⟨k0,k1,k2⟩
  have HLW:Hid (ClsAt W A l):=HL.out.bl hB
  have HS:Hid (W0.heap.size≤W.heap.size):=hS
  have HP:Hid (∀y∈pre,y∉ups l d):=hp
  clear hB k0 k1 k2 b0 b1 b2 b3 b4 hWW hS hp
  cases hb:belN l d x
  ·have HX:Hid (x∉ups l d):=by intro h;rw [bel_iff.2 h] at hb;exact absurd hb (by decide)
   gi_wp2_with (refine ⟨trivial,?_⟩;gi_at_call 302;refine (CallsIn.inRound lp (callsIn_wide.2 (below_any _ _ _ _ _ HT.out hd _ HLW.out))).mono ?_;rintro e W2 ⟨he,hg2⟩;rw [hb] at he;subst he)
   refine ⟨hg2.keeps,Below.mono hg2 HS.out,⟨fun y hy=>(List.mem_append.1 hy).elim (HP.out y) (fun e=>by simp at e;subst e;exact HX.out),hg2.boxed HK.out.1,hg2.boxed HK.out.2.1,hg2.boxed HK.out.2.2⟩,Nat.le_trans HS.out hg2.size,Bl.trans HB.out hg2⟩
  ·have HX:Hid (x∈ups l d):=bel_iff.1 hb
   gi_wp2_with (refine ⟨trivial,?_⟩;gi_at_call 302;refine (CallsIn.inRound lp (callsIn_wide.2 (below_any _ _ _ _ _ HT.out hd _ HLW.out))).mono ?_;rintro e W2 ⟨he,hg2⟩;rw [hb] at he;subst he;have m0:=(hg2.boxed HK.out.2.2).cell;have m1:=(hg2.boxed HK.out.2.2).frozen)
   exact ⟨hg2.keeps.trans (KeepsOthers.setCell _ _ _),⟨rfl,pre,x,rfl,HP.out,HX.out,(hg2.boxed HK.out.2.2).set _⟩,(Bl.trans HB.out hg2).setCell (p:=⟨w.heap.size+1+1,0,none⟩) (by simp;omega) _⟩
 case done =>
  rintro D ys W hD rfl ⟨⟨hne,_,_,_⟩,_,_⟩ hK
  exact absurd (ups_root HT.out d hd) (hne 0 (ups_root HT.out u hu))
 case stop =>
  rintro D c pre W hD hpre ⟨⟨rfl,pre',j,rfl,hne,hj,hcr⟩,hB⟩ hK
  obtain ⟨post,hpost⟩:=hpre
  have HJ:Hid (joinN l u d=j):=join_is (join_cut HT.out hu (pre:=pre') (post:=post) (by rw [←hpost];simp) hne hj)
  clear hpost
  gi_wp2
  refine ⟨by simp,.inl ⟨_,_,rfl,run_takeDeferred hK,?_⟩⟩
  have hc5:=cell_kept hcr.cell (grownBy_putObj' _ D (.deferred none)) (fun r e=>by cases e;exact ⟨_,hK,rfl⟩)
  refine ⟨.int .i64 (j:Nat),?_,by rw [HJ.out],hB.trans (belowK_b (w:=w) (Nat.le_refl _) W D _ _ (by omega) hK rfl rfl)⟩
  simp [results,Tryz.f272,go_sem,hc5]
end
section
open Go.RowKit (wrap32 wrap64)
theorem narrow_any (a:Int) (w:World) :
  Calls Tryz.prog 149 #[.int .i64 a] w fun e w'=>e=.returned (.int .i64 (wrap32 a))∧w'=w:=by
 go_enter Tryz.func149,Tryz.ntmps149
 go_wp2
 go_ret
 exact ⟨ret_i (w64_w32 a),rfl⟩
end
theorem ret_ib {k:IntKind} {a b:Int} {x y:Bool} (h:a=b) (h':x=y):Ending.returned (.tuple #[.int k a,.bool x])=.returned (.tuple #[.int k b,.bool y]):=by rw [h,h']
theorem ret_b {x y:Bool} (h:x=y):Ending.returned (.bool x)=.returned (.bool y):=by rw [h]
theorem rcmp_any (a b:Int) (w:World) :
  Calls Tryz.prog 229 #[.int .i64 a,.int .i64 b] w fun e w'=>e=.returned (.int .i64 (cmpV a b))∧w'=w:=by
 unfold cmpV
 by_cases h:a<b
 ·rw [if_pos h]
  go_enter Tryz.func229,Tryz.ntmps229
  go_wp2
  go_ret
  exact ⟨rfl,rfl⟩
 by_cases h':b<a
 ·rw [if_neg h,if_pos h']
  go_enter Tryz.func229,Tryz.ntmps229
  go_wp2
  go_ret
  exact ⟨rfl,rfl⟩
 ·rw [if_neg h,if_neg h']
  go_enter Tryz.func229,Tryz.ntmps229
  go_wp2
  go_ret
  exact ⟨rfl,rfl⟩
theorem bit_round (a:Int) (i:Nat) (hlo:-9223372036854775808≤a) (hhi:a≤9223372036854775807) :
  -9223372036854775808≤a/2 ^ i∧a/2 ^ i≤9223372036854775807:=by
 have hp:(0:Int)<2 ^ i:=Int.pow_pos (by omega)
 constructor
 ·rw [Int.le_ediv_iff_mul_le hp]
  have:(1:Int)≤2 ^ i:=by omega
  have:=Int.mul_le_mul_of_nonpos_left (a:=(-9223372036854775808:Int)) (by omega) this
  omega
 ·by_cases h:0≤a
  ·have:=Int.ediv_le_self (2 ^ i) h;omega
  ·have:=Int.ediv_neg_of_neg_of_pos (by omega:a<0) hp;omega
theorem bne_iff' (n:Int):(n.tmod 2 !=0)=decide (n%2=1):=by
 have:=tmod2 n
 by_cases h:n%2=1
 ·have h':n.tmod 2≠0:=by omega
  simp [h,h']
 ·have h':n.tmod 2=0:=by omega
  simp [h,h']
theorem bit_any (a:Int) (k:Nat) (w:World) (hlo:-9223372036854775808≤a) (hhi:a≤9223372036854775807) (hk:k≤64) :
  Calls Tryz.prog 322 #[.int .i64 a,.int .i64 (k:Int)] w fun e w'=>e=.returned (.bool (bitB a k))∧w'=w:=by
 go_enter Tryz.func322,Tryz.ntmps322
 go_wp2
 go_loop [0,5] (fun n i=>∃j:Nat,j≤k∧i=.int .i64 j∧n=.int .i64 (a/2 ^ j)) (fun _ i=>k-(intOf i).toNat)
 case atStart=>exact ⟨0,Nat.zero_le _,rfl,by simp⟩
 case round =>
  obtain ⟨j,hj,rfl,rfl⟩:=hrel
  have hb:=bit_round a j hlo hhi
  have hs:=div_pow_succ a j
  have HS:Hid (a/2 ^ (j+1)=a/2 ^ j/2):=hs
  clear hs
  have hbit:Hid (bitB a j=decide (a/2 ^ j%2=1)):=rfl
  obtain ⟨n,hn⟩:∃n,a/2 ^ j=n:=⟨_,rfl⟩
  rw [hn] at hb HS hbit
  simp only [hn]
  have ht:=tmod2 n
  have hh:=half_even n
  by_cases hlt:j<k
  ·by_cases hneg:n.tmod 2<0
   ·have h2:=ht.2.1 hneg
    go_wp2
    go_round
    case rel=>exact ⟨j+1,by omega,by go_num,by rw [HS.out,←hh,h2.2]⟩
    case measure=>simp [intOf];omega
   ·go_wp2
    go_round
    case rel=>exact ⟨j+1,by omega,by go_num,by rw [HS.out,←hh,ht.1 (by omega)]⟩
    case measure=>simp [intOf];omega
  ·have:j=k:=by omega
   subst this
   go_wp2
   go_ret
   exact ⟨ret_b (by rw [hbit.out,bne_iff' n]),rfl⟩
theorem bits_next (f:Nat→Bool) (j:Nat):wrap64 (sumB f (j+1):Nat)=if f j=true then wrap64 (wrap64 (sumB f j:Nat)+wrap64 ((2:Int) ^ j)) else wrap64 (sumB f j:Nat):=by
 by_cases h:f j=true
 ·rw [if_pos h,w64_add];simp [sumB,h]
 ·rw [if_neg h];simp [sumB,h]
theorem pow_step (j:Nat):wrap64 (wrap64 ((2:Int) ^ j)+wrap64 ((2:Int) ^ j))=wrap64 ((2:Int) ^ (j+1)):=by
 rw [w64_add,Int.pow_succ];congr 1;omega
theorem bits_any (op a b:Int) (w:World) (ho:op=6∨op=7∨op=8) (hlo:-9223372036854775808≤a) (hhi:a≤9223372036854775807) (hlo':-9223372036854775808≤b) (hhi':b≤9223372036854775807) :
  Calls Tryz.prog 310 #[.int .i64 op,.int .i64 a,.int .i64 b] w fun e w'=>e=.returned (.int .i64 (wrap64 (sumB (fun i=>opB op (bitB a i) (bitB b i)) 64:Nat)))∧w'=w:=by
 go_enter Tryz.func310,Tryz.ntmps310
 go_wp2
 go_loop [7,8,9] (fun n p i=>∃j:Nat,j≤64∧i=.int .i64 j∧p=.int .i64 (wrap64 (2 ^ j))∧n=.int .i64 (wrap64 (sumB (fun i=>opB op (bitB a i) (bitB b i)) j:Nat))) (fun _ _ i=>64-(intOf i).toNat)
 case atStart=>exact ⟨0,Nat.zero_le _,rfl,by simp [wrap64],by simp [sumB,wrap64]⟩
 case round =>
  obtain ⟨j,hj,rfl,rfl,rfl⟩:=hrel
  have hps:Hid (wrap64 (wrap64 ((2:Int) ^ j)+wrap64 ((2:Int) ^ j))=wrap64 ((2:Int) ^ (j+1))):=pow_step j
  have HT:Hid (wrap64 (sumB (fun i=>opB op (bitB a i) (bitB b i)) (j+1):Nat)=if opB op (bitB a j) (bitB b j)=true then wrap64 (wrap64 (sumB (fun i=>opB op (bitB a i) (bitB b i)) j:Nat)+wrap64 ((2:Int) ^ j)) else wrap64 (sumB (fun i=>opB op (bitB a i) (bitB b i)) j:Nat)):=bits_next (fun i=>opB op (bitB a i) (bitB b i)) j
  by_cases hlt:j<64
  ·rcases ho with rfl|rfl|rfl<;>cases hx:bitB a j<;>cases hy:bitB b j
   all_goals
    go_wp2_with (go_at_call 322;refine (bit_any _ _ _ (by omega) (by omega) (by omega)).mono ?_;rintro e w' ⟨rfl,rfl⟩)
    go_round
    case rel=>exact ⟨j+1,by omega,by go_num,by rw [←hps.out],by rw [HT.out];simp [opB,hx,hy]⟩
    case measure=>simp [intOf];omega
  ·have:j=64:=by omega
   subst this
   go_wp2
   go_ret
   exact ⟨rfl,rfl⟩
theorem rnarrow_any (a:Int) (w:World) :
  Calls Tryz.prog 80 #[.int .i64 a] w fun e w'=>e=.returned (.int .i64 (wrap32 a))∧w'=w:=by
 have h:=ref_narrow a
 have hb:=tmod32_bd a
 by_cases h1:a.tmod 4294967296<0
 ·by_cases h2:a.tmod 4294967296+4294967296≥2147483648
  ·have HE:Hid (wrap32 a=a.tmod 4294967296+4294967296-4294967296):=h.1 h1 h2
   clear h
   go_enter Tryz.func80,Tryz.ntmps80
   go_wp2
   go_ret
   exact ⟨ret_i (by rw [HE.out];omega),rfl⟩
  ·have HE:Hid (wrap32 a=a.tmod 4294967296+4294967296):=h.2.1 h1 (by omega)
   clear h
   go_enter Tryz.func80,Tryz.ntmps80
   go_wp2
   go_ret
   exact ⟨ret_i (by rw [HE.out]),rfl⟩
 ·by_cases h2:a.tmod 4294967296≥2147483648
  ·have HE:Hid (wrap32 a=a.tmod 4294967296-4294967296):=h.2.2.1 (by omega) h2
   clear h
   go_enter Tryz.func80,Tryz.ntmps80
   go_wp2
   go_ret
   exact ⟨ret_i (by rw [HE.out]),rfl⟩
  ·have HE:Hid (wrap32 a=a.tmod 4294967296):=h.2.2.2 (by omega) (by omega)
   clear h
   go_enter Tryz.func80,Tryz.ntmps80
   go_wp2
   go_ret
   exact ⟨ret_i (by rw [HE.out]),rfl⟩
theorem neg_one_quo (a:Int):wrap64 (-a)=wrap64 (a.tdiv (-1)):=by
 congr 1;rw [Int.tdiv_neg,Int.tdiv_one]
theorem rem_by (a b:Int) (h:-9223372036854775808≤a) (h':a≤9223372036854775807):wrap64 (a-wrap64 (wrap64 (a.tdiv b)*b))=a.tmod b:=by
 have h1:=mul_tdiv_tmod a b
 have h2:=tmod_bd a b h h'
 rw [w64_mul]
 have h3:a-a.tdiv b*b=a.tmod b:=by omega
 have h4:wrap64 (a-wrap64 (a.tdiv b*b))=wrap64 (a-a.tdiv b*b):=by
  generalize a.tdiv b*b=x;unfold wrap64;omega
 rw [h4,h3,w64_in h2.1 h2.2]
theorem rlong_any (op a b:Int) (w:World) (hlo:-9223372036854775808≤a) (hhi:a≤9223372036854775807) (hlo':-9223372036854775808≤b) (hhi':b≤9223372036854775807) :
  Calls Tryz.prog 284 #[.int .i64 op,.int .i64 a,.int .i64 b] w fun e w'=>e=.returned (.tuple #[.int .i64 (lngV op a b),.bool (lngB op b)])∧w'=w:=by
 by_cases h1:op=1
 ·subst h1
  have HE:Hid (lngV 1 a b=wrap64 (a+b)∧lngB 1 b=true):=⟨by simp [lngV],by simp [lngB]⟩
  clear hlo hhi hlo' hhi'
  go_enter Tryz.func284,Tryz.ntmps284
  go_wp2
  go_ret2
  exact ⟨ret_ib HE.out.1.symm HE.out.2.symm,rfl⟩
 by_cases h2:op=2
 ·subst h2
  have HE:Hid (lngV 2 a b=wrap64 (a-b)∧lngB 2 b=true):=⟨by simp [lngV],by simp [lngB]⟩
  clear hlo hhi hlo' hhi'
  go_enter Tryz.func284,Tryz.ntmps284
  go_wp2
  go_ret2
  exact ⟨ret_ib HE.out.1.symm HE.out.2.symm,rfl⟩
 by_cases h3:op=3
 ·subst h3
  have HE:Hid (lngV 3 a b=wrap64 (a*b)∧lngB 3 b=true):=⟨by simp [lngV],by simp [lngB]⟩
  clear hlo hhi hlo' hhi'
  go_enter Tryz.func284,Tryz.ntmps284
  go_wp2
  go_ret2
  exact ⟨ret_ib HE.out.1.symm HE.out.2.symm,rfl⟩
 by_cases hbits:op=6∨op=7∨op=8
 ·have HE:Hid (lngV op a b=wrap64 (sumB (fun i=>opB op (bitB a i) (bitB b i)) 64:Nat)∧lngB op b=true) :=
   ⟨by have h4:¬op=4:=(by omega);have h5:¬op=5:=(by omega);simp only [lngV,if_neg h1,if_neg h2,if_neg h3,if_neg h4,if_neg h5,if_pos hbits],
    by simp only [lngB,decide_eq_true_eq];omega⟩
  have hc:=fun w=>bits_any op a b w hbits hlo hhi hlo' hhi'
  clear hlo hhi hlo' hhi'
  rcases hbits with rfl|rfl|rfl
  all_goals
   go_enter Tryz.func284,Tryz.ntmps284
   go_wp2_with (go_at_call 310;refine (hc _).mono ?_;rintro e w' ⟨rfl,rfl⟩)
   go_ret2
   exact ⟨ret_ib HE.out.1.symm HE.out.2.symm,rfl⟩
 by_cases h4:op=4
 ·subst h4
  by_cases hb:b=0
  ·subst hb
   have HE:Hid (lngV 4 a 0=0∧lngB 4 0=false):=⟨by simp [lngV],by simp [lngB]⟩
   clear hlo hhi hlo' hhi'
   go_enter Tryz.func284,Tryz.ntmps284
   go_wp2
   go_ret2
   exact ⟨ret_ib HE.out.1.symm HE.out.2.symm,rfl⟩
  ·have HE:Hid (lngV 4 a b=wrap64 (a.tdiv b)∧lngB 4 b=true):=⟨by simp [lngV,hb],by simp [lngB,hb]⟩
   clear hlo hhi hlo' hhi'
   by_cases hm:b=-1
   ·subst hm
    go_enter Tryz.func284,Tryz.ntmps284
    go_wp2
    go_ret2
    exact ⟨ret_ib (by rw [HE.out.1];exact neg_one_quo a) HE.out.2.symm,rfl⟩
   ·go_enter Tryz.func284,Tryz.ntmps284
    go_wp2
    go_ret2
    exact ⟨ret_ib HE.out.1.symm HE.out.2.symm,rfl⟩
 by_cases h5:op=5
 ·subst h5
  by_cases hb:b=0
  ·subst hb
   have HE:Hid (lngV 5 a 0=0∧lngB 5 0=false):=⟨by simp [lngV],by simp [lngB]⟩
   clear hlo hhi hlo' hhi'
   go_enter Tryz.func284,Tryz.ntmps284
   go_wp2
   go_ret2
   exact ⟨ret_ib HE.out.1.symm HE.out.2.symm,rfl⟩
  ·have HE:Hid (lngV 5 a b=a.tmod b∧lngB 5 b=true):=⟨by simp [lngV,hb],by simp [lngB,hb]⟩
   have HR:Hid (wrap64 (a-wrap64 (wrap64 (a.tdiv b)*b))=a.tmod b):=rem_by a b hlo hhi
   clear hlo hhi hlo' hhi'
   by_cases hm:b=-1
   ·subst hm
    go_enter Tryz.func284,Tryz.ntmps284
    go_wp2
    go_ret2
    exact ⟨ret_ib (by rw [HE.out.1,←HR.out,←neg_one_quo,Int.mul_neg_one]) HE.out.2.symm,rfl⟩
   ·go_enter Tryz.func284,Tryz.ntmps284
    go_wp2
    go_ret2
    exact ⟨ret_ib (by rw [HE.out.1,←HR.out]) HE.out.2.symm,rfl⟩
 have e1:lngV op a b=0:=by
  simp only [lngV,if_neg h1,if_neg h2,if_neg h3,if_neg h4,if_neg h5,if_neg hbits]
 have e2:lngB op b=false:=by simp only [lngB,decide_eq_false_iff_not];omega
 rw [e1,e2]
 clear e1 e2 hlo hhi hlo' hhi'
 have h6:¬op=6:=by omega
 have h7:¬op=7:=by omega
 have h8:¬op=8:=by omega
 clear hbits
 go_enter Tryz.func284,Tryz.ntmps284
 go_wp2
 go_ret2
 exact ⟨rfl,rfl⟩
theorem rint_any (op a b:Int) (w:World) :
  Calls Tryz.prog 285 #[.int .i64 op,.int .i64 a,.int .i64 b] w fun e w'=>e=.returned (.tuple #[.int .i64 (wrap32 (lngV op (wrap32 a) (wrap32 b))),.bool (lngB op (wrap32 b))])∧w'=w:=by
 have ha:=w32_bd a
 have hb:=w32_bd b
 go_enter Tryz.func285,Tryz.ntmps285
 go_wp2_with (first|(go_at_call 80;refine (rnarrow_any _ _).mono ?_;rintro e w' ⟨rfl,rfl⟩)|(go_at_call 284;refine (rlong_any _ _ _ _ (by omega) (by omega) (by omega) (by omega)).mono ?_;rintro e w' ⟨rfl,rfl⟩))
 go_ret2
 exact ⟨rfl,rfl⟩
theorem hld1 (a:Int):hldB 1 a=(a==0):=by unfold hldB;by_cases h:a=0<;>simp [h]
theorem hld2 (a:Int):hldB 2 a=decide (a<0):=by unfold hldB;simp
theorem hld3 (a:Int):hldB 3 a=(a !=0):=by unfold hldB;by_cases h:a=0<;>simp [h]
theorem hld4 (a:Int):hldB 4 a=decide (0<a):=by unfold hldB;simp
theorem hld0 (c a:Int) (h1:¬c=1) (h2:¬c=2) (h3:¬c=3) (h4:¬c=4):hldB c a=false:=by unfold hldB;simp [h1,h2,h3,h4]
theorem rholds_any (c a:Int) (w:World) :
  Calls Tryz.prog 162 #[.int .i64 c,.int .i64 a] w fun e w'=>e=.returned (.bool (hldB c a))∧w'=w:=by
 by_cases h1:c=1
 ·subst h1
  rw [hld1]
  go_enter Tryz.func162,Tryz.ntmps162
  go_wp2
  go_ret
  exact ⟨rfl,rfl⟩
 by_cases h2:c=2
 ·subst h2
  rw [hld2]
  go_enter Tryz.func162,Tryz.ntmps162
  go_wp2
  go_ret
  exact ⟨rfl,rfl⟩
 by_cases h3:c=3
 ·subst h3
  rw [hld3]
  go_enter Tryz.func162,Tryz.ntmps162
  go_wp2
  go_ret
  exact ⟨rfl,rfl⟩
 by_cases h4:c=4
 ·subst h4
  rw [hld4]
  go_enter Tryz.func162,Tryz.ntmps162
  go_wp2
  go_ret
  exact ⟨rfl,rfl⟩
 rw [hld0 c a h1 h2 h3 h4]
 go_enter Tryz.func162,Tryz.ntmps162
 go_wp2
 go_ret
 exact ⟨rfl,rfl⟩
theorem mes_ok {w:World} {B:Option Addr} {l:List Me} (h:MesAt w B l):∀m∈l,∀i∈m.code,i.ok:=by
 intro m hm i hi
 obtain ⟨j,hj,rfl⟩:=List.getElem_of_mem hm
 rcases h.2 with h0|⟨mb,mo,-,hcell⟩
 ·omega
 obtain ⟨P,C,J,p,c,k,-,-,-,-,-,-,-,-,hme⟩:=hcell j hj
 rw [nth_get hj] at hme
 obtain ⟨q,hq,rfl⟩:=List.getElem_of_mem hi
 rcases hme.2.1.2 with h0|⟨xb,xo,-,hc⟩
 ·omega
 ·have:=(hc q hq).2.2.2.2.2.1
  rw [nth_get hq] at this
  exact this
theorem ints_ok {w:World} {I:Option Addr} {l:List Int} (h:IntsAt w I l):∀n∈l,I64 n:=by
 intro n hn
 obtain ⟨j,hj,rfl⟩:=List.getElem_of_mem hn
 rcases h.2 with h0|⟨b,off,-,hc⟩
 ·omega
 ·have:=(hc j hj).2
  rw [nth_get hj] at this
  exact this
end Go.Proofs.YtgiiapenmjollabGreat
