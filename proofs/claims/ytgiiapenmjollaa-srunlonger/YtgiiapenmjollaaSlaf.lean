import Derived.Test.YtgiiapenmjollaaSlae
import Derived.Test.YtgiiapenmjollaaChecked
import Derived.Handy
import Derived.RangeFuncNested
import Derived.RangeFuncBound
import Derived.RangeFuncCalls
import Derived.RangeFuncLeaves
import Derived.RangeFuncFrom
import Derived.Shelf.Abstract
import Derived.Shelf.RegionOpen
import Derived.WalkKit
import Derived.OwnWalkIn
import Derived.TacticsInMore
import Derived.LoopNIn
import Derived.LoopIn
import Derived.BigQuiet
namespace Go.Proofs.Ytgiiapenmjollaa
set_option linter.all false
set_option maxHeartbeats 40000000
open Go.RowKit
structure CallCells (g:Mg) (w:World) (a:Mc) (c:Cal) (vs:Value):Prop where
 c0:w.cell? ⟨a.q,0,none⟩=some (.pointer (some ⟨g.hb,0,none⟩))
 c1:w.cell? ⟨a.q,1,none⟩=some (.pointer (some ⟨g.r,0,none⟩))
 c2:w.cell? ⟨a.q,2,none⟩=some (.slice a.P c.m.params.length a.p)
 c3:w.cell? ⟨a.q,3,none⟩=some (.int .i64 c.m.ret.kind)
 c4:w.cell? ⟨a.q,4,none⟩=some (.int .i64 c.m.ret.cls)
 c5:w.cell? ⟨a.q,5,none⟩=some (.int .i64 c.m.stack)
 c6:w.cell? ⟨a.q,6,none⟩=some (.int .i64 c.m.locs)
 c8:w.cell? ⟨a.q,8,none⟩=some (.slice a.C c.m.code.length a.c)
 c9:w.cell? ⟨a.q,9,none⟩=some (.slice a.K c.m.hands.length a.k)
 c10:w.cell? ⟨a.q,10,none⟩=some (.int .i64 c.pc)
 c11:w.cell? ⟨a.q,11,none⟩=some (.slice (some ⟨a.lb,0,none⟩) c.locs.length a.lc)
 c12:w.cell? ⟨a.q,12,none⟩=some vs
theorem CA.cells {w0 w:World} {g:Mg} {a:Mc} {c:Cal} {l:List Va} {vs:Value} (H:CA w0 g w a c l vs):CallCells g w a c vs:=by
 constructor<;>(rw [cell_blk H.blk];rfl)
theorem CA.free {w0 w:World} {g:Mg} {a:Mc} {c:Cal} {l:List Va} {vs:Value} (H:CA w0 g w a c l vs) (i:Nat):w.frozen? ⟨a.q,i,none⟩=false:=free_blk H.blk i
theorem RXA.setq {s:Nat} {X:Nat→Prop} {wx w0 w:World} {g:Mg} {h:Hp} {qs:List Nat} {a:Mc} {c c':Cal} {vc vo vx vs vs':Value} {l:List Va} (H:RXA s X wx w0 g w h qs a c vc vo vx vs l) {i:Nat} {v:Value}
  (hrow:(callRow g a c vs).setIfInBounds i v=callRow g a c' vs') (hl:c'.locs=c.locs) (hm:c'.m=c.m) (hs:w.ownsRow w0.heap.size 109 2 vs' c'.stk.length (vaCells (c'.stk.map im)))
  (hb:∀b,vs'.ownBlock=some b→b≠a.lb∧¬X b) (hkd:∀v∈c'.stk,1≤v.kind∧v.kind≤3):RXA s X wx w0 g (w.setCell ⟨a.q,i,none⟩ v) h qs a c' vc vo vx vs' l:=by
 have hg:=grown_set (w:=w) a.q i v
 have hf:=(H.ca.far H.rh).1
 have hql:a.q≠a.lb:=blk_ne H.ca.blk H.ca.loc (by decide)
 refine ⟨H.rh.kept hg (fun b e=>?_),⟨H.ca.own,H.ca.ownl,?_,?_,by rw [hl];exact H.ca.rel,hs.kept hg ?_,?_,by rw [hm];exact H.ca.me,by rw [hl];exact H.ca.short,hkd⟩,H.farr,?_,H.kept.kept hg (fun b e hx=>?_)⟩
 ·cases e;exact ⟨H.ca.own,hf⟩
 ·rw [block_set H.ca.blk,hrow]
 ·exact grown_blk hg H.ca.loc (fun e=>hql (Option.some.inj e))
 ·right;exact own_far hs H.ca.blk (by decide)
 ·intro e;exact (hb _ e).1 rfl
 ·intro b hx
  exact ⟨(H.farc b hx).q,(H.farc b hx).l,fun e=>(hb b e).2 hx⟩
 ·cases e;exact (H.farc a.q hx).q rfl
theorem own_pop {w:World} {base:Nat} {e:TypeId} {gb cap:Nat} {l:List Va} {v:Va} (h:w.ownsRow base e 2 (.slice (some ⟨gb,0,none⟩) (l.length+1) cap) (l.length+1) (vaCells (l++[v]))) :
  w.ownsRow base e 2 (.slice (some ⟨gb,0,none⟩) l.length cap) l.length (vaCells l):=by
 obtain ⟨h1,h2⟩:=h
 rcases h2 with ⟨h0,_⟩|⟨g',cap',cur,hv,hg,hh,hn,hcap,hsz,htake⟩
 ·cases h0
 ·cases hv
  refine ⟨vaCells_length l,.inr ⟨gb,cap,cur,rfl,hg,hh,by omega,hcap,hsz,?_⟩⟩
  have h3:(cur.toList.take ((l.length+1)*2)).take (l.length*2)=(vaCells (l++[v])).take (l.length*2):=by rw [htake]
  rw [List.take_take,Nat.min_eq_left (by omega)] at h3
  rw [h3,vaCells_append,←vaCells_length l]
  simp
theorem own_last {w:World} {base:Nat} {e:TypeId} {vs:Value} {l:List Va} {v:Va} (h:w.ownsRow base e 2 vs (l.length+1) (vaCells (l++[v]))):∃gb cap,vs=.slice (some ⟨gb,0,none⟩) (l.length+1) cap∧l.length+1≤cap∧cap≤maxLen∧gb<w.heap.size
  ∧ w.cell? ⟨gb,l.length*2,none⟩=some (.int .i64 v.kind)∧w.cell? ⟨gb,l.length*2+1,none⟩=some (.int .i64 v.n):=by
 rcases h.2 with ⟨_,h0⟩|⟨gb,cap,cur,rfl,hg,hh,hn,hcap,hsz,htake⟩
 ·omega
 ·have hx:=va_cells (l++[v]) l.length (by simp)
  have hv:nth va0 (l++[v]) l.length=v:=by simp [nth]
  rw [hv,←htake,List.getElem?_take,List.getElem?_take,if_pos (by omega),if_pos (by omega)] at hx
  refine ⟨gb,cap,rfl,hn,hcap,lt_some hh,?_,?_⟩
  ·rw [cell_blk hh];simpa using hx.1
  ·rw [cell_blk hh];simpa using hx.2
theorem own_none {w:World} {base:Nat} {e:TypeId} {vs:Value} (h:w.ownsRow base e 2 vs 0 []):∃A cap,vs=.slice A 0 cap:=by
 rcases h.2 with ⟨rfl,h0⟩|⟨gb,cap,cur,rfl,hg,hh,hn,hcap,hsz,htake⟩
 ·exact ⟨_,_,rfl⟩
 ·exact ⟨_,_,rfl⟩
set_option maxRecDepth 100000 in
theorem mtake_no (s:Nat) (X:Nat→Prop) (wx w0:World) (g:Mg) (h:Hp) (qs:List Nat) (a:Mc) (c:Cal) (w:World) (H:RX s X wx w0 g w h qs a c) (hs:c.stk=[]) :
  Calls Try.prog 111 #[.pointer (some ⟨a.q,0,none⟩)] w fun e w'=>e=stopE 6 0 0∧RX s X wx w0 g w' h qs a c:=by
 have HH:Hid (RX s X wx w0 g w h qs a c):=H
 obtain ⟨vc,vo,vx,vs,l,H⟩:=H
 have hk:=H.ca.stk
 rw [hs] at hk
 obtain ⟨A,cap,rfl⟩:=own_none hk
 have hq:=lt_some H.ca.blk
 have c12:=H.ca.cells.c12
 clear H hk hs
 go_enter Try.func111,Try.ntmps111
 go_wp2_with (go_at_call 87;refine (mstuck_any _).mono ?_;rintro e w1 ⟨rfl,hw⟩;rw [hw];clear hw w1)
 exact ⟨rfl,rfl,HH.out.bl ((Bl.refl w).alloc _)⟩
set_option maxRecDepth 100000 in
theorem mtake_yes (s:Nat) (X:Nat→Prop) (wx w0:World) (g:Mg) (h:Hp) (qs:List Nat) (a:Mc) (c:Cal) (l:List Va) (v:Va) (w:World) (H:RX s X wx w0 g w h qs a c) (hs:c.stk=l++[v]) :
  Calls Try.prog 111 #[.pointer (some ⟨a.q,0,none⟩)] w fun e w'=>e=.returned (mvV (im v))∧RX s X wx w0 g w' h qs a { c with stk:=l }:=by
 obtain ⟨vc,vo,vx,vs,k,H⟩:=H
 have hk:=H.ca.stk
 have e1:c.stk.length=(l.map im).length+1:=by rw [hs];simp
 have e2:vaCells (c.stk.map im)=vaCells (l.map im++[im v]):=by rw [hs];simp
 rw [e1,e2] at hk
 obtain ⟨gb,cap,rfl,h1,h2,h3,h4,h5⟩:=own_last hk
 have e3:(l.map im).length=l.length:=by simp
 rw [e3] at h1 h4 h5 hk
 have HK:Hid (w.ownsRow w0.heap.size 109 2 (.slice (some ⟨gb,0,none⟩) l.length cap) l.length (vaCells (l.map im))):=by
  have:=own_pop (l:=l.map im) (v:=im v) (by rw [e3];exact hk)
  rw [e3] at this
  exact this
 have hq:=lt_some H.ca.blk
 have c12:=H.ca.cells.c12
 have fz:=H.ca.free
 rw [e3] at c12
 have hgq:gb≠a.q:=fun e=>own_far hk H.ca.blk (by decide) (by rw [e];rfl)
 have HH:Hid (RXA s X wx w0 g w h qs a c vc vo vx (.slice (some ⟨gb,0,none⟩) ((l.map im).length+1) cap) k):=H
 have HKD:Hid (∀u∈l,1≤u.kind∧u.kind≤3):=fun u hu=>H.ca.kinds u (by rw [hs];exact List.mem_append_left _ hu)
 clear H hk hs e1 e2 e3
 unfold maxLen at h2
 have hn1:((l.length:Int)+1-1)=(l.length:Int):=by omega
 have hw:IntKind.i64.wrap (l.length:Int)=(l.length:Int):=by rw [IntKind.wrap_i64];omega
 go_enter Try.func111,Try.ntmps111
 go_wp2
 refine bodyPost_ret (results_cell_row rfl _ _ w.heap.size _ _ _ _ rfl (blk_in1 (by simp)) Try.underlying109 rfl info_mv) rfl ?_
 refine ⟨rfl,vc,vo,vx,_,k,RXA.bl (HH.out.setq rfl rfl rfl HK.out ?_ HKD.out) (((Bl.refl _).alloc _).alloc _)⟩
 intro b hb
 simp [Value.ownBlock] at hb
 subst hb
 exact ⟨fun e=>HH.out.ca.apart (by rw [←e];rfl),fun hx=>(HH.out.farc gb hx).s rfl⟩
theorem numbers_any (x n:Int) (w:World) :
  Calls Try.prog 58 #[.int .i64 x,.int .i64 n] w fun e w'=>e=.returned (.bool (decide (0≤x∧x<n)))∧w'=w:=by
 go_enter Try.func58,Try.ntmps58
 go_wp2
 all_goals
  go_ret
  refine ⟨ret_bool ?_,rfl⟩
  rw [Bool.eq_iff_iff];simp;try omega
theorem span_any (n lo hi:Int) (w:World) :
  Calls Try.prog 37 #[.int .i64 n,.int .i64 lo,.int .i64 hi] w fun e w'=>e=.returned (.bool (decide (lo≤n∧n≤hi)))∧w'=w:=by
 go_enter Try.func37,Try.ntmps37
 go_wp2
 all_goals
  go_ret
  refine ⟨ret_bool ?_,rfl⟩
  rw [Bool.eq_iff_iff];simp;try omega
theorem maySuper_any (c s:Int) (w:World) :
  Calls Try.prog 38 #[.int .i64 c,.int .i64 s] w fun e w'=>e=.returned (.bool (decide ((c=0∧s=-1)∨(c≠0∧0≤s∧s<c))))∧w'=w:=by
 by_cases h0:c=0
 ·subst h0
  go_enter Try.func38,Try.ntmps38
  go_wp2
  all_goals
   go_ret
   refine ⟨ret_bool ?_,rfl⟩
   rw [Bool.eq_iff_iff];simp
 ·go_enter Try.func38,Try.ntmps38
  go_wp2_with (go_at_call 58;refine (numbers_any _ _ _).mono ?_;rintro e w' ⟨rfl,rfl⟩)
  all_goals
   go_ret
   refine ⟨ret_bool ?_,rfl⟩
   rw [Bool.eq_iff_iff];simp;omega
theorem mayType_any (n:Nat) (k x:Int) (w:World) :
  Calls Try.prog 79 #[.agg #[.int .i64 k,.int .i64 x],.int .i64 n] w fun e w'=>e=.returned (.bool (tyB n ⟨k,x⟩))∧Bl w w':=by
 have hk:k=1∨k=2∨k=3∨(k≠1∧k≠2∧k≠3):=by omega
 rcases hk with rfl|rfl|rfl|⟨h1,h2,h3⟩
 all_goals
  go_enter Try.func79,Try.ntmps79
  go_wp2_with (go_at_call 58;refine (numbers_any _ _ _).mono ?_;rintro e w' ⟨rfl,rfl⟩)
  go_ret
  refine ⟨ret_bool ?_,(Bl.refl _).alloc _⟩
  unfold tyB
  rw [Bool.eq_iff_iff];simp;try omega
def fldB (n:Nat) (f:List Ty):Bool:=decide (f.length≤6)&&f.all (tyB n)
theorem fld_long {n:Nat} {f:List Ty} (h:¬f.length≤6):fldB n f=false:=by unfold fldB;rw [decide_eq_false h];rfl
theorem all_ty_bad {n q:Nat} {f:List Ty} (hq:q<f.length) (h:tyB n (nth ty0 f q)=false):f.all (tyB n)=false:=by
 rw [List.all_eq_false];exact ⟨nth ty0 f q,nth_mem hq,by rw [h];decide⟩
theorem all_ty_good {n:Nat} {f:List Ty} (ht:∀k,k<f.length→tyB n (nth ty0 f k)=true):f.all (tyB n)=true:=by
 rw [List.all_eq_true]
 intro x hx
 obtain ⟨k,hk,rfl⟩:=List.getElem_of_mem hx
 rw [←nth_get hk];exact ht k hk
theorem mayTypes_any (A:Option Addr) (n c:Nat) (F:List Ty) (w:World) (hl:TysAt w A F) :
  Calls Try.prog 59 #[.int .i64 n,.slice A F.length c] w fun e w'=>e=.returned (.bool (F.all (tyB n)))∧Bl w w':=by
 obtain ⟨hm,hl⟩:=hl
 unfold maxLen at hm
 have HG:Hid ((∀k,k<F.length→tyB n (nth ty0 F k)=true)→F.all (tyB n)=true):=all_ty_good
 have HT:Hid (∀q,q<F.length→tyB n (nth ty0 F q)=false→F.all (tyB n)=false):=fun q=>all_ty_bad
 obtain ⟨R,hR⟩:∃R,F.all (tyB n)=R:=⟨_,rfl⟩
 rw [hR] at HG HT ⊢
 clear hR
 go_enter Try.func59,Try.ntmps59
 go_wp2
 go_loopw [9] (fun i wr=>∃q:Nat,q≤F.length∧i=.int .i64 q∧Hid (∀j,j<q→tyB n (nth ty0 F j)=true)∧Hid (Bl w wr)) (fun i _=>F.length-(intOf i).toNat)
 case atStart=>exact ⟨0,Nat.zero_le _,rfl,fun j hj=>absurd hj (Nat.not_lt_zero _),Bl.refl _⟩
 case round =>
  obtain ⟨q,hq,rfl,hgq,hg⟩:=hrel
  by_cases hql:q<F.length
  ·rcases hl with h0|⟨b,off,rfl,hcell⟩
   ·omega
   obtain ⟨ht1,ht2,-,-⟩:=hcell q hql
   replace ht1:=hg.out.cell ht1
   replace ht2:=hg.out.cell ht2
   clear hcell HG
   cases hT:tyB n (nth ty0 F q)
   ·have hT':tyB n ⟨(nth ty0 F q).kind,(nth ty0 F q).cls⟩=false:=hT
    have HF:=HT.out q hql hT
    clear HT hT
    go_wp2_with (go_at_call 79;refine (mayType_any _ _ _ _).mono ?_;rintro e w1 ⟨rfl,hg1⟩)
    go_ret
    exact ⟨ret_bool HF.symm,(hg.out.alloc _).trans hg1⟩
   ·have hT':tyB n ⟨(nth ty0 F q).kind,(nth ty0 F q).cls⟩=true:=hT
    have HT1:Hid (tyB n (nth ty0 F q)=true):=hT
    clear hT HT
    go_wp2_with (go_at_call 79;refine (mayType_any _ _ _ _).mono ?_;rintro e w1 ⟨rfl,hg1⟩)
    go_roundw
    case rel=>exact ⟨q+1,by omega,by go_num,fun j hj=>if h:j<q then hgq.out j h else by have:j=q:=(by omega);subst this;exact HT1.out,(hg.out.alloc _).trans hg1⟩
    case measure=>simp [intOf];omega
  ·have hkk:q=F.length:=by omega
   subst hkk
   have HF:=HG.out hgq.out
   clear HG hl
   go_wp2
   go_ret
   exact ⟨ret_bool HF.symm,hg.out⟩
theorem mayFields_any (A:Option Addr) (n c:Nat) (F:List Ty) (w:World) (hl:TysAt w A F) :
  Calls Try.prog 39 #[.slice A F.length c,.int .i64 n] w fun e w'=>e=.returned (.bool (fldB n F))∧Bl w w':=by
 have hm:=hl.1
 unfold maxLen at hm
 by_cases h6:F.length≤6
 ·have hb:fldB n F=F.all (tyB n):=by unfold fldB;rw [decide_eq_true h6];rfl
  rw [hb]
  go_enter Try.func39,Try.ntmps39
  go_wp2_with (go_at_call 59;refine (mayTypes_any _ _ _ _ _ hl).mono ?_;rintro e w1 ⟨rfl,hg1⟩)
  go_ret
  exact ⟨rfl,hg1⟩
 ·have hb:=fld_long (n:=n) h6
  rw [hb]
  clear hb hl
  go_enter Try.func39,Try.ntmps39
  go_wp2
  go_ret
  exact ⟨rfl,Bl.refl _⟩
def supB (l:List Cl) (i:Nat):Bool:=decide (((i:Int)=0∧(nth cl0 l i).super=-1)∨((i:Int)≠0∧0≤(nth cl0 l i).super∧(nth cl0 l i).super<i))
theorem may_sup {l:List Cl} {i:Nat} (hi:i<l.length) (h:supB l i=false):mayB l=false:=by
 unfold supB at h
 rw [decide_eq_false_iff_not] at h
 by_cases h0:i=0
 ·subst h0;exact may_few (by omega)
 ·exact may_cl hi (cl_bad (by omega))
theorem may_fld {l:List Cl} {i:Nat} (hi:i<l.length) (h:fldB l.length (nth cl0 l i).fields=false):mayB l=false:=by
 refine may_cl hi ?_
 by_cases h6:(nth cl0 l i).fields.length≤6
 ·unfold fldB at h
  rw [decide_eq_true h6,Bool.true_and] at h
  unfold clB;rw [h,Bool.and_false]
 ·exact cl_bad (by omega)
theorem may_both {l:List Cl} (h4:4≤l.length) (h12:l.length≤12) (h:∀i,i<l.length→supB l i=true∧fldB l.length (nth cl0 l i).fields=true):mayB l=true:=by
 have h0:=(h 0 (by omega)).1
 unfold supB at h0
 rw [decide_eq_true_eq] at h0
 refine may_good ⟨h4,h12,by omega⟩ fun i hi=>?_
 obtain ⟨h1,h2⟩:=h i hi
 unfold supB at h1;unfold fldB at h2
 rw [decide_eq_true_eq] at h1
 rw [Bool.and_eq_true,decide_eq_true_eq] at h2
 unfold clB
 rw [h2.2,Bool.and_true,decide_eq_true_eq]
 exact ⟨by omega,h2.1⟩
theorem may_any (A:Option Addr) (c:Nat) (l:List Cl) (w:World) (hl:ClsAt w A l) :
  Calls Try.prog 21 #[.slice A l.length c] w fun e w'=>e=.returned (.bool (mayB l))∧Bl w w':=by
 obtain ⟨hm,hl⟩:=hl
 unfold maxLen at hm
 by_cases h4:¬(4≤(l.length:Int)∧(l.length:Int)≤12)
 ·have hb:mayB l=false:=may_few (by omega)
  rw [hb]
  clear hb hl
  have hd:decide (4≤(l.length:Int)∧(l.length:Int)≤12)=false:=decide_eq_false h4
  go_enter Try.func21,Try.ntmps21
  go_wp2_with (go_at_call 37;refine (span_any _ _ _ _).mono ?_;rintro e w1 ⟨he,rfl⟩;rw [hd] at he;subst he)
  go_ret
  exact ⟨rfl,Bl.refl _⟩
 replace h4:=Decidable.of_not_not h4
 have hd:decide (4≤(l.length:Int)∧(l.length:Int)≤12)=true:=decide_eq_true h4
 rcases hl with hl|⟨b,off,rfl,hc⟩
 ·omega
 have HB:Hid ((∀i,i<l.length→supB l i=true∧fldB l.length (nth cl0 l i).fields=true)→mayB l=true):=may_both (by omega) (by omega)
 go_enter Try.func21,Try.ntmps21
 go_wp2_with (go_at_call 37;refine (span_any _ _ _ _).mono ?_;rintro e w1 ⟨he,hw1⟩;rw [hd] at he;subst he;rw [hw1];clear hw1 w1)
 go_loopw [11] (fun i wr=>∃k:Nat,k≤l.length∧i=.int .i64 k∧Hid (∀j,j<k→supB l j=true∧fldB l.length (nth cl0 l j).fields=true)∧Hid (Bl w wr)) (fun i _=>l.length-(intOf i).toNat)
 case atStart=>exact ⟨0,Nat.zero_le _,rfl,fun j hj=>absurd hj (Nat.not_lt_zero _),Bl.refl _⟩
 case round =>
  obtain ⟨k,hk,rfl,hgood,hg⟩:=hrel
  by_cases hlt:k<l.length
  ·obtain ⟨hsup,hsb,A',c',hfl,hty⟩:=hc k hlt
   replace hsup:=hg.out.cell hsup
   replace hfl:=hg.out.cell hfl
   have HTY:Hid (TysAt wr A' (nth cl0 l k).fields):=hty.bl hg.out
   have HS:Hid (supB l k=false→mayB l=false):=may_sup hlt
   have HF:Hid (fldB l.length (nth cl0 l k).fields=false→mayB l=false):=may_fld hlt
   clear hc HB hty
   cases hS:supB l k
   ·have HBAD:=HS.out hS
    have hS':decide (((k:Int)=0∧(nth cl0 l k).super=-1)∨((k:Int)≠0∧0≤(nth cl0 l k).super∧(nth cl0 l k).super<k))=false:=hS
    clear hS
    go_wp2_with (go_at_call 38;refine (maySuper_any _ _ _).mono ?_;rintro e w1 ⟨he,rfl⟩;rw [hS'] at he;subst he)
    go_ret
    exact ⟨ret_bool HBAD.symm,hg.out.alloc _⟩
   ·have HST:Hid (supB l k=true):=hS
    have hS':decide (((k:Int)=0∧(nth cl0 l k).super=-1)∨((k:Int)≠0∧0≤(nth cl0 l k).super∧(nth cl0 l k).super<k))=true:=hS
    clear hS
    cases hF:fldB l.length (nth cl0 l k).fields
    ·have HBAD:=HF.out hF
     go_wp2_with (first
      | (go_at_call 38;refine (maySuper_any _ _ _).mono ?_;rintro e w1 ⟨he,rfl⟩;rw [hS'] at he;subst he)
      | (go_at_call 39;refine (mayFields_any _ _ _ _ _ (HTY.out.bl ((Bl.refl _).alloc _))).mono ?_;rintro e w1 ⟨he,hg1⟩;rw [hF] at he;subst he))
     go_ret
     exact ⟨ret_bool HBAD.symm,(hg.out.alloc _).trans hg1⟩
    ·have HFT:Hid (fldB l.length (nth cl0 l k).fields=true):=hF
     go_wp2_with (first
      | (go_at_call 38;refine (maySuper_any _ _ _).mono ?_;rintro e w1 ⟨he,rfl⟩;rw [hS'] at he;subst he)
      | (go_at_call 39;refine (mayFields_any _ _ _ _ _ (HTY.out.bl ((Bl.refl _).alloc _))).mono ?_;rintro e w1 ⟨he,hg1⟩;rw [hF] at he;subst he))
     go_roundw
     case rel=>exact ⟨k+1,by omega,by go_num,fun j hj=>if h:j<k then hgood.out j h else by have:j=k:=(by omega);subst this;exact ⟨HST.out,HFT.out⟩,(hg.out.alloc _).trans hg1⟩
     case measure=>simp [intOf];omega
  ·have hkk:k=l.length:=by omega
   subst hkk
   have HBB:=HB.out hgood.out
   clear HB hc
   go_wp2
   go_ret
   exact ⟨ret_bool HBB.symm,hg.out⟩
section
open Go.RowKit Go.Shelf
attribute [local go_sem] Oper.semAt_some
set_option maxRecDepth 100000 in
theorem up1_in (F:Fence) (n:Nat) (hf:F.fn 80) (hro:F.round=none) (hn:1≤n) (lp Bc Bs:Nat) (A:Option Addr) (c:Nat) (l:List Cl) (u:Nat) (ht:Tree l) (hu:u<l.length) (w:World) (J Jx:List Nat→World→Prop)
  (hY:∀pre x W,J pre W→pre.length<(ups l u).length→YieldAt F (n-1) Try.prog lp #[.int .i64 (x:Nat)] W fun e W' =>
   (e=.returned (.bool true)∧J (pre++[x]) W'∧Below w.heap.size W W')∨(e=.returned (.bool false)∧Jx (pre++[x]) W'))
  (hl:ClsAt w A l) (hBc:w.cell? ⟨Bc,0,none⟩=some (.int .i64 u)) (hBs:w.cell? ⟨Bs,0,none⟩=some (.slice A l.length c)) (W:World) (hW:Bl w W) (h0:J [] W) :
  CallsIn F n Try.prog 80 #[.func (.yield lp) #[] #[],.pointer (some ⟨Bc,0,none⟩),.pointer (some ⟨Bs,0,none⟩)] W fun e W'=>(∃v,e=.returned v) ∧
   ((∃ys,ys=ups l u∧J ys W')∨(∃pre,pre <+: ups l u∧Jx pre W')):=by
 have HT:Hid (Tree l):=ht
 have HL:Hid (ClsAt w A l):=hl
 have HBs:Hid (w.cell? ⟨Bs,0,none⟩=some (.slice A l.length c)):=hBs
 have hc0:=hW.cell hBc
 have HW:Hid (Bl w W):=hW
 clear ht hl hBs hBc hW
 refine callsIn_of_wp Try.func80 rfl hf ?_ hro
 simp only [Try.ntmps80,List.size_toArray,List.length_cons,List.length_nil,Nat.reduceAdd,Nat.reduceSub,Array.replicate_succ,Array.replicate_zero,List.push_toArray,List.append_toArray,List.nil_append,List.cons_append]
 gi_wp2
 clear hc0
 gi_loopw [4] (fun p wr=>∃(pre rest:List Nat) (z:Int),p=.int .i64 z∧Hid (ups l u=pre++rest)∧Hid ((z=-1∧rest=[])∨∃k:Nat,z=k∧k<l.length∧rest=ups l k)∧Hid (Bl w wr)∧J pre wr)
  (fun p _=>(intOf p+1).toNat)
 case atStart=>exact ⟨[],ups l u,_,rfl,rfl,.inr ⟨u,rfl,hu,rfl⟩,HW,h0⟩
 case round =>
  obtain ⟨pre,rest,z,rfl,hx,hz,hg,hJs⟩:=hrel
  rcases hz.out with ⟨rfl,rfl⟩|⟨k,rfl,hk,rfl⟩
  ·clear hz
   gi_wp2
   go_end0
   exact ⟨⟨_,rfl⟩,.inl ⟨pre,by simpa using hx.out.symm,hJs⟩⟩
  ·clear hz
   obtain ⟨fn,tmps,assign,body,hy,hR⟩:=hY pre k wr hJs (by
    rw [hx.out,List.length_append]
    have:=List.length_pos_of_mem (ups_head (l:=l) k)
    omega)
   gi_wp2
   refine hR.mono ?_
   rintro e W3 (⟨rfl,hJ3,hk3⟩|⟨rfl,hJx3⟩)
   ·have hg3:Bl w W3:=Below.trans hg.out hk3
    have hs3:=hg3.cell HBs.out
    obtain ⟨hm,hcl⟩:=HL.out
    unfold maxLen at hm
    rcases hcl with h1|⟨b,off,rfl,hcl⟩
    ·omega
    have hsup:=hg3.cell (hcl k hk).1
    by_cases hk0:k=0
    ·subst hk0
     rw [HT.out.zero,Nat.zero_mul,Nat.add_zero] at hsup
     have hx':Hid (ups l u=(pre++[0])++[]):=by rw [hx.out,ups_zero];simp [Hid]
     clear hcl hk3 hy hR hx
     have HG:Hid (Bl w W3):=hg3
     clear hg3
     gi_wp2
     go_roundw
     case rel=>exact ⟨pre++[0],[],-1,rfl,hx',.inl ⟨rfl,rfl⟩,HG,hJ3⟩
     case measure=>simp [intOf]
    ·rw [super_par HT.out (by omega) hk] at hsup
     have hp:=par_lt HT.out (by omega) hk
     have hx':Hid (ups l u=(pre++[k])++ups l (par l k)):=by rw [hx.out,ups_step HT.out (by omega) hk];simp [Hid]
     clear hcl hk3 hy hR hx
     have HG:Hid (Bl w W3):=hg3
     clear hg3
     gi_wp2
     go_roundw
     case rel=>exact ⟨pre++[k],_,_,rfl,hx',.inr ⟨par l k,rfl,by omega,rfl⟩,HG,hJ3⟩
     case measure=>simp [intOf];omega
   ·gi_wp2
    refine bodyPost_ret (results_none rfl _ _ _) rfl ?_
    refine ⟨⟨_,rfl⟩,.inr ⟨pre++[k],?_,hJx3⟩⟩
    rw [hx.out]
    by_cases hk0:k=0
    ·subst hk0;rw [ups_zero];exact List.prefix_rfl
    ·rw [ups_step HT.out (by omega) hk];exact ⟨ups l (par l k),by simp⟩
theorem upward_any (A:Option Addr) (n c:Nat) (x:Int) (w:World) :
  Calls Try.prog 60 #[.slice A n c,.int .i64 x] w fun e w' =>
   e=.returned (.func (.func 80) #[] #[.pointer (some ⟨w.heap.size+1,0,none⟩),.pointer (some ⟨w.heap.size,0,none⟩)])
   ∧ w'=(w.alloc (.cells #[.slice A n c] 29)).alloc (.cells #[.int .i64 x] 3):=by
 refine (callsIn_wide (n:=3)).1 ?_
 refine callsIn_of_wp Try.func60 rfl trivial ?_ rfl
 simp only [Try.ntmps60,List.size_toArray,List.length_cons,List.length_nil,Nat.reduceAdd,Nat.reduceSub,Array.replicate_succ,Array.replicate_zero,List.push_toArray,List.append_toArray,List.nil_append,List.cons_append]
 gi_wp2
 go_ret
 exact ⟨rfl,rfl⟩
theorem up_stops (n:Nat) (hn:1≤n) (Bc Bs:Nat) (A:Option Addr) (c:Nat) (l:List Cl) (u:Nat) (ht:Tree l) (hu:u<l.length) (w:World)
  (hl:ClsAt w A l) (hBc:w.cell? ⟨Bc,0,none⟩=some (.int .i64 u)) (hBs:w.cell? ⟨Bs,0,none⟩=some (.slice A l.length c)) :
  SeqStopsK Fence.wide n Try.prog 80 #[.pointer (some ⟨Bc,0,none⟩),.pointer (some ⟨Bs,0,none⟩)] (fun x:Nat=>#[Value.int .i64 x]) (Below w.heap.size) (fun ys=>ys=ups l u) (fun pre=>pre <+: ups l u) (ups l u).length w :=
 fun lp J Jx W hW _ _ hY h0=>up1_in Fence.wide n trivial rfl hn lp Bc Bs A c l u ht hu w J Jx hY hl hBc hBs W hW h0
end

section
open Go.RowKit Go.Shelf
attribute [local go_sem] Oper.semAt_some
set_option maxRecDepth 100000 in
theorem below_any (A:Option Addr) (c:Nat) (l:List Cl) (u d:Nat) (ht:Tree l) (hu:u<l.length) (w:World) (hl:ClsAt w A l) :
  Calls Try.prog 41 #[.slice A l.length c,.int .i64 u,.int .i64 d] w fun e w'=>e=.returned (.bool (belN l u d))∧Bl w w':=by
 have HT:Hid (Tree l):=ht
 have HL:Hid (ClsAt w A l):=hl
 clear ht hl
 refine (callsIn_wide (n:=3)).1 ?_
 refine callsIn_of_wp_marks Try.func41 rfl trivial ?_ rfl
 simp only [Try.ntmps41,List.size_toArray,List.length_cons,List.length_nil,Nat.reduceAdd,Nat.reduceSub,Array.replicate_succ,Array.replicate_zero,List.push_toArray,List.append_toArray,List.nil_append,List.cons_append]
 gi_wp2_with (refine ⟨trivial,?_⟩;gi_at_call 60;refine (callsIn_wide.2 (upward_any _ _ _ _ _)).mono ?_;rintro e w' ⟨rfl,rfl⟩)
 have c0:=Boxed.new w 3 (.int .i64 (d:Int))
 have c1:=Boxed.new (w.alloc (.cells #[.int .i64 (d:Int)] 3)) 4 (.bool false)
 have c2:=Boxed.new ((w.alloc (.cells #[.int .i64 (d:Int)] 3)).alloc (.cells #[.bool false] 4)) 29 (.slice A l.length c)
 have c3:=Boxed.new (((w.alloc (.cells #[.int .i64 (d:Int)] 3)).alloc (.cells #[.bool false] 4)).alloc (.cells #[.slice A l.length c] 29)) 3 (.int .i64 (u:Int))
 simp only [World.size_alloc] at c1 c2 c3
 have hB0:Bl w ((((w.alloc (.cells #[.int .i64 (d:Int)] 3)).alloc (.cells #[.bool false] 4)).alloc (.cells #[.slice A l.length c] 29)).alloc (.cells #[.int .i64 (u:Int)] 3)):=((((Bl.refl w).alloc _).alloc _).alloc _).alloc _
 refine wpIn_rangeFunc_ownF (F:=Fence.wide) rfl (by omega) (gf:=80) (lb:=#[.pointer (some ⟨w.heap.size+1+1+1,0,none⟩),.pointer (some ⟨w.heap.size+1+1,0,none⟩)]) rfl trivial (enters_of Try.func80 (by kernel_rfl) rfl)
  (up_stops _ (by omega) (w.heap.size+1+1+1) (w.heap.size+1+1) A c l u HT.out hu _ (HL.out.bl hB0) c3.cell (c2.alloc _).cell) belowK_t (belowK_b (Nat.le_refl _)) (Below.refl _ _) (fun _=>rfl)
  (fun pre W=>((∀y∈pre,y≠d)∧Boxed W w.heap.size 3 (.int .i64 (d:Int))∧Boxed W (w.heap.size+1) 4 (.bool false))∧Below w.heap.size w W)
  (fun c pre W=>(c=.ret∧d∈pre∧Boxed W (w.heap.size+1) 4 (.bool true))∧Below w.heap.size w W)
  (OwnFrom.and (Own.from (fun s X Y row hs hg hr=>⟨hs.1,boxed_own _ _ (fun _=>_) s X Y row hs.2.1 hg hr,boxed_own _ _ (fun _=>_) s X Y row hs.2.2 hg hr⟩) _) (ownFrom_below (Nat.le_refl _) hB0.size))
  (fun c=>OwnFrom.and (Own.from (fun s X Y row hs hg hr=>⟨hs.1,hs.2.1,boxed_own _ _ (fun _=>_) s X Y row hs.2.2 hg hr⟩) _) (ownFrom_below (Nat.le_refl _) hB0.size))
  ⟨⟨by simp,((c0.alloc _).alloc _).alloc _,(c1.alloc _).alloc _⟩,hB0⟩
  (fun x=>{ tmps:=#[.slice A l.length c,.int .i64 u,.int .i64 d,undef,undef,.pointer (some ⟨w.heap.size,0,none⟩),.pointer (some ⟨w.heap.size+1,0,none⟩),.int .i64 (x:Int),.slice A l.length c,.int .i64 u,
   .func (.func 80) #[] #[.pointer (some ⟨w.heap.size+1+1+1,0,none⟩),.pointer (some ⟨w.heap.size+1+1,0,none⟩)],.int .i64 (x:Int),undef,undef,undef],defers:=[] }) ?assign ?body ?done ?stop
 case assign =>
  intro l x W K hK
  gi_wp2
  exact hK
 case body =>
  rintro lp pre x W ⟨⟨hp,hcw,hcr⟩,hB⟩ _
  have h1:=hcw.cell
  have h2:=hcr.cell
  have h3:=hcr.frozen
  have HB:Hid (Below w.heap.size w W):=hB
  have HC:Hid (Boxed W (w.heap.size+1) 4 (.bool false)):=hcr
  have HW:Hid (Boxed W w.heap.size 3 (.int .i64 (d:Int))):=hcw
  clear hB hcr hcw c0 c1 c2 c3 hB0
  by_cases hx:x=d
  ·subst hx
   gi_wp2
   exact ⟨KeepsOthers.setCell _ _ _,⟨rfl,List.mem_append.2 (.inr (by simp)),HC.out.set _⟩,HB.out.setCell (p:=⟨w.heap.size+1,0,none⟩) (by simp) _⟩
  ·have hx':((x:Int)==(d:Int))=false:=by simp;omega
   gi_wp2
   exact ⟨KeepsOthers.refl _,Below.refl _ _,⟨fun y hy=>(List.mem_append.1 hy).elim (hp y) (fun e=>by simp at e;subst e;exact hx),HW,HC⟩,HB⟩
 case done =>
  rintro D ys W hD rfl ⟨⟨hne,_,hcr⟩,hB⟩ hK
  have h2:=hcr.cell
  have h3:=hcr.frozen
  gi_wp2
  have hK':=(KeepsOthers.setCell W ⟨w.heap.size+1,0,none⟩ (.bool false)).same D _ hK rfl
  refine ⟨by simp,.inl ⟨_,_,rfl,run_takeDeferred hK',?_⟩⟩
  have hc5:=cell_kept (hcr.set (.bool false)).cell (grownBy_putObj' _ D (.deferred none)) (fun r e=>by cases e;exact ⟨_,hK',rfl⟩)
  refine ⟨.bool false,?_,by rw [show belN l u d=false from decide_eq_false (fun h=>hne d h rfl)],(hB.setCell (p:=⟨w.heap.size+1,0,none⟩) (by simp) _).trans (belowK_b (w:=w) (Nat.le_refl _) _ D _ _ (by simp at hD;omega) hK' rfl rfl)⟩
  simp [results,Try.f41,go_sem,hc5]
 case stop =>
  rintro D c pre W hD hpre ⟨⟨rfl,hin,hcr⟩,hB⟩ hK
  gi_wp2
  refine ⟨by simp,.inl ⟨_,_,rfl,run_takeDeferred hK,?_⟩⟩
  have hc5:=cell_kept hcr.cell (grownBy_putObj' _ D (.deferred none)) (fun r e=>by cases e;exact ⟨_,hK,rfl⟩)
  refine ⟨.bool true,?_,by rw [bel_iff.2 (hpre.subset hin)],hB.trans (belowK_b (w:=w) (Nat.le_refl _) W D _ _ (by simp at hD;omega) hK rfl rfl)⟩
  simp [results,Try.f41,go_sem,hc5]
end
section
open Go.RowKit Go.Shelf
attribute [local go_sem] Oper.semAt_some
theorem Bl.keeps {W W':World} (h:Bl W W'):KeepsOthers W W':=⟨h.size,fun i _ hi _=>(Below.block h i (Array.getElem?_eq_some_iff.1 hi).1).trans hi⟩
theorem areClasses_any (A:Option Addr) (c:Nat) (l:List Cl) (x y:Int) (w:World) (hl:ClsAt w A l) :
  Calls Try.prog 40 #[.slice A l.length c,.int .i64 x,.int .i64 y] w fun e w'=>e=.returned (.bool (mayB l&&clsI l x y))∧Bl w w':=by
 have HL:Hid (ClsAt w A l):=hl
 clear hl
 have hc:clsI l x y=(decide (0≤x∧x<l.length)&&decide (0≤y∧y<l.length)):=by
  unfold clsI;rw [Bool.eq_iff_iff];simp;omega
 rw [hc]
 clear hc
 cases hm:mayB l
 ·go_enter Try.func40,Try.ntmps40
  go_wp2_with (go_at_call 21;refine (may_any _ _ _ _ HL.out).mono ?_;rintro e w1 ⟨he,hg⟩;rw [hm] at he;subst he)
  go_ret
  exact ⟨rfl,hg⟩
 ·cases hx:decide (0≤x∧x<l.length)
  ·go_enter Try.func40,Try.ntmps40
   go_wp2_with (first
    | (go_at_call 21;refine (may_any _ _ _ _ HL.out).mono ?_;rintro e w1 ⟨he,hg⟩;rw [hm] at he;subst he)
    | (go_at_call 58;refine (numbers_any _ _ _).mono ?_;rintro e w2 ⟨he,rfl⟩;rw [hx] at he;subst he))
   go_ret
   exact ⟨rfl,hg⟩
  ·go_enter Try.func40,Try.ntmps40
   go_wp2_with (first
    | (go_at_call 21;refine (may_any _ _ _ _ HL.out).mono ?_;rintro e w1 ⟨he,hg⟩;rw [hm] at he;subst he)
    | (go_at_call 58;refine (numbers_any _ _ _).mono ?_;rintro e w2 ⟨he,rfl⟩;(try rw [hx] at he);subst he))
   go_ret
   exact ⟨ret_bool (by rw [Bool.eq_iff_iff];simp),hg⟩
theorem hbelow_any (A:Option Addr) (c:Nat) (l:List Cl) (x y:Int) (w:World) (hl:ClsAt w A l) :
  Calls Try.prog 22 #[.slice A l.length c,.int .i64 x,.int .i64 y] w fun e w'=>e=.returned (.bool (belV l x y))∧Bl w w':=by
 have HL:Hid (ClsAt w A l):=hl
 clear hl
 unfold belV
 cases hm:(mayB l&&clsI l x y)
 ·rw [Bool.false_and]
  go_enter Try.func22,Try.ntmps22
  go_wp2_with (go_at_call 40;refine (areClasses_any _ _ _ _ _ _ HL.out).mono ?_;rintro e w1 ⟨he,hg⟩;rw [hm] at he;subst he)
  go_ret
  exact ⟨rfl,hg⟩
 ·rw [Bool.true_and]
  have hmm:=Bool.and_eq_true_iff.1 hm
  have HT:Hid (Tree l):=(may_tree hmm.1).1
  have hin:0≤x∧x<l.length∧0≤y∧y<l.length:=of_decide_eq_true hmm.2
  clear hmm
  obtain ⟨h1,h2,h3,h4⟩:=hin
  obtain ⟨u,rfl⟩:=Int.eq_ofNat_of_zero_le h1
  obtain ⟨d,rfl⟩:=Int.eq_ofNat_of_zero_le h3
  simp only [Int.toNat_natCast]
  have hu:u<l.length:=by omega
  clear h1 h2 h3 h4
  go_enter Try.func22,Try.ntmps22
  go_wp2_with (first
   | (go_at_call 40;refine (areClasses_any _ _ _ _ _ _ HL.out).mono ?_;rintro e w1 ⟨he,hg⟩;rw [hm] at he;subst he)
   | (go_at_call 41;refine (below_any _ _ _ _ _ HT.out hu _ (HL.out.bl hg)).mono ?_;rintro e w2 ⟨rfl,hg2⟩))
  go_ret
  exact ⟨rfl,hg.trans hg2⟩
end
structure Fut (w:World) where
 to:World
 is:Bl w to
theorem wp_region_fut {P:Program} {id:Nat} {Q:Exit→Act→World→Prop} {a:Act} {w:World} {l:List Oper} (hm:P.follows .mixedOrders=true) (hB:Region.lexB .any l.toArray=true)
  (h:Nonempty (Fut w)→wpQuiet P l.toArray (fun w'=>∃x:Fut w,w'=x.to) (fun a'=>∀w',(∃x:Fut w,w'=x.to)→Q .normal a' w') l a):(Code.region id l.toArray true).wp P Q a w :=
 wp_region_quiet (C:=fun w'=>∃x:Fut w,w'=x.to) hm hB ⟨⟨_,(Bl.refl w).drew⟩,rfl⟩ (by simpa using h ⟨⟨w,Bl.refl w⟩⟩)
theorem Calls.fut {P:Program} {f:FuncId} {args:Array Value} {w:World} {v:Value} (x:Fut w)
  (h:Calls P f args x.to fun e w'=>e=.returned v∧Bl x.to w'):Calls P f args x.to fun e w''=>e=.returned v∧∃y:Fut w,w''=y.to :=
 h.mono fun _ w'' ⟨he,hb⟩=>⟨he,⟨w'',x.is.trans hb⟩,rfl⟩
theorem Calls.fut_same {P:Program} {f:FuncId} {args:Array Value} {w:World} {v:Value} (x:Fut w)
  (h:Calls P f args x.to fun e w'=>e=.returned v∧w'=x.to):Calls P f args x.to fun e w''=>e=.returned v∧∃y:Fut w,w''=y.to :=
 h.mono fun _ _ ⟨he,hb⟩=>⟨he,x,hb⟩
theorem Calls.fut_eq {P:Program} {f:FuncId} {args:Array Value} {w:World} {v v':Value} (x:Fut w)
  (h:Calls P f args x.to fun e w'=>e=.returned v∧Bl x.to w') (hv:v=v'):Calls P f args x.to fun e w''=>e=.returned v'∧∃y:Fut w,w''=y.to :=
 hv▸Calls.fut x h
theorem Calls.fut_same_eq {P:Program} {f:FuncId} {args:Array Value} {w:World} {v v':Value} (x:Fut w)
  (h:Calls P f args x.to fun e w'=>e=.returned v∧w'=x.to) (hv:v=v'):Calls P f args x.to fun e w''=>e=.returned v'∧∃y:Fut w,w''=y.to :=
 hv▸Calls.fut_same x h
theorem fut_cell {w:World} {b o:Nat} {v:Value} (h:w.cell? ⟨b,o,none⟩=some v) (x:Fut w):x.to.cell? ⟨b,o,none⟩=some v:=x.is.cell h
end Go.Proofs.Ytgiiapenmjollaa
