import Derived.Test.YtgiiapenmjollaaSlay
import Derived.Laws.EntriesVeiled
namespace Go.Proofs.Ytgiiapenmjollaa
set_option linter.all false
set_option maxHeartbeats 40000000
open Go.RowKit
def argsN (l:List Va) (at':Nat):List Va→List Va
 | []=>l
 | v::k=>argsN (stoM l at' v) (at'+sizP [v]) k
theorem argsN_snoc:∀(l:List Va) (l0:List Va) (at':Nat) (v:Va),argsN l0 at' (l++[v])=stoM (argsN l0 at' l) (at'+sizP l) v
 | [],l0,at',v=>by simp [argsN,sizP]
 | x::l,l0,at',v=>by
  show argsN (stoM l0 at' x) (at'+sizP [x]) (l++[v])=stoM (argsN (stoM l0 at' x) (at'+sizP [x]) l) (at'+sizP (x::l)) v
  rw [argsN_snoc l,siz_one,Nat.add_assoc]
  rfl
theorem argsN_length:∀(l:List Va) (l0:List Va) (at':Nat),(argsN l0 at' l).length=l0.length
 | [],l0,at'=>rfl
 | x::l,l0,at'=>by
  show (argsN (stoM l0 at' x) (at'+sizP [x]) l).length=_
  rw [argsN_length l,stoM_length]
theorem take_snoc {l:List Va} {k:Nat} (h:k<l.length):l.take (k+1)=l.take k++[nth va0 l k]:=by
 rw [List.take_add_one,nth_get h];simp [List.getElem?_eq_getElem h]
theorem siz_im:∀(l:List Va),sizP (l.map im)=sizP l
 | []=>rfl
 | x::l=>by show (if (im x).kind=2 then 2 else 1)+sizP (l.map im)=_;rw [siz_im l,im_kind];rfl
theorem args_rel:∀(vs:List Va) (l k:List Va) (at':Nat),LRel l k→(∀v∈vs,1≤v.kind∧v.kind≤3)→at'+sizP vs≤l.length→LRel (argsP l at' vs) (argsN k at' (vs.map im))
 | [],l,k,at',h,_,_=>h
 | v::vs,l,k,at',h,hk,hs=>by
  have es:sizP (v::vs)=(if v.kind=2 then 2 else 1)+sizP vs:=rfl
  have hv:=hk v (List.mem_cons_self ..)
  show LRel (argsP (stoP l at' v) (at'+sizP [v]) vs) (argsN (stoM k at' (im v)) (at'+sizP [im v]) (vs.map im))
  have e1:sizP [im v]=sizP [v]:=by rw [siz_one,siz_one,im_kind]
  rw [e1]
  refine args_rel vs _ _ _ (h.sto (by rw [es] at hs;split at hs<;>omega) v hv (fun e=>by rw [es,if_pos e] at hs;omega)) (fun x hx=>hk x (List.mem_cons_of_mem _ hx)) ?_
  rw [sto_length,siz_one]
  rw [es] at hs
  omega
theorem writeM (lb lc n N:Nat) (l:List Va) (v:Va) (w:World) (B:LBox w lb l) (hN:l.length=N) (hn:n<N) (hl:N≤1000) (h2:v.kind=2→n+1<N) :
  Calls Try.prog 86 #[.slice (some ⟨lb,0,none⟩) N lc,.int .i64 (n:Int),mvV v] w fun e w'=>e=.returned (.tuple #[])∧LBox w' lb (stoM l n v)∧w.grownBy w' (some lb):=by
 subst hN
 by_cases hk:v.kind=2
 ·unfold stoM;rw [if_pos hk];exact write_long lb lc n l v w B (h2 hk) hl hk
 ·unfold stoM;rw [if_neg hk];exact write_num lb lc n l v w B hn hl hk
set_option maxRecDepth 100000 in
theorem newSlots_any (N:Nat) (us:List Va) (b cap:Nat) (w:World) (B:LBox w b us) (hN:N≤1000) (hfit:sizP us≤N) (hk:∀v∈us,1≤v.kind∧v.kind≤3) :
  Calls Try.prog 65 #[.int .i64 (N:Int),.slice (some ⟨b,0,none⟩) us.length cap] w fun e w'=>e=.returned (.slice (some ⟨w.heap.size,0,none⟩) N N)∧LBox w' w.heap.size (argsN (List.replicate N va0) 0 us)∧Bl w w':=by
 have hlen:us.length≤N:=by have:=sizP_ge us;omega
 have hmk:=make_sl N (by omega)
 have HB:=hid B
 have HK:=hid hk
 have HFIT:=hid hfit
 have HS:Hid (Bl w (w.alloc (.cells (vaCells (List.replicate N va0)).toArray 109))∧LBox (w.alloc (.cells (vaCells (List.replicate N va0)).toArray 109)) w.heap.size (argsN (List.replicate N va0) 0 (us.take 0))) :=
  ⟨(Bl.refl w).alloc _,LBox.new w _⟩
 clear B hk hfit
 go_enter Try.func65,Try.ntmps65
 go_wp2
 go_loopw [6,13] (fun at' i wr=>∃j:Nat,j≤us.length∧i=.int .i64 j∧at'=.int .i64 ((sizP (us.take j):Nat):Int)∧Hid (Bl w wr∧LBox wr w.heap.size (argsN (List.replicate N va0) 0 (us.take j)))) (fun _ i _=>us.length-(intOf i).toNat)
 case atStart=>exact ⟨0,Nat.zero_le _,rfl,by simp [sizP],HS.out⟩
 case round =>
  clear HS hmk
  obtain ⟨j,hj,rfl,rfl,HR⟩:=hrel
  by_cases hjl:j<us.length
  ·have hB:=HB.out.bl HR.out.1
   have x0:=hB.c0 hjl
   have x1:=hB.c1 hjl
   have ets:=take_snoc hjl
   have hv:=HK.out _ (nth_mem (d:=va0) hjl)
   generalize hV:nth va0 us j=v at *
   have hsz:sizP (us.take (j+1))=sizP (us.take j)+(if v.kind=2 then 2 else 1):=by rw [ets,sizP_append,siz_one]
   have hle:sizP (us.take (j+1))≤N:=Nat.le_trans (sizP_takeLe us _) HFIT.out
   have hwd:widI v.kind=(if v.kind=2 then 2 else 1:Nat):=by unfold widI;rw [if_neg (by omega)];split<;>rfl
   have HSZ:=hid hsz
   have hlt:sizP (us.take j)<N:=by split at hsz<;>omega
   have h2:v.kind=2→sizP (us.take j)+1<N:=fun e=>by rw [if_pos e] at hsz;omega
   have HETS:=hid ets
   have HV:=hid hv
   have H2:=hid h2
   obtain ⟨S,hS⟩:∃S,sizP (us.take j)=S:=⟨_,rfl⟩
   have HSE:=hid hS
   obtain ⟨W,hW⟩:∃W,widI v.kind=W:=⟨_,rfl⟩
   have HW:=hid (hW.symm.trans hwd)
   have hWb:0≤W∧W≤2:=by rw [←hW];exact widI_bounds _
   rw [hS]
   rw [hS] at hlt
   clear hB hsz hle hwd h2 ets hv hV
   have bn:=blk_new wr #[.int .i64 v.kind,.int .i64 v.n] 109
   have HBN:=hid bn
   have HNE:Hid (w.heap.size<wr.heap.size):=lt_some HR.out.2.blk
   clear bn hS
   go_wp2_with (first
    | (go_at_call 86;refine (writeM w.heap.size N S N (argsN (List.replicate N va0) 0 (us.take j)) v _ (HR.out.2.bl ((Bl.refl wr).alloc _)) (by rw [argsN_length];simp) hlt hN (by rw [←HSE.out];exact H2.out)).mono ?_;rintro e w1 ⟨rfl,L1,G1⟩;have y0:=c0_of (grown_blk G1 HBN.out (fun e=>by have:=HNE.out;have:=Option.some.inj e;omega));have L1:=hid L1;have G1:=hid G1)
    | (go_at_call 82;refine (width_any _ _).mono ?_;rintro e w2 ⟨he,hw2⟩;rw [hW] at he;subst he;rw [hw2];clear hw2 w2))
   go_roundw
   case rel =>
    have hS:=HSE.out
    have hsz:=HSZ.out
    have hWW:=HW.out
    refine ⟨j+1,by omega,by go_num,?_,?_,?_⟩
    ·rw [hsz,hS,hWW];simp
    ·refine Below.grown (HR.out.1.trans ((Bl.refl wr).alloc _)) G1.out ?_ (fun k hk=>?_)
     ·exact (HR.out.1.trans ((Bl.refl wr).alloc _)).size
     ·cases hk;exact Nat.le_refl _
    ·rw [HETS.out,argsN_snoc,Nat.zero_add,hS];exact L1.out
   case measure=>simp [intOf];omega
  ·obtain rfl:j=us.length:=by omega
   go_wp2
   go_ret
   have:=HR.out.2
   rw [List.take_length] at this
   exact ⟨rfl,this,HR.out.1⟩
theorem own_lastC {w:World} {base:Nat} {e:TypeId} {vs:Value} {l:List Nat} {v:Nat} (h:w.ownsRow base e 3 vs (l.length+1) (callCells (l++[v]))):∃gb cap,vs=.slice (some ⟨gb,0,none⟩) (l.length+1) cap∧l.length+1≤cap∧cap≤maxLen∧gb<w.heap.size
  ∧ w.cell? ⟨gb,l.length*3,none⟩=some (.func (.func 66) #[.pointer (some ⟨v,0,none⟩)] #[])∧w.cell? ⟨gb,l.length*3+1,none⟩=some (.func (.func 67) #[.pointer (some ⟨v,0,none⟩)] #[])∧w.cell? ⟨gb,l.length*3+2,none⟩=some (.func (.func 68) #[.pointer (some ⟨v,0,none⟩)] #[]):=by
 rcases h.2 with ⟨_,h0⟩|⟨gb,cap,cur,rfl,hg,hh,hn,hcap,hsz,htake⟩
 ·omega
 ·have hl:=callCells_length l
  have hx:∀i,i<3→(callCells (l++[v]))[l.length*3+i]?=(funs v)[i]?:=by
   intro i hi
   rw [callCells_append,List.getElem?_append_right (by omega),hl]
   simp [callCells]
  have hy:∀i,i<3→w.cell? ⟨gb,l.length*3+i,none⟩=(funs v)[i]?:=by
   intro i hi
   rw [←hx i hi,←htake,List.getElem?_take,if_pos (by omega),cell_blk hh]
   simp
  exact ⟨gb,cap,rfl,hn,hcap,lt_some hh,hy 0 (by decide),hy 1 (by decide),hy 2 (by decide)⟩
theorem own_popC {w:World} {base:Nat} {e:TypeId} {gb cap:Nat} {l:List Nat} {v:Nat} (h:w.ownsRow base e 3 (.slice (some ⟨gb,0,none⟩) (l.length+1) cap) (l.length+1) (callCells (l++[v]))) :
  w.ownsRow base e 3 (.slice (some ⟨gb,0,none⟩) l.length cap) l.length (callCells l):=by
 obtain ⟨h1,h2⟩:=h
 rcases h2 with ⟨h0,_⟩|⟨g',cap',cur,hv,hg,hh,hn,hcap,hsz,htake⟩
 ·cases h0
 ·cases hv
  refine ⟨callCells_length l,.inr ⟨gb,cap,cur,rfl,hg,hh,by omega,hcap,hsz,?_⟩⟩
  have h3:(cur.toList.take ((l.length+1)*3)).take (l.length*3)=(callCells (l++[v])).take (l.length*3):=by rw [htake]
  rw [List.take_take,Nat.min_eq_left (by omega)] at h3
  rw [h3,callCells_append,←callCells_length l]
  simp
theorem HX.setc {s:Nat} {X:Nat→Prop} {wx w0 w:World} {g:Mg} {h:Hp} {qs qs':List Nat} {vc vo vx vc':Value} (R:RH s w0 g w h qs vc vo vx) (hf:∀b,X b→FarR g vc vo vx b) (hK:KeptX X wx w)
  (ho:w.ownsRow w0.heap.size 93 3 vc' qs'.length (callCells qs')) (hb:vc'.ownBlock=vc.ownBlock):HX s X wx w0 g (w.setCell ⟨g.r,3,none⟩ vc') h qs':=by
 have hg:=grown_set (w:=w) g.r 3 vc'
 obtain ⟨n,D,F⟩:=R.fld
 have hrm:g.r≠g.mp:=map_ne R.run F.own
 have hne:∀v:Value,v.ownBlock≠some g.r→(v.ownBlock=none∨v.ownBlock≠some g.r):=fun v hv=>Or.inr hv
 refine ⟨vc',vo,vx,⟨R.ownr,R.ownh,R.ownm,Below.grown R.bl hg R.bl.size (fun k hk=>by cases hk;exact R.ownr),?_,?_,?_,?_,?_,n,D,?_,F.few,F.hit,F.miss,F.new,F.ks,F.kd⟩,fun b hx=>?_,hK.kept hg (fun b e hx=>?_)⟩
 ·rw [block_set R.run];rfl
 ·exact grown_blk hg R.hp (fun e=>blk_ne R.run R.hp (by decide) (Option.some.inj e))
 ·exact R.out.kept hg (Or.inr (own_far R.out R.run (by decide)))
 ·exact R.obs.kept hg (Or.inr (own_far R.obs R.run (by decide)))
 ·exact ho.kept hg (Or.inr (own_far ho R.run (by decide)))
 ·exact F.own.kept hg (fun e=>hrm (Option.some.inj e.symm))
 ·have:=hf b hx
  exact ⟨this.r,this.h,this.m,by rw [hb];exact this.c,this.o,this.x⟩
 ·cases e;exact (hf g.r hx).r rfl
set_option maxRecDepth 100000 in
theorem drop_any (s:Nat) (X:Nat→Prop) (wx w0:World) (g:Mg) (h:Hp) (qs:List Nat) (q:Nat) (w:World) (H:HX s X wx w0 g w h (qs++[q])) :
  Calls Try.prog 115 #[.pointer (some ⟨g.r,0,none⟩)] w fun e w'=>e=.returned (.tuple #[])∧HX s X wx w0 g w' h qs:=by
 obtain ⟨vc,vo,vx,R,hf,hK⟩:=H
 have hk:=R.calls
 have e1:(qs++[q]).length=qs.length+1:=by simp
 rw [e1] at hk
 obtain ⟨gb,cap,rfl,h1,h2,h3,h4,h5,h6⟩:=own_lastC hk
 have HP:=hid (own_popC hk)
 have hr:w.cell? ⟨g.r,3,none⟩=some (.slice (some ⟨gb,0,none⟩) (qs.length+1) cap):=by rw [cell_blk R.run];rfl
 have fz:∀i,w.frozen? ⟨g.r,i,none⟩=false:=free_blk R.run
 have HE:Hid (HX s X wx w0 g (w.setCell ⟨g.r,3,none⟩ (.slice (some ⟨gb,0,none⟩) qs.length cap)) h qs):=HX.setc R hf hK HP.out rfl
 clear hk R hf hK h4 h5 h6 e1
 unfold maxLen at h2
 have hn1:((qs.length:Int)+1-1)=(qs.length:Int):=by omega
 have hw:IntKind.i64.wrap (qs.length:Int)=(qs.length:Int):=by rw [IntKind.wrap_i64];omega
 go_enter Try.func115,Try.ntmps115
 go_wp2
 go_region
 all_goals go_wp2
 all_goals go_end0
 all_goals exact ⟨rfl,HE.out.bl (Bl.refl _).drew⟩
theorem info_call:(Try.prog.info? 93).map (·.size)=some 3:=by kernel_rfl
set_option maxRecDepth 100000 in
theorem top_any (s:Nat) (X:Nat→Prop) (wx w0:World) (g:Mg) (h:Hp) (qs:List Nat) (q:Nat) (w:World) (H:HX s X wx w0 g w h (qs++[q])) :
  Calls Try.prog 116 #[.pointer (some ⟨g.r,0,none⟩)] w fun e w'=>e=.returned (.agg (funs q).toArray)∧Bl w w':=by
 obtain ⟨vc,vo,vx,R,hf,hK⟩:=H
 have hk:=R.calls
 have e1:(qs++[q]).length=qs.length+1:=by simp
 rw [e1] at hk
 obtain ⟨gb,cap,rfl,h1,h2,h3,h4,h5,h6⟩:=own_lastC hk
 have hr:w.cell? ⟨g.r,3,none⟩=some (.slice (some ⟨gb,0,none⟩) (qs.length+1) cap):=by rw [cell_blk R.run];rfl
 have hlr:=lt_some R.run
 clear hk R hf hK e1
 unfold maxLen at h2
 have hn1:((qs.length:Int)+1-1)=(qs.length:Int):=by omega
 have hw:IntKind.i64.wrap (qs.length:Int)=(qs.length:Int):=by rw [IntKind.wrap_i64];omega
 go_enter Try.func116,Try.ntmps116
 go_wp2
 have hVb:Hid (Bl w (w.alloc (.cells #[.nilFunc,.nilFunc,.nilFunc] 93))):=(Bl.refl w).alloc _
 have q0:=blk_new w #[.nilFunc,.nilFunc,.nilFunc] 93
 have k3:=hVb.out.cell hr
 have k4:=hVb.out.cell h4
 have k5:=hVb.out.cell h5
 have k6:=hVb.out.cell h6
 obtain ⟨B,hBB⟩:∃B,B=w.heap.size:=⟨_,rfl⟩
 rw [←hBB] at q0
 simp only [←hBB]
 have hB:Hid (w.heap.size≤B):=Nat.le_of_eq hBB.symm
 have hne:B≠g.r:=by omega
 have hne2:B≠gb:=by omega
 have hlt:(qs.length:Int)<(qs.length:Int)+1:=by omega
 have m3:=hid hr
 have m4:=hid h4
 have m5:=hid h5
 have m6:=hid h6
 clear hBB
 generalize w.alloc (.cells #[.nilFunc,.nilFunc,.nilFunc] 93)=V at *
 have v0:V.cell? ⟨B,0,none⟩=some .nilFunc:=by rw [cell_blk q0];rfl
 have v1:V.cell? ⟨B,1,none⟩=some .nilFunc:=by rw [cell_blk q0];rfl
 have v2:V.cell? ⟨B,2,none⟩=some .nilFunc:=by rw [cell_blk q0];rfl
 have fz:=free_blk q0
 replace q0:=hid q0
 clear hr h4 h5 h6
 refine wp_region_held_drew (S:=fun w'=>w'.cell? ⟨g.r,3,none⟩=some (.slice (some ⟨gb,0,none⟩) (qs.length+1) cap)∧w'.cell? ⟨gb,qs.length*3,none⟩=some (.func (.func 66) #[.pointer (some ⟨q,0,none⟩)] #[])∧w'.cell? ⟨gb,qs.length*3+1,none⟩=some (.func (.func 67) #[.pointer (some ⟨q,0,none⟩)] #[])∧w'.cell? ⟨gb,qs.length*3+2,none⟩=some (.func (.func 68) #[.pointer (some ⟨q,0,none⟩)] #[])) (by kernel_rfl) ?_ (fun hHeld0=>?_)
 ·exact ⟨k3,k4,k5,k6⟩
 refine tk (i:=0) (d:=some 3) rfl rfl (by kernel_rfl) (fun _ _ _ h=>h) (by rfl) (by intro _ h;(try dsimp only at h);go_split_ands;go_simp<;>with_reducible rfl) hHeld0 ?_
 try simp only [aS,aN,aT,a0,a1]
 refine tk (i:=1) (d:=some 4) rfl rfl (by kernel_rfl) (fun _ _ _ h=>h) (by rfl) (by intro _ h;(try dsimp only at h);go_split_ands;go_simp<;>with_reducible rfl) hHeld0 ?_
 try simp only [aS,aN,aT,a0,a1]
 refine tk (i:=2) (d:=some 5) rfl rfl (by kernel_rfl) (fun _ _ _ h=>h) (by rfl) (by intro _ h;(try dsimp only at h);go_split_ands;go_simp<;>with_reducible rfl) hHeld0 ?_
 try simp only [aS,aN,aT,a0,a1]
 refine tk (i:=3) (d:=some 6) rfl rfl (by kernel_rfl) (fun _ _ _ h=>h) (by rfl) (by intro _ h;(try dsimp only at h);go_split_ands;go_simp<;>with_reducible rfl) hHeld0 ?_
 try simp only [aS,aN,aT,a0,a1]
 refine tk (i:=4) (d:=some 7) rfl rfl (by kernel_rfl) (fun _ _ _ h=>h) (by rfl) (by intro _ h;(try dsimp only at h);go_split_ands;go_simp<;>with_reducible rfl) hHeld0 ?_
 try simp only [aS,aN,aT,a0,a1]
 refine tk (i:=5) (d:=some 8) rfl rfl (by kernel_rfl) (fun _ _ _ h=>h) (by rfl) (by intro _ h;(try dsimp only at h);go_split_ands;go_simp<;>with_reducible rfl) hHeld0 ?_
 try simp only [aS,aN,aT,a0,a1]
 refine tk (i:=6) (d:=some 9) rfl rfl (by kernel_rfl) (fun _ _ _ h=>h) (by rfl) (by intro _ h;(try dsimp only at h);go_split_ands;go_simp<;>with_reducible rfl) hHeld0 ?_
 try simp only [aS,aN,aT,a0,a1]
 refine tk (i:=7) (d:=some 10) rfl rfl (by kernel_rfl) (fun _ _ _ h=>h) (by rfl) (by intro _ h;(try dsimp only at h);go_split_ands;go_simp<;>with_reducible rfl) hHeld0 ?_
 try simp only [aS,aN,aT,a0,a1]
 refine tk (i:=8) (d:=some 11) rfl rfl (by kernel_rfl) (fun _ _ _ h=>h) (by rfl) (by intro _ h;(try dsimp only at h);go_split_ands;go_simp<;>with_reducible rfl) hHeld0 ?_
 try simp only [aS,aN,aT,a0,a1]
 refine tk (i:=9) (d:=some 12) rfl rfl (by kernel_rfl) (fun _ _ _ h=>h) (by rfl) (by intro _ h;(try dsimp only at h);go_split_ands;go_simp<;>with_reducible rfl) hHeld0 ?_
 try simp only [aS,aN,aT,a0,a1]
 refine tk (i:=10) (d:=some 13) rfl rfl (by kernel_rfl) (fun _ _ _ h=>h) (by rfl) (by intro _ h;(try dsimp only at h);go_split_ands;go_simp<;>with_reducible rfl) hHeld0 ?_
 try simp only [aS,aN,aT,a0,a1]
 refine tk (i:=11) (d:=some 14) rfl rfl (by kernel_rfl) (fun _ _ _ h=>h) (by rfl) (by intro _ h;(try dsimp only at h);go_split_ands;go_simp<;>with_reducible rfl) hHeld0 ?_
 try simp only [aS,aN,aT,a0,a1]
 refine rd1 (i:=12) (by kernel_rfl) rfl fun K hK=>?_
 go_wp2_with fail
 have hV3:Bl w (((V.setCell ⟨B,0,none⟩ (.func (.func 66) #[.pointer (some ⟨q,0,none⟩)] #[])).setCell ⟨B,1,none⟩ (.func (.func 67) #[.pointer (some ⟨q,0,none⟩)] #[])).setCell ⟨B,2,none⟩ (.func (.func 68) #[.pointer (some ⟨q,0,none⟩)] #[])):=((hVb.out.setCell (p:=⟨B,0,none⟩) hB.out _).setCell (p:=⟨B,1,none⟩) hB.out _).setCell (p:=⟨B,2,none⟩) hB.out _
 have q3:(((V.setCell ⟨B,0,none⟩ (.func (.func 66) #[.pointer (some ⟨q,0,none⟩)] #[])).setCell ⟨B,1,none⟩ (.func (.func 67) #[.pointer (some ⟨q,0,none⟩)] #[])).setCell ⟨B,2,none⟩ (.func (.func 68) #[.pointer (some ⟨q,0,none⟩)] #[])).heap[B]?=some (.cells (funs q).toArray 93 (0,0)):=by rw [block_set (block_set (block_set q0.out _) _) _];rfl
 refine hK.out _ _ ⟨hV3.cell m3.out,hV3.cell m4.out,hV3.cell m5.out,hV3.cell m6.out⟩ (fun hHeld1=>?_)
 try simp only [aS,aN,aT,a0,a1]
 refine wpAnyH_done (by kernel_rfl) ?_ _
 replace hV3:=hid hV3
 replace q3:=hid q3
 go_wp2
 refine bodyPost_ret (results_cell_row rfl _ _ B _ _ _ _ rfl q3.out Try.underlying93 rfl info_call) rfl ?_
 exact ⟨rfl,hV3.out.drew⟩
theorem newSlots_int (k:Int) (N:Nat) (hkN:k=(N:Int)) (us:List Va) (b cap:Nat) (w:World) (B:LBox w b us) (hN:N≤1000) (hfit:sizP us≤N) (hk:∀v∈us,1≤v.kind∧v.kind≤3) :
  Calls Try.prog 65 #[.int .i64 k,.slice (some ⟨b,0,none⟩) us.length cap] w fun e w'=>e=.returned (.slice (some ⟨w.heap.size,0,none⟩) N N)∧LBox w' w.heap.size (argsN (List.replicate N va0) 0 us)∧Bl w w':=by
 subst hkN;exact newSlots_any N us b cap w B hN hfit hk
theorem args_length:∀(l:List Va) (l0:List Va) (at':Nat),(argsP l0 at' l).length=l0.length
 | [],l0,at'=>rfl
 | x::l,l0,at'=>by
  show (argsP (stoP l0 at' x) (at'+sizP [x]) l).length=_
  rw [args_length l,sto_length]
def newRow (g:Mg) (m:Me) (P C J:Option Addr) (p c k lb N:Nat):Array Value :=
 #[.pointer (some ⟨g.hb,0,none⟩),.pointer (some ⟨g.r,0,none⟩),.slice P m.params.length p,.int .i64 m.ret.kind,.int .i64 m.ret.cls,.int .i64 m.stack,.int .i64 m.locs,.int .i64 m.regs,.slice C m.code.length c,.slice J m.hands.length k,.int .i64 0,.slice (some ⟨lb,0,none⟩) N N,.slice none 0 0]
structure Begun (g:Mg) (m:Me) (P C J:Option Addr) (p c k N:Nat) (us:List Va) (w:World) (q:Nat) (w':World):Prop where
 bl:Bl w w'
 own:w.heap.size≤q
 blk:w'.heap[q]?=some (.cells (newRow g m P C J p c k (w.heap.size+1+1) N) 102 (0,0))
 loc:LBox w' (w.heap.size+1+1) (argsN (List.replicate N va0) 0 us)
def BeginQ (g:Mg) (m:Me) (P C J:Option Addr) (p c k N:Nat) (us:List Va) (w:World) (e:Ending) (w':World):Prop:=∃q,e=.returned (.agg (funs q).toArray)∧Begun g m P C J p c k N us w q w'
set_option maxRecDepth 100000 in
theorem begin_any (g:Mg) (m:Me) (P C J:Option Addr) (p c k N b cap:Nat) (us:List Va) (w:World) (h0:w.cell? ⟨g.r,0,none⟩=some (.pointer (some ⟨g.hb,0,none⟩))) (hkN:m.locs=(N:Int)) (B:LBox w b us) (hN:N≤1000) (hfit:sizP us≤N) (hk:∀v∈us,1≤v.kind∧v.kind≤3) :
  Calls Try.prog 51 #[.pointer (some ⟨g.r,0,none⟩),meV m P C J p c k,.slice (some ⟨b,0,none⟩) us.length cap] w fun e w'=>BeginQ g m P C J p c k N us w e w':=by
 have HNS:Hid (∀w',Bl w w'→Calls Try.prog 65 #[.int .i64 m.locs,.slice (some ⟨b,0,none⟩) us.length cap] w' fun e w2=>e=.returned (.slice (some ⟨w'.heap.size,0,none⟩) N N)∧LBox w2 w'.heap.size (argsN (List.replicate N va0) 0 us)∧Bl w' w2) :=
  fun w' hb=>newSlots_int m.locs N hkN us b cap w' (B.bl hb) hN hfit hk
 have hmf:∀(fn:Fn) (first cap:Array Value) (w:World),(Instr.makeFunc fn first cap).run Try.prog w=.ok (.func fn first cap) w:=fun _ _ _ _=>rfl
 have hlr:=cell_lt h0
 have HAL:Hid (Bl w ((w.alloc (meO m P C J p c k)).alloc (.cells #[.nilFunc,.nilFunc,.nilFunc] 93))):=((Bl.refl w).alloc _).alloc _
 have q0:((w.alloc (meO m P C J p c k)).alloc (.cells #[.nilFunc,.nilFunc,.nilFunc] 93)).heap[w.heap.size+1]?=some (.cells #[.nilFunc,.nilFunc,.nilFunc] 93 (0,0)):=by
  have:=blk_new (w.alloc (meO m P C J p c k)) #[.nilFunc,.nilFunc,.nilFunc] 93
  rwa [World.size_alloc] at this
 have Q0:=hid q0
 have HT:Hid (∀w',Bl ((w.alloc (meO m P C J p c k)).alloc (.cells #[.nilFunc,.nilFunc,.nilFunc] 93)) w'→(fun w'=>Hid (Bl ((w.alloc (meO m P C J p c k)).alloc (.cells #[.nilFunc,.nilFunc,.nilFunc] 93)) w')∧w'.cell? ⟨g.r,0,none⟩=some (.pointer (some ⟨g.hb,0,none⟩))∧w'.cell? ⟨w.heap.size,0,none⟩=some (.slice P m.params.length p)∧w'.cell? ⟨w.heap.size,1,none⟩=some (.int .i64 m.ret.kind)∧w'.cell? ⟨w.heap.size,2,none⟩=some (.int .i64 m.ret.cls)∧w'.cell? ⟨w.heap.size,3,none⟩=some (.int .i64 m.stack)∧w'.cell? ⟨w.heap.size,4,none⟩=some (.int .i64 m.locs)∧w'.cell? ⟨w.heap.size,5,none⟩=some (.int .i64 m.regs)∧w'.cell? ⟨w.heap.size,6,none⟩=some (.slice C m.code.length c)∧w'.cell? ⟨w.heap.size,7,none⟩=some (.slice J m.hands.length k)) w'):=fun w' hb=>by
  have hb2:Bl (w.alloc (meO m P C J p c k)) w':=((Bl.refl _).alloc _).trans hb
  exact ⟨hb,hb.cell (HAL.out.cell h0),hb2.cell (cell_of_new rfl),hb2.cell (cell_of_new rfl),hb2.cell (cell_of_new rfl),hb2.cell (cell_of_new rfl),hb2.cell (cell_of_new rfl),hb2.cell (cell_of_new rfl),hb2.cell (cell_of_new rfl),hb2.cell (cell_of_new rfl)⟩
 clear B hk hfit h0 hkN q0
 go_enter Try.func51,Try.ntmps51
 go_wp2
 refine wp_region_held_drew (S:=fun w'=>Hid (Bl ((w.alloc (meO m P C J p c k)).alloc (.cells #[.nilFunc,.nilFunc,.nilFunc] 93)) w')∧w'.cell? ⟨g.r,0,none⟩=some (.pointer (some ⟨g.hb,0,none⟩))∧w'.cell? ⟨w.heap.size,0,none⟩=some (.slice P m.params.length p)∧w'.cell? ⟨w.heap.size,1,none⟩=some (.int .i64 m.ret.kind)∧w'.cell? ⟨w.heap.size,2,none⟩=some (.int .i64 m.ret.cls)∧w'.cell? ⟨w.heap.size,3,none⟩=some (.int .i64 m.stack)∧w'.cell? ⟨w.heap.size,4,none⟩=some (.int .i64 m.locs)∧w'.cell? ⟨w.heap.size,5,none⟩=some (.int .i64 m.regs)∧w'.cell? ⟨w.heap.size,6,none⟩=some (.slice C m.code.length c)∧w'.cell? ⟨w.heap.size,7,none⟩=some (.slice J m.hands.length k)) (by kernel_rfl) ?_ (fun hHeld0=>?_)
 ·exact HT.out _ (Bl.refl _).drew
 refine tk (i:=0) (d:=some 8) rfl rfl (by kernel_rfl) (fun _ _ _ h=>h) (by rfl) (by intro _ h;(try dsimp only at h);go_split_ands;go_simp<;>with_reducible rfl) hHeld0 ?_
 try simp only [aS,aN,aT,a0,a1]
 refine tk (i:=1) (d:=some 9) rfl rfl (by kernel_rfl) (fun _ _ _ h=>h) (by rfl) (by intro _ h;(try dsimp only at h);go_split_ands;go_simp<;>with_reducible rfl) hHeld0 ?_
 try simp only [aS,aN,aT,a0,a1]
 refine tk (i:=2) (d:=some 10) rfl rfl (by kernel_rfl) (fun _ _ _ h=>h) (by rfl) (by intro _ h;(try dsimp only at h);go_split_ands;go_simp<;>with_reducible rfl) hHeld0 ?_
 try simp only [aS,aN,aT,a0,a1]
 refine tk (i:=3) (d:=some 11) rfl rfl (by kernel_rfl) (fun _ _ _ h=>h) (by rfl) (by intro _ h;(try dsimp only at h);go_split_ands;go_simp<;>with_reducible rfl) hHeld0 ?_
 try simp only [aS,aN,aT,a0,a1]
 refine tk (i:=4) (d:=some 12) rfl rfl (by kernel_rfl) (fun _ _ _ h=>h) (by rfl) (by intro _ h;(try dsimp only at h);go_split_ands;go_simp<;>with_reducible rfl) hHeld0 ?_
 try simp only [aS,aN,aT,a0,a1]
 refine tk (i:=5) (d:=some 13) rfl rfl (by kernel_rfl) (fun _ _ _ h=>h) (by rfl) (by intro _ h;(try dsimp only at h);go_split_ands;go_simp<;>with_reducible rfl) hHeld0 ?_
 try simp only [aS,aN,aT,a0,a1]
 refine tk (i:=6) (d:=some 14) rfl rfl (by kernel_rfl) (fun _ _ _ h=>h) (by rfl) (by intro _ h;(try dsimp only at h);go_split_ands;go_simp<;>with_reducible rfl) hHeld0 ?_
 try simp only [aS,aN,aT,a0,a1]
 refine tk (i:=7) (d:=some 15) rfl rfl (by kernel_rfl) (fun _ _ _ h=>h) (by rfl) (by intro _ h;(try dsimp only at h);go_split_ands;go_simp<;>with_reducible rfl) hHeld0 ?_
 try simp only [aS,aN,aT,a0,a1]
 refine tk (i:=8) (d:=some 16) rfl rfl (by kernel_rfl) (fun _ _ _ h=>h) (by rfl) (by intro _ h;(try dsimp only at h);go_split_ands;go_simp<;>with_reducible rfl) hHeld0 ?_
 try simp only [aS,aN,aT,a0,a1]
 refine rd1 (i:=9) (by kernel_rfl) rfl fun K hK=>?_
 go_simp
 go_at_call 65
 refine (HNS.out _ (HAL.out.trans hHeld0.1.out)).mono ?_
 rintro e w1 ⟨rfl,L1,b1⟩
 have hL1:=hid L1
 have hb1:=hid b1
 clear L1
 go_wp2_with fail
 refine hK.out _ _ (HT.out _ (hHeld0.1.out.trans b1)) (fun hHeld1=>?_)
 try simp only [aS,aN,aT,a0,a1]
 refine tk (i:=10) (d:=some 18) rfl rfl (by kernel_rfl) (fun _ _ _ h=>h) (by rfl) (by intro _ h;(try dsimp only at h);go_split_ands;go_simp<;>with_reducible rfl) hHeld1 ?_
 try simp only [aS,aN,aT,a0,a1]
 refine rd1 (i:=11) (by kernel_rfl) rfl fun K hK=>?_
 go_wp2_with fail
 refine hK.out _ _ (HT.out _ (hHeld1.1.out.alloc _)) (fun hHeld2=>?_)
 try simp only [aS,aN,aT,a0,a1]
 refine tk (i:=12) (d:=some 7) rfl rfl (by kernel_rfl) (fun _ _ _ h=>h) (by rfl) (by intro _ h;(try dsimp only at h);go_split_ands;go_simp<;>with_reducible rfl) hHeld2 ?_
 try simp only [aS,aN,aT,a0,a1]
 refine wpAnyH_done (by kernel_rfl) ?_ _
 obtain ⟨V,hV⟩:∃V,V=w1.alloc (.cells (newRow g m P C J p c k (w.heap.size+1+1) N) 102):=⟨_,rfl⟩
 have hb0:=hHeld1.1.out
 have hW1:Bl w1 V:=by rw [hV];exact (Bl.refl w1).alloc _
 have hszW:((w.alloc (meO m P C J p c k)).alloc (.cells #[.nilFunc,.nilFunc,.nilFunc] 93)).drew.heap.size=w.heap.size+1+1:=by simp
 have hL2:Hid (LBox V (w.heap.size+1+1) (argsN (List.replicate N va0) 0 us)):=by have:=hL1.out.bl hW1;rwa [hszW] at this
 have hB2:Hid (Bl w V):=(HAL.out.trans hb0).trans hW1
 have hQ2:Hid (V.heap[w1.heap.size]?=some (.cells (newRow g m P C J p c k (w.heap.size+1+1) N) 102 (0,0))):=by rw [hV];exact blk_new _ _ _
 have q1:V.heap[w.heap.size+1]?=some (.cells #[.nilFunc,.nilFunc,.nilFunc] 93 (0,0)):=bl_blk (hb0.trans hW1) Q0.out
 have hown:Hid (w.heap.size+1+1≤w1.heap.size):=by rw [←hszW];exact hb1.out.size
 unfold newRow at hV
 rw [←hV]
 clear hV hW1 hszW hb0
 clear hHeld0 hHeld1 hHeld2
 obtain ⟨qq,hqq⟩:∃qq,qq=w1.heap.size:=⟨_,rfl⟩
 rw [←hqq] at hQ2 hown
 simp only [←hqq]
 clear hqq
 have v0:V.cell? ⟨w.heap.size+1,0,none⟩=some .nilFunc:=by rw [cell_blk q1];rfl
 have v1:V.cell? ⟨w.heap.size+1,1,none⟩=some .nilFunc:=by rw [cell_blk q1];rfl
 have v2:V.cell? ⟨w.heap.size+1,2,none⟩=some .nilFunc:=by rw [cell_blk q1];rfl
 have fz:=free_blk q1
 replace q1:=hid q1
 go_wp2
 have q3:(((V.setCell ⟨w.heap.size+1,0,none⟩ (.func (.func 66) #[.pointer (some ⟨qq,0,none⟩)] #[])).setCell ⟨w.heap.size+1,1,none⟩ (.func (.func 67) #[.pointer (some ⟨qq,0,none⟩)] #[])).setCell ⟨w.heap.size+1,2,none⟩ (.func (.func 68) #[.pointer (some ⟨qq,0,none⟩)] #[])).heap[w.heap.size+1]?=some (.cells (funs qq).toArray 93 (0,0)):=by rw [block_set (block_set (block_set q1.out _) _)];rfl
 refine bodyPost_ret (results_cell_row rfl _ _ (w.heap.size+1) _ _ _ _ rfl q3 Try.underlying93 rfl info_call) rfl ?_
 have hq9:=hown.out
 refine ⟨qq,rfl,((hB2.out.setCell (p:=⟨w.heap.size+1,0,none⟩) (Nat.le_succ _) _).setCell (p:=⟨w.heap.size+1,1,none⟩) (Nat.le_succ _) _).setCell (p:=⟨w.heap.size+1,2,none⟩) (Nat.le_succ _) _,by omega,?_,⟨?_⟩⟩
 ·rw [block_far (by omega),block_far (by omega),block_far (by omega)];exact hQ2.out
 ·rw [block_far (by omega),block_far (by omega),block_far (by omega)];exact hL2.out.blk
end Go.Proofs.Ytgiiapenmjollaa
