import Derived.Test.YtimjmdfokicbkabGreatRlbb
import Derived.Laws.EntriesVeiled
namespace Go.Proofs.YtimjmdfokicbkabGreat
set_option linter.unusedVariables false
set_option linter.unusedSimpArgs false
set_option maxHeartbeats 40000000
open Go.RowKit
theorem own_lastC {w:World} {base:Nat} {e:TypeId} {vs:Value} {l:List Qb} {v:Qb} (h:w.ownsRow base e 3 vs (l.length+1) (callCells (l++[v]))):∃gb cap,vs=.slice (some ⟨gb,0,none⟩) (l.length+1) cap∧l.length+1≤cap∧cap≤maxLen∧gb<w.heap.size
  ∧ w.cell? ⟨gb,l.length*3,none⟩=some (.func (.func 15) #[.pointer (some ⟨v.q,0,none⟩)] #[])∧w.cell? ⟨gb,l.length*3+1,none⟩=some (.func (.func 14) #[] #[.pointer (some ⟨v.bx,0,none⟩)])∧w.cell? ⟨gb,l.length*3+2,none⟩=some (.func (.func 16) #[.pointer (some ⟨v.q,0,none⟩)] #[]):=by
 rcases h.2 with ⟨_,h0⟩|⟨gb,cap,cur,rfl,hg,hh,hn,hcap,hsz,htake⟩
 ·omega
 ·have hl:=callCells_length l
  have hx:∀i,i<3→(callCells (l++[v]))[l.length*3+i]?=(funs v)[i]?:=by
   intro i hi
   rw [callCells_append,List.getElem?_append_right (by omega),hl]
   simp [callCells]
  have hy:∀i,i<3→w.cell? ⟨gb,l.length*3+i,none⟩=(funs v)[i]?:=by
   intro i hi
   rw [←hx i hi,←htake,List.getElem?_take,if_pos (by omega),cell_blk hh]
   simp
  exact ⟨gb,cap,rfl,hn,hcap,lt_some hh,hy 0 (by decide),hy 1 (by decide),hy 2 (by decide)⟩
theorem own_popC {w:World} {base:Nat} {e:TypeId} {gb cap:Nat} {l:List Qb} {v:Qb} (h:w.ownsRow base e 3 (.slice (some ⟨gb,0,none⟩) (l.length+1) cap) (l.length+1) (callCells (l++[v]))) :
  w.ownsRow base e 3 (.slice (some ⟨gb,0,none⟩) l.length cap) l.length (callCells l):=by
 obtain ⟨h1,h2⟩:=h
 rcases h2 with ⟨h0,_⟩|⟨g',cap',cur,hv,hg,hh,hn,hcap,hsz,htake⟩
 ·cases h0
 ·cases hv
  refine ⟨callCells_length l,.inr ⟨gb,cap,cur,rfl,hg,hh,by omega,hcap,hsz,?_⟩⟩
  have h3:(cur.toList.take ((l.length+1)*3)).take (l.length*3)=(callCells (l++[v])).take (l.length*3):=by rw [htake]
  rw [List.take_take,Nat.min_eq_left (by omega)] at h3
  rw [h3,callCells_append,←callCells_length l]
  simp
theorem HX.setc {s:Nat} {X:Nat→Prop} {wx w0 w:World} {g:Mg} {h:Hp} {qs qs':List Qb} {vc vo vx vc':Value} (R:RH s w0 g w h qs vc vo vx) (hf:∀b,X b→FarR g vc vo vx b) (hK:KeptX X wx w)
  (ho:w.ownsRow w0.heap.size 56 3 vc' qs'.length (callCells qs')) (hb:vc'.ownBlock=vc.ownBlock):HX s X wx w0 g (w.setCell ⟨g.r,3,none⟩ vc') h qs':=by
 have hg:=grown_set (w:=w) g.r 3 vc'
 obtain ⟨n,D,F⟩:=R.fld
 have hrm:g.r≠g.mp:=map_ne R.run F.own
 have hne:∀v:Value,v.ownBlock≠some g.r→(v.ownBlock=none∨v.ownBlock≠some g.r):=fun v hv=>Or.inr hv
 refine ⟨vc',vo,vx,⟨R.ownr,R.ownh,R.ownm,Below.grown R.bl hg R.bl.size (fun k hk=>by cases hk;exact R.ownr),?_,?_,?_,?_,?_,n,D,?_,F.few,F.hit,F.miss,F.new,F.ks,F.kd⟩,fun b hx=>?_,hK.kept hg (fun b e hx=>?_)⟩
 ·rw [block_set R.run];rfl
 ·exact grown_blk hg R.hp (fun e=>blk_ne R.run R.hp (by decide) (Option.some.inj e))
 ·exact R.out.kept hg (Or.inr (own_far R.out R.run (by decide)))
 ·exact R.obs.kept hg (Or.inr (own_far R.obs R.run (by decide)))
 ·exact ho.kept hg (Or.inr (own_far ho R.run (by decide)))
 ·exact F.own.kept hg (fun e=>hrm (Option.some.inj e.symm))
 ·have:=hf b hx
  exact ⟨this.r,this.h,this.m,by rw [hb];exact this.c,this.o,this.x⟩
 ·cases e;exact (hf g.r hx).r rfl
set_option maxRecDepth 100000 in
theorem drop_any (s:Nat) (X:Nat→Prop) (wx w0:World) (g:Mg) (h:Hp) (qs:List Qb) (q:Qb) (w:World) (H:HX s X wx w0 g w h (qs++[q])) :
  Calls Tryz.prog 62 #[.pointer (some ⟨g.r,0,none⟩)] w fun e w'=>e=.returned (.tuple #[])∧HX s X wx w0 g w' h qs:=by
 obtain ⟨vc,vo,vx,R,hf,hK⟩:=H
 have hk:=R.calls
 have e1:(qs++[q]).length=qs.length+1:=by simp
 rw [e1] at hk
 obtain ⟨gb,cap,rfl,h1,h2,h3,h4,h5,h6⟩:=own_lastC hk
 have HP:=hid (own_popC hk)
 have hr:w.cell? ⟨g.r,3,none⟩=some (.slice (some ⟨gb,0,none⟩) (qs.length+1) cap):=by rw [cell_blk R.run];rfl
 have fz:∀i,w.frozen? ⟨g.r,i,none⟩=false:=free_blk R.run
 have HE:Hid (HX s X wx w0 g (w.setCell ⟨g.r,3,none⟩ (.slice (some ⟨gb,0,none⟩) qs.length cap)) h qs):=HX.setc R hf hK HP.out rfl
 clear hk R hf hK h4 h5 h6 e1
 unfold maxLen at h2
 have hn1:((qs.length:Int)+1-1)=(qs.length:Int):=by omega
 have hw:IntKind.i64.wrap (qs.length:Int)=(qs.length:Int):=by rw [IntKind.wrap_i64];omega
 go_enter Tryz.func62,Tryz.ntmps62
 go_wp2
 go_region
 all_goals go_wp2
 all_goals go_end0
 all_goals exact ⟨rfl,HE.out.bl (Bl.refl _).drew⟩
theorem info_call:(Tryz.prog.info? 56).map (·.size)=some 3:=by kernel_rfl
set_option maxRecDepth 100000 in
theorem top_any (s:Nat) (X:Nat→Prop) (wx w0:World) (g:Mg) (h:Hp) (qs:List Qb) (q:Qb) (w:World) (H:HX s X wx w0 g w h (qs++[q])) :
  Calls Tryz.prog 63 #[.pointer (some ⟨g.r,0,none⟩)] w fun e w'=>e=.returned (.agg (funs q).toArray)∧Bl w w':=by
 obtain ⟨vc,vo,vx,R,hf,hK⟩:=H
 have hk:=R.calls
 have e1:(qs++[q]).length=qs.length+1:=by simp
 rw [e1] at hk
 obtain ⟨gb,cap,rfl,h1,h2,h3,h4,h5,h6⟩:=own_lastC hk
 have hr:w.cell? ⟨g.r,3,none⟩=some (.slice (some ⟨gb,0,none⟩) (qs.length+1) cap):=by rw [cell_blk R.run];rfl
 have hlr:=lt_some R.run
 clear hk R hf hK e1
 unfold maxLen at h2
 have hn1:((qs.length:Int)+1-1)=(qs.length:Int):=by omega
 have hw:IntKind.i64.wrap (qs.length:Int)=(qs.length:Int):=by rw [IntKind.wrap_i64];omega
 go_enter Tryz.func63,Tryz.ntmps63
 go_wp2
 have hVb:Hid (Bl w (w.alloc (.cells #[.nilFunc,.nilFunc,.nilFunc] 56))):=(Bl.refl w).alloc _
 have q0:=blk_new w #[.nilFunc,.nilFunc,.nilFunc] 56
 have k3:=hVb.out.cell hr
 have k4:=hVb.out.cell h4
 have k5:=hVb.out.cell h5
 have k6:=hVb.out.cell h6
 obtain ⟨B,hBB⟩:∃B,B=w.heap.size:=⟨_,rfl⟩
 rw [←hBB] at q0
 simp only [←hBB]
 have hB:Hid (w.heap.size≤B):=Nat.le_of_eq hBB.symm
 have hne:B≠g.r:=by omega
 have hne2:B≠gb:=by omega
 have hlt:(qs.length:Int)<(qs.length:Int)+1:=by omega
 have m3:=hid hr
 have m4:=hid h4
 have m5:=hid h5
 have m6:=hid h6
 clear hBB
 generalize w.alloc (.cells #[.nilFunc,.nilFunc,.nilFunc] 56)=V at *
 have v0:V.cell? ⟨B,0,none⟩=some .nilFunc:=by rw [cell_blk q0];rfl
 have v1:V.cell? ⟨B,1,none⟩=some .nilFunc:=by rw [cell_blk q0];rfl
 have v2:V.cell? ⟨B,2,none⟩=some .nilFunc:=by rw [cell_blk q0];rfl
 have fz:=free_blk q0
 replace q0:=hid q0
 clear hr h4 h5 h6
 refine wp_region_held_drew (S:=fun w'=>w'.cell? ⟨g.r,3,none⟩=some (.slice (some ⟨gb,0,none⟩) (qs.length+1) cap)∧w'.cell? ⟨gb,qs.length*3,none⟩=some (.func (.func 15) #[.pointer (some ⟨q.q,0,none⟩)] #[])∧w'.cell? ⟨gb,qs.length*3+1,none⟩=some (.func (.func 14) #[] #[.pointer (some ⟨q.bx,0,none⟩)])∧w'.cell? ⟨gb,qs.length*3+2,none⟩=some (.func (.func 16) #[.pointer (some ⟨q.q,0,none⟩)] #[])) (by kernel_rfl) ?_ (fun hHeld0=>?_)
 ·exact ⟨k3,k4,k5,k6⟩
 refine tk (i:=0) (d:=some 3) rfl rfl (by kernel_rfl) (fun _ _ _ h=>h) (by rfl) (by intro _ h;(try dsimp only at h);go_split_ands;go_simp<;>with_reducible rfl) hHeld0 ?_
 try simp only [aS,aN,aT,a0,a1]
 refine tk (i:=1) (d:=some 4) rfl rfl (by kernel_rfl) (fun _ _ _ h=>h) (by rfl) (by intro _ h;(try dsimp only at h);go_split_ands;go_simp<;>with_reducible rfl) hHeld0 ?_
 try simp only [aS,aN,aT,a0,a1]
 refine tk (i:=2) (d:=some 5) rfl rfl (by kernel_rfl) (fun _ _ _ h=>h) (by rfl) (by intro _ h;(try dsimp only at h);go_split_ands;go_simp<;>with_reducible rfl) hHeld0 ?_
 try simp only [aS,aN,aT,a0,a1]
 refine tk (i:=3) (d:=some 6) rfl rfl (by kernel_rfl) (fun _ _ _ h=>h) (by rfl) (by intro _ h;(try dsimp only at h);go_split_ands;go_simp<;>with_reducible rfl) hHeld0 ?_
 try simp only [aS,aN,aT,a0,a1]
 refine tk (i:=4) (d:=some 7) rfl rfl (by kernel_rfl) (fun _ _ _ h=>h) (by rfl) (by intro _ h;(try dsimp only at h);go_split_ands;go_simp<;>with_reducible rfl) hHeld0 ?_
 try simp only [aS,aN,aT,a0,a1]
 refine tk (i:=5) (d:=some 8) rfl rfl (by kernel_rfl) (fun _ _ _ h=>h) (by rfl) (by intro _ h;(try dsimp only at h);go_split_ands;go_simp<;>with_reducible rfl) hHeld0 ?_
 try simp only [aS,aN,aT,a0,a1]
 refine tk (i:=6) (d:=some 9) rfl rfl (by kernel_rfl) (fun _ _ _ h=>h) (by rfl) (by intro _ h;(try dsimp only at h);go_split_ands;go_simp<;>with_reducible rfl) hHeld0 ?_
 try simp only [aS,aN,aT,a0,a1]
 refine tk (i:=7) (d:=some 10) rfl rfl (by kernel_rfl) (fun _ _ _ h=>h) (by rfl) (by intro _ h;(try dsimp only at h);go_split_ands;go_simp<;>with_reducible rfl) hHeld0 ?_
 try simp only [aS,aN,aT,a0,a1]
 refine tk (i:=8) (d:=some 11) rfl rfl (by kernel_rfl) (fun _ _ _ h=>h) (by rfl) (by intro _ h;(try dsimp only at h);go_split_ands;go_simp<;>with_reducible rfl) hHeld0 ?_
 try simp only [aS,aN,aT,a0,a1]
 refine tk (i:=9) (d:=some 12) rfl rfl (by kernel_rfl) (fun _ _ _ h=>h) (by rfl) (by intro _ h;(try dsimp only at h);go_split_ands;go_simp<;>with_reducible rfl) hHeld0 ?_
 try simp only [aS,aN,aT,a0,a1]
 refine tk (i:=10) (d:=some 13) rfl rfl (by kernel_rfl) (fun _ _ _ h=>h) (by rfl) (by intro _ h;(try dsimp only at h);go_split_ands;go_simp<;>with_reducible rfl) hHeld0 ?_
 try simp only [aS,aN,aT,a0,a1]
 refine tk (i:=11) (d:=some 14) rfl rfl (by kernel_rfl) (fun _ _ _ h=>h) (by rfl) (by intro _ h;(try dsimp only at h);go_split_ands;go_simp<;>with_reducible rfl) hHeld0 ?_
 try simp only [aS,aN,aT,a0,a1]
 refine rd1 (i:=12) (by kernel_rfl) rfl fun K hK=>?_
 go_wp2_with fail
 have hV3:Bl w (((V.setCell ⟨B,0,none⟩ (.func (.func 15) #[.pointer (some ⟨q.q,0,none⟩)] #[])).setCell ⟨B,1,none⟩ (.func (.func 14) #[] #[.pointer (some ⟨q.bx,0,none⟩)])).setCell ⟨B,2,none⟩ (.func (.func 16) #[.pointer (some ⟨q.q,0,none⟩)] #[])):=((hVb.out.setCell (p:=⟨B,0,none⟩) hB.out _).setCell (p:=⟨B,1,none⟩) hB.out _).setCell (p:=⟨B,2,none⟩) hB.out _
 have q3:(((V.setCell ⟨B,0,none⟩ (.func (.func 15) #[.pointer (some ⟨q.q,0,none⟩)] #[])).setCell ⟨B,1,none⟩ (.func (.func 14) #[] #[.pointer (some ⟨q.bx,0,none⟩)])).setCell ⟨B,2,none⟩ (.func (.func 16) #[.pointer (some ⟨q.q,0,none⟩)] #[])).heap[B]?=some (.cells (funs q).toArray 56 (0,0)):=by rw [block_set (block_set (block_set q0.out _) _) _];rfl
 refine hK.out _ _ ⟨hV3.cell m3.out,hV3.cell m4.out,hV3.cell m5.out,hV3.cell m6.out⟩ (fun hHeld1=>?_)
 try simp only [aS,aN,aT,a0,a1]
 refine wpAnyH_done (by kernel_rfl) ?_ _
 replace hV3:=hid hV3
 replace q3:=hid q3
 go_wp2
 refine bodyPost_ret (results_cell_row rfl _ _ B _ _ _ _ rfl q3.out Tryz.underlying56 rfl info_call) rfl ?_
 exact ⟨rfl,hV3.out.drew⟩
end Go.Proofs.YtimjmdfokicbkabGreat
