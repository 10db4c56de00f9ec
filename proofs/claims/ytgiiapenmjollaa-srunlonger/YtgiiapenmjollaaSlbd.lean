import Derived.Test.YtgiiapenmjollaaSlbc
namespace Go.Proofs.Ytgiiapenmjollaa
set_option linter.all false
set_option maxHeartbeats 40000000
open Go.RowKit
theorem info_call3:(Try.prog.info? 93).map (fun i=>(i.zero,i.size,i.bytes))=some (some (.agg #[.nilFunc,.nilFunc,.nilFunc]),3,24):=by kernel_rfl
theorem HX.pushc {s:Nat} {X:Nat→Prop} {wx w0 w w2:World} {g:Mg} {h:Hp} {qs:List Nat} {q:Nat} {vc vo vx v':Value} (R:RH s w0 g w h qs vc vo vx) (hf:∀b,X b→FarR g vc vo vx b) (hK:KeptX X wx w) (hg:w.grownBy w2 vc.ownBlock)
  (ho:w2.ownsRow w0.heap.size 93 3 v' (qs.length+1) (callCells qs++funs q)) (hat:v'.ownBlock=vc.ownBlock∨∀b,v'.ownBlock=some b→w.heap.size≤b) :
  HX s X wx w0 g (w2.setCell ⟨g.r,3,none⟩ v') h (qs++[q]):=by
 have hrow:∀b,vc.ownBlock=some b→w0.heap.size≤b:=fun b e=>(R.calls.lt b e).1
 have hr2:=grown_blk hg R.run (own_far R.calls R.run (by decide))
 have hh2:=grown_blk hg R.hp (own_far R.calls R.hp (by decide))
 have hg2:=grown_set (w:=w2) g.r 3 v'
 obtain ⟨n,D,F⟩:=R.fld
 have hrm:g.r≠g.mp:=map_ne R.run F.own
 have hap:∀b,v'.ownBlock=some b→¬X b:=fun b e hx=>by
  rcases hat with z|z
  ·rw [z] at e;exact (hf b hx).c e
  ·have h1:=z b e
   have:=(hK.blk b hx).1;have:=hK.size;omega
 have hcc:callCells (qs++[q])=callCells qs++funs q:=by rw [callCells_append];simp [callCells]
 have hb2:Bl w0 w2:=Below.grown R.bl hg R.bl.size hrow
 refine ⟨v',vo,vx,⟨R.ownr,R.ownh,R.ownm,Below.grown hb2 hg2 hb2.size (fun k hk=>by cases hk;exact R.ownr),?_,?_,?_,?_,?_,n,D,?_,F.few,F.hit,F.miss,F.new,F.ks,F.kd⟩,fun b hx=>?_,(hK.kept hg (fun b e hx=>(hf b hx).c e)).kept hg2 (fun b e hx=>?_)⟩
 ·rw [block_set hr2];rfl
 ·exact grown_blk hg2 hh2 (fun e=>blk_ne R.run R.hp (by decide) (Option.some.inj e))
 ·exact (R.out.kept hg (row_ne R.out R.calls (by decide))).kept hg2 (Or.inr (own_far R.out R.run (by decide)))
 ·exact (R.obs.kept hg (row_ne R.obs R.calls (by decide))).kept hg2 (Or.inr (own_far R.obs R.run (by decide)))
 ·rw [hcc,List.length_append]
  exact ho.kept hg2 (Or.inr (own_far ho hr2 (by decide)))
 ·exact (F.own.kept hg (fun e=>map_row R.calls F.own e.symm)).kept hg2 (fun e=>hrm (Option.some.inj e.symm))
 ·have:=hf b hx
  exact ⟨this.r,this.h,this.m,fun e=>hap b e hx,this.o,this.x⟩
 ·cases e;exact (hf g.r hx).r rfl
structure Laid (s:Nat) (X:Nat→Prop) (wx w0:World) (g:Mg) (h:Hp) (qs:List Nat) (m:Me) (N:Nat) (us:List Va) (w:World) (q lb:Nat) (P C J:Option Addr) (p c k:Nat) (w':World):Prop where
 hx:HX s X wx w0 g w' h (qs++[q])
 ownq:w.heap.size≤q
 ownl:w.heap.size≤lb
 me:MeAt w0 m P C J
 blk:w'.heap[q]?=some (.cells (newRow g m P C J p c k lb N) 102 (0,0))
 loc:LBox w' lb (argsN (List.replicate N va0) 0 us)
def CallQ (s:Nat) (X:Nat→Prop) (wx w0:World) (g:Mg) (h:Hp) (qs:List Nat) (m:Me) (N:Nat) (us:List Va) (w:World) (e:Ending) (w':World):Prop :=
 e=.returned (.tuple #[])∧∃q lb P C J p c k,Laid s X wx w0 g h qs m N us w q lb P C J p c k w'
set_option maxRecDepth 100000 in
theorem runCall_yes (s:Nat) (X:Nat→Prop) (wx w0:World) (g:Mg) (h:Hp) (qs:List Nat) (i:Nat) (m:Me) (N b cap:Nat) (us:List Va) (w:World) (H:HX s X wx w0 g w h qs) (hq:qs.length<20) (hi:i<h.file.methods.length) (hm:nth me0 h.file.methods i=m) (hM:MesAt w0 g.M h.file.methods)
  (hkN:m.locs=(N:Int)) (B:LBox w b us) (hN:N≤1000) (hfit:sizP us≤N) (hk:∀v∈us,1≤v.kind∧v.kind≤3) :
  Calls Try.prog 71 #[.pointer (some ⟨g.r,0,none⟩),.int .i64 (i:Int),.slice (some ⟨b,0,none⟩) us.length cap] w fun e w'=>CallQ s X wx w0 g h qs m N us w e w':=by
 obtain ⟨i0,hi0,hz0,hz1,hz2⟩:=info_parts info_call3
 have hmm:=hM.1
 unfold maxLen at hmm
 rcases hM.2 with h0|⟨mb,mo,hMe,hcell⟩
 ·omega
 obtain ⟨P,C,J,p,c,k,m0,m1,m2,m3,m4,m5,m6,m7,hme⟩:=hcell i hi
 rw [hm] at m0 m1 m2 m3 m4 m5 m6 m7 hme
 have HME:=hid hme
 have HH:=hid H
 obtain ⟨vc,vo,vx,R,hf,hK⟩:=H
 have hR:=hid R
 have hRf:=hid hf
 have hRK:=hid hK
 have hbl0:=R.bl
 obtain ⟨Ac,capc,hvs,hc1,hc2⟩:=own_form R.calls
 subst hvs
 have r0:w.cell? ⟨g.r,0,none⟩=some (.pointer (some ⟨g.hb,0,none⟩)):=by rw [cell_blk R.run];rfl
 have r1:w.cell? ⟨g.r,1,none⟩=some (.slice (some ⟨mb,mo,none⟩) h.file.methods.length g.m):=by rw [cell_blk R.run,←hMe];rfl
 have r2:w.cell? ⟨g.r,2,none⟩=some (.func (.func 51) #[] #[]):=by rw [cell_blk R.run];rfl
 have r3:w.cell? ⟨g.r,3,none⟩=some (.slice Ac qs.length capc):=by rw [cell_blk R.run];rfl
 have hlr:=cell_lt r0
 have HBG:Hid (∀w',Bl w w'→Calls Try.prog 51 #[.pointer (some ⟨g.r,0,none⟩),meV m P C J p c k,.slice (some ⟨b,0,none⟩) us.length cap] w' fun e w2=>BeginQ g m P C J p c k N us w' e w2) :=
  fun w' hb=>begin_any g m P C J p c k N b cap us w' (hb.cell r0) hkN (B.bl hb) hN hfit hk
 have HT:Hid (∀w',Bl w w'→(fun w'=>w'.cell? ⟨g.r,1,none⟩=some (.slice (some ⟨mb,mo,none⟩) h.file.methods.length g.m)∧w'.cell? ⟨g.r,2,none⟩=some (.func (.func 51) #[] #[])∧w'.cell? ⟨mb,mo+i*8,none⟩=some (.slice P m.params.length p)∧w'.cell? ⟨mb,mo+i*8+1,none⟩=some (.int .i64 m.ret.kind)∧w'.cell? ⟨mb,mo+i*8+2,none⟩=some (.int .i64 m.ret.cls)∧w'.cell? ⟨mb,mo+i*8+3,none⟩=some (.int .i64 m.stack)∧w'.cell? ⟨mb,mo+i*8+4,none⟩=some (.int .i64 m.locs)∧w'.cell? ⟨mb,mo+i*8+5,none⟩=some (.int .i64 m.regs)∧w'.cell? ⟨mb,mo+i*8+6,none⟩=some (.slice C m.code.length c)∧w'.cell? ⟨mb,mo+i*8+7,none⟩=some (.slice J m.hands.length k)) w'):=fun w' hb=>by
  have hb0:=hbl0.trans hb
  exact ⟨hb.cell r1,hb.cell r2,hb0.cell m0,hb0.cell m1,hb0.cell m2,hb0.cell m3,hb0.cell m4,hb0.cell m5,hb0.cell m6,hb0.cell m7⟩
 have HR1:Hid (∀q w1,Bl w w1→RH s w0 g (w1.alloc (.cells (funs q).toArray 93)) h qs (.slice Ac qs.length capc) vo vx):=fun q w1 hb=>hR.out.kept (grown_bl (hb.alloc _) none) (fun b e=>by cases e)
 have HS2:Hid (∀q w1 w2,Bl w w1→(w1.alloc (.cells (funs q).toArray 93)).grownBy w2 (Value.slice Ac qs.length capc).ownBlock→(fun w'=>w'.cell? ⟨g.r,1,none⟩=some (.slice (some ⟨mb,mo,none⟩) h.file.methods.length g.m)∧w'.cell? ⟨g.r,2,none⟩=some (.func (.func 51) #[] #[])∧w'.cell? ⟨mb,mo+i*8,none⟩=some (.slice P m.params.length p)∧w'.cell? ⟨mb,mo+i*8+1,none⟩=some (.int .i64 m.ret.kind)∧w'.cell? ⟨mb,mo+i*8+2,none⟩=some (.int .i64 m.ret.cls)∧w'.cell? ⟨mb,mo+i*8+3,none⟩=some (.int .i64 m.stack)∧w'.cell? ⟨mb,mo+i*8+4,none⟩=some (.int .i64 m.locs)∧w'.cell? ⟨mb,mo+i*8+5,none⟩=some (.int .i64 m.regs)∧w'.cell? ⟨mb,mo+i*8+6,none⟩=some (.slice C m.code.length c)∧w'.cell? ⟨mb,mo+i*8+7,none⟩=some (.slice J m.hands.length k)) w2∧w2.cell? ⟨g.r,3,none⟩=some (.slice Ac qs.length capc)∧∀i,w2.frozen? ⟨g.r,i,none⟩=false):=fun q w1 w2 hb hg=>by
  have R1:=HR1.out q w1 hb
  have hr2:=grown_blk hg R1.run (own_far R1.calls R1.run (by decide))
  have hb2:Bl w0 w2:=Below.grown R1.bl hg R1.bl.size (fun b e=>(R1.calls.lt b e).1)
  exact ⟨⟨by rw [cell_blk hr2,←hMe];rfl,by rw [cell_blk hr2];rfl,hb2.cell m0,hb2.cell m1,hb2.cell m2,hb2.cell m3,hb2.cell m4,hb2.cell m5,hb2.cell m6,hb2.cell m7⟩,by rw [cell_blk hr2];rfl,free_blk hr2⟩
 have HS3:Hid (∀q w1 w2 v',Bl w w1→(w1.alloc (.cells (funs q).toArray 93)).grownBy w2 (Value.slice Ac qs.length capc).ownBlock→(fun w'=>w'.cell? ⟨g.r,1,none⟩=some (.slice (some ⟨mb,mo,none⟩) h.file.methods.length g.m)∧w'.cell? ⟨g.r,2,none⟩=some (.func (.func 51) #[] #[])∧w'.cell? ⟨mb,mo+i*8,none⟩=some (.slice P m.params.length p)∧w'.cell? ⟨mb,mo+i*8+1,none⟩=some (.int .i64 m.ret.kind)∧w'.cell? ⟨mb,mo+i*8+2,none⟩=some (.int .i64 m.ret.cls)∧w'.cell? ⟨mb,mo+i*8+3,none⟩=some (.int .i64 m.stack)∧w'.cell? ⟨mb,mo+i*8+4,none⟩=some (.int .i64 m.locs)∧w'.cell? ⟨mb,mo+i*8+5,none⟩=some (.int .i64 m.regs)∧w'.cell? ⟨mb,mo+i*8+6,none⟩=some (.slice C m.code.length c)∧w'.cell? ⟨mb,mo+i*8+7,none⟩=some (.slice J m.hands.length k)) (w2.setCell ⟨g.r,3,none⟩ v')):=fun q w1 w2 v' hb hg=>by
  have R1:=HR1.out q w1 hb
  have hr2:=grown_blk hg R1.run (own_far R1.calls R1.run (by decide))
  have hb2:Bl w0 w2:=Below.grown R1.bl hg R1.bl.size (fun b e=>(R1.calls.lt b e).1)
  have hr3:=block_set (i:=3) hr2 v'
  have hb3:Bl w0 (w2.setCell ⟨g.r,3,none⟩ v'):=Below.grown hb2 (grown_set g.r 3 v') hb2.size (fun k hk=>by cases hk;exact R1.ownr)
  exact ⟨by rw [cell_blk hr3,←hMe];rfl,by rw [cell_blk hr3];rfl,hb3.cell m0,hb3.cell m1,hb3.cell m2,hb3.cell m3,hb3.cell m4,hb3.cell m5,hb3.cell m6,hb3.cell m7⟩
 have n0:¬(20:Int)≤(qs.length:Int):=by omega
 have i0':(0:Int)≤(i:Int):=by omega
 have i1':(i:Int)<(h.file.methods.length:Int):=by omega
 have hqq:=hid hq
 clear R hf hK hbl0 hc1 hc2 m0 m1 m2 m3 m4 m5 m6 m7 hme hcell hm hkN B hfit hk hM r0 r1 r2 hq hN
 go_enter Try.func71,Try.ntmps71
 go_wp2
 refine wp_region_held_drew (S:=fun w'=>w'.cell? ⟨g.r,1,none⟩=some (.slice (some ⟨mb,mo,none⟩) h.file.methods.length g.m)∧w'.cell? ⟨g.r,2,none⟩=some (.func (.func 51) #[] #[])∧w'.cell? ⟨mb,mo+i*8,none⟩=some (.slice P m.params.length p)∧w'.cell? ⟨mb,mo+i*8+1,none⟩=some (.int .i64 m.ret.kind)∧w'.cell? ⟨mb,mo+i*8+2,none⟩=some (.int .i64 m.ret.cls)∧w'.cell? ⟨mb,mo+i*8+3,none⟩=some (.int .i64 m.stack)∧w'.cell? ⟨mb,mo+i*8+4,none⟩=some (.int .i64 m.locs)∧w'.cell? ⟨mb,mo+i*8+5,none⟩=some (.int .i64 m.regs)∧w'.cell? ⟨mb,mo+i*8+6,none⟩=some (.slice C m.code.length c)∧w'.cell? ⟨mb,mo+i*8+7,none⟩=some (.slice J m.hands.length k)) (by kernel_rfl) ?_ (fun hHeld0=>?_)
 ·exact HT.out _ (Bl.refl _).drew
 refine tk (i:=0) (d:=some 13) rfl rfl (by kernel_rfl) (fun _ _ _ h=>h) (by rfl) (by intro _ h;(try dsimp only at h);go_split_ands;go_simp<;>with_reducible rfl) hHeld0 ?_
 try simp only [aS,aN,aT,a0,a1]
 refine tk (i:=1) (d:=some 14) rfl rfl (by kernel_rfl) (fun _ _ _ h=>h) (by rfl) (by intro _ h;(try dsimp only at h);go_split_ands;go_simp<;>with_reducible rfl) hHeld0 ?_
 try simp only [aS,aN,aT,a0,a1]
 refine tk (i:=2) (d:=some 15) rfl rfl (by kernel_rfl) (fun _ _ _ h=>h) (by rfl) (by intro _ h;(try dsimp only at h);go_split_ands;go_simp<;>with_reducible rfl) hHeld0 ?_
 try simp only [aS,aN,aT,a0,a1]
 refine tk (i:=3) (d:=some 16) rfl rfl (by kernel_rfl) (fun _ _ _ h=>h) (by rfl) (by intro _ h;(try dsimp only at h);go_split_ands;go_simp<;>with_reducible rfl) hHeld0 ?_
 try simp only [aS,aN,aT,a0,a1]
 refine tk (i:=5) (d:=some 18) rfl rfl (by kernel_rfl) (fun _ _ _ h=>h) (by rfl) (by intro _ h;(try dsimp only at h);go_split_ands;go_simp<;>with_reducible rfl) hHeld0 ?_
 try simp only [aS,aN,aT,a0,a1]
 refine tk (i:=6) (d:=some 19) rfl rfl (by kernel_rfl) (fun _ _ _ h=>h) (by rfl) (by intro _ h;(try dsimp only at h);go_split_ands;go_simp<;>with_reducible rfl) hHeld0 ?_
 try simp only [aS,aN,aT,a0,a1]
 refine tk (i:=7) (d:=some 20) rfl rfl (by kernel_rfl) (fun _ _ _ h=>h) (by rfl) (by intro _ h;(try dsimp only at h);go_split_ands;go_simp<;>with_reducible rfl) hHeld0 ?_
 try simp only [aS,aN,aT,a0,a1]
 refine tk (i:=8) (d:=some 21) rfl rfl (by kernel_rfl) (fun _ _ _ h=>h) (by rfl) (by intro _ h;(try dsimp only at h);go_split_ands;go_simp<;>with_reducible rfl) hHeld0 ?_
 try simp only [aS,aN,aT,a0,a1]
 refine tk (i:=9) (d:=some 22) rfl rfl (by kernel_rfl) (fun _ _ _ h=>h) (by rfl) (by intro _ h;(try dsimp only at h);go_split_ands;go_simp<;>with_reducible rfl) hHeld0 ?_
 try simp only [aS,aN,aT,a0,a1]
 refine tk (i:=10) (d:=some 23) rfl rfl (by kernel_rfl) (fun _ _ _ h=>h) (by rfl) (by intro _ h;(try dsimp only at h);go_split_ands;go_simp<;>with_reducible rfl) hHeld0 ?_
 try simp only [aS,aN,aT,a0,a1]
 refine tk (i:=11) (d:=some 24) rfl rfl (by kernel_rfl) (fun _ _ _ h=>h) (by rfl) (by intro _ h;(try dsimp only at h);go_split_ands;go_simp<;>with_reducible rfl) hHeld0 ?_
 try simp only [aS,aN,aT,a0,a1]
 refine tk (i:=12) (d:=some 25) rfl rfl (by kernel_rfl) (fun _ _ _ h=>h) (by rfl) (by intro _ h;(try dsimp only at h);go_split_ands;go_simp<;>with_reducible rfl) hHeld0 ?_
 try simp only [aS,aN,aT,a0,a1]
 refine tk (i:=13) (d:=some 26) rfl rfl (by kernel_rfl) (fun _ _ _ h=>h) (by rfl) (by intro _ h;(try dsimp only at h);go_split_ands;go_simp<;>with_reducible rfl) hHeld0 ?_
 try simp only [aS,aN,aT,a0,a1]
 refine tk (i:=14) (d:=some 27) rfl rfl (by kernel_rfl) (fun _ _ _ h=>h) (by rfl) (by intro _ h;(try dsimp only at h);go_split_ands;go_simp<;>with_reducible rfl) hHeld0 ?_
 try simp only [aS,aN,aT,a0,a1]
 refine tk (i:=15) (d:=some 28) rfl rfl (by kernel_rfl) (fun _ _ _ h=>h) (by rfl) (by intro _ h;(try dsimp only at h);go_split_ands;go_simp<;>with_reducible rfl) hHeld0 ?_
 try simp only [aS,aN,aT,a0,a1]
 refine tk (i:=16) (d:=some 29) rfl rfl (by kernel_rfl) (fun _ _ _ h=>h) (by rfl) (by intro _ h;(try dsimp only at h);go_split_ands;go_simp<;>with_reducible rfl) hHeld0 ?_
 try simp only [aS,aN,aT,a0,a1]
 refine tk (i:=17) (d:=some 30) rfl rfl (by kernel_rfl) (fun _ _ _ h=>h) (by rfl) (by intro _ h;(try dsimp only at h);go_split_ands;go_simp<;>with_reducible rfl) hHeld0 ?_
 try simp only [aS,aN,aT,a0,a1]
 refine wpAnyH_ready (rs:=[4,18]) (by kernel_rfl) (by simp) ?_
 refine AllReadyH.cons rfl (fun K hK=>?_) (AllReadyH.cons rfl (fun K hK=>?_) (AllReadyH.nil))
 ·go_wp2_with fail
  refine hK.out _ _ (hHeld0) (fun hHeld1=>?_)
  try simp only [aS,aN,aT,a0,a1]
  refine rd1 (i:=18) (by kernel_rfl) rfl fun K hK=>?_
  go_simp
  go_at_call 51
  refine (HBG.out _ (Bl.refl w).drew).mono ?_
  rintro e w1 ⟨q,rfl,Bg⟩
  have bg1:Bl w w1:=(Bl.refl w).drew.trans Bg.bl
  have f3:=bg1.cell r3
  have f4:∀o,(w1.alloc o).cell? ⟨g.r,3,none⟩=some (.slice Ac qs.length capc):=fun o=>(bg1.alloc o).cell r3
  have hBg:=hid Bg
  have hbg1:=hid bg1
  clear Bg bg1
  unfold funs
  go_wp2_with fail
  refine hK.out _ _ (HT.out _ hbg1.out) (fun hHeld2=>?_)
  try simp only [aS,aN,aT,a0,a1]
  refine rd1 (i:=19) (by kernel_rfl) rfl fun K hK=>?_
  go_simp
  refine hK.out _ _ (HT.out _ (hbg1.out.alloc _)) (fun hHeld3=>?_)
  try simp only [aS,aN,aT,a0,a1]
  refine rd1 (i:=20) (by kernel_rfl) rfl fun K hK=>?_
  refine step_append_lies _ (by rfl) _ _ _ (by rfl) w0.heap.size 93 i0 _ 3 24 Try.underlying96 hi0 hz0 hz1 hz2 rfl (by omega) _ qs.length (callCells qs) (by rfl) (HR1.out q w1 hbg1.out).calls ⟨w1.heap.size,0,none⟩ 1 1 (funs q) (by rfl) (by rfl) (World.news_of_block (cs:=#[.func (.func 66) #[.pointer (some ⟨q,0,none⟩)] #[],.func (.func 67) #[.pointer (some ⟨q,0,none⟩)] #[],.func (.func 68) #[.pointer (some ⟨q,0,none⟩)] #[]]) (t:=93) (fr:=(0,0)) (blk_new _ _ _)) (by simp [funs,Value.oneCell']) (by omega) (by unfold maxLen;omega) (by omega) (HR1.out q w1 hbg1.out).bl.size _ rfl ?_
  intro gb cp w2 hown hgrow hat hlt1
  have hS2:=HS2.out q w1 w2 hbg1.out hgrow
  have c3:=hS2.2.1
  have z3:=hS2.2.2
  have hS2a:=hid hS2.1
  clear hS2
  replace hown:=hid hown
  replace hgrow:=hid hgrow
  replace hat:=hid hat
  change K (Act.put _ (some 33) _) w2
  refine hK.out _ _ (hS2a.out) (fun hHeld4=>?_)
  try simp only [aS,aN,aT,a0,a1]
  refine tk (i:=21) (d:=some 34) rfl rfl (by kernel_rfl) (fun _ _ _ h=>h) (by rfl) (by intro _ h;(try dsimp only at h);go_split_ands;go_simp<;>with_reducible rfl) hHeld4 ?_
  try simp only [aS,aN,aT,a0,a1]
  refine tk (i:=22) (d:=some 35) rfl rfl (by kernel_rfl) (fun _ _ _ h=>h) (by rfl) (by intro _ h;(try dsimp only at h);go_split_ands;go_simp<;>with_reducible rfl) hHeld4 ?_
  try simp only [aS,aN,aT,a0,a1]
  refine rd1 (i:=23) (by kernel_rfl) rfl fun K hK=>?_
  go_simp
  refine hK.out _ _ (HS3.out q w1 w2 _ hbg1.out hgrow.out) (fun hHeld5=>?_)
  try simp only [aS,aN,aT,a0,a1]
  refine wpAnyH_done (by kernel_rfl) ?_ _
  go_wp2
  go_end0
  have hL:Begun g m P C J p c k N us w q w1:=by
   have h1:=hBg.out
   refine ⟨hbg1.out,?_,?_,?_⟩
   ·simpa using h1.own
   ·simpa using h1.blk
   ·simpa using h1.loc
  have hHX:=HX.pushc (HR1.out q w1 hbg1.out) hRf.out (hRK.out.kept (grown_bl (hbg1.out.alloc _) none) (fun b e=>by cases e)) hgrow.out hown.out (hat.out.elim (fun e=>Or.inl e.symm) (fun e=>Or.inr fun b hb=>Nat.le_of_eq (e.symm.trans (by simpa [Value.ownBlock] using hb))))
  have hR1:=HR1.out q w1 hbg1.out
  have hq1:(w1.alloc (.cells (funs q).toArray 93)).heap[q]?=some (.cells (newRow g m P C J p c k (w.heap.size+1+1) N) 102 (0,0)):=bl_blk ((Bl.refl w1).alloc _) hL.blk
  have hl1:(w1.alloc (.cells (funs q).toArray 93)).heap[w.heap.size+1+1]?=some (.cells (vaCells (argsN (List.replicate N va0) 0 us)).toArray 109 (0,0)):=bl_blk ((Bl.refl w1).alloc _) hL.loc.blk
  have hq2:=grown_blk hgrow.out hq1 (own_far hR1.calls hq1 (by decide))
  have hl2:=grown_blk hgrow.out hl1 (own_far hR1.calls hl1 (by decide))
  refine ⟨rfl,q,w.heap.size+1+1,P,C,J,p,c,k,hHX,hL.own,by omega,HME.out,?_,⟨?_⟩⟩
  ·rw [block_far (blk_ne hq1 hR1.run (by decide))];exact hq2
  ·rw [block_far (blk_ne hl1 hR1.run (by decide))];exact hl2
 ·go_simp
  go_at_call 51
  refine (HBG.out _ (Bl.refl w).drew).mono ?_
  rintro e w1 ⟨q,rfl,Bg⟩
  have bg1:Bl w w1:=(Bl.refl w).drew.trans Bg.bl
  have f3:=bg1.cell r3
  have f4:∀o,(w1.alloc o).cell? ⟨g.r,3,none⟩=some (.slice Ac qs.length capc):=fun o=>(bg1.alloc o).cell r3
  have hBg:=hid Bg
  have hbg1:=hid bg1
  clear Bg bg1
  unfold funs
  go_wp2_with fail
  refine hK.out _ _ (HT.out _ hbg1.out) (fun hHeld6=>?_)
  try simp only [aS,aN,aT,a0,a1]
  refine wpAnyH_ready (rs:=[4,19]) (by kernel_rfl) (by simp) ?_
  refine AllReadyH.cons rfl (fun K hK=>?_) (AllReadyH.cons rfl (fun K hK=>?_) (AllReadyH.nil))
  ·go_wp2_with fail
   refine hK.out _ _ (hHeld6) (fun hHeld7=>?_)
   try simp only [aS,aN,aT,a0,a1]
   refine rd1 (i:=19) (by kernel_rfl) rfl fun K hK=>?_
   go_simp
   refine hK.out _ _ (HT.out _ (hbg1.out.alloc _)) (fun hHeld8=>?_)
   try simp only [aS,aN,aT,a0,a1]
   refine rd1 (i:=20) (by kernel_rfl) rfl fun K hK=>?_
   refine step_append_lies _ (by rfl) _ _ _ (by rfl) w0.heap.size 93 i0 _ 3 24 Try.underlying96 hi0 hz0 hz1 hz2 rfl (by omega) _ qs.length (callCells qs) (by rfl) (HR1.out q w1 hbg1.out).calls ⟨w1.heap.size,0,none⟩ 1 1 (funs q) (by rfl) (by rfl) (World.news_of_block (cs:=#[.func (.func 66) #[.pointer (some ⟨q,0,none⟩)] #[],.func (.func 67) #[.pointer (some ⟨q,0,none⟩)] #[],.func (.func 68) #[.pointer (some ⟨q,0,none⟩)] #[]]) (t:=93) (fr:=(0,0)) (blk_new _ _ _)) (by simp [funs,Value.oneCell']) (by omega) (by unfold maxLen;omega) (by omega) (HR1.out q w1 hbg1.out).bl.size _ rfl ?_
   intro gb cp w2 hown hgrow hat hlt1
   have hS2:=HS2.out q w1 w2 hbg1.out hgrow
   have c3:=hS2.2.1
   have z3:=hS2.2.2
   have hS2a:=hid hS2.1
   clear hS2
   replace hown:=hid hown
   replace hgrow:=hid hgrow
   replace hat:=hid hat
   change K (Act.put _ (some 33) _) w2
   refine hK.out _ _ (hS2a.out) (fun hHeld9=>?_)
   try simp only [aS,aN,aT,a0,a1]
   refine tk (i:=21) (d:=some 34) rfl rfl (by kernel_rfl) (fun _ _ _ h=>h) (by rfl) (by intro _ h;(try dsimp only at h);go_split_ands;go_simp<;>with_reducible rfl) hHeld9 ?_
   try simp only [aS,aN,aT,a0,a1]
   refine tk (i:=22) (d:=some 35) rfl rfl (by kernel_rfl) (fun _ _ _ h=>h) (by rfl) (by intro _ h;(try dsimp only at h);go_split_ands;go_simp<;>with_reducible rfl) hHeld9 ?_
   try simp only [aS,aN,aT,a0,a1]
   refine rd1 (i:=23) (by kernel_rfl) rfl fun K hK=>?_
   go_simp
   refine hK.out _ _ (HS3.out q w1 w2 _ hbg1.out hgrow.out) (fun hHeld10=>?_)
   try simp only [aS,aN,aT,a0,a1]
   refine wpAnyH_done (by kernel_rfl) ?_ _
   go_wp2
   go_end0
   have hL:Begun g m P C J p c k N us w q w1:=by
    have h1:=hBg.out
    refine ⟨hbg1.out,?_,?_,?_⟩
    ·simpa using h1.own
    ·simpa using h1.blk
    ·simpa using h1.loc
   have hHX:=HX.pushc (HR1.out q w1 hbg1.out) hRf.out (hRK.out.kept (grown_bl (hbg1.out.alloc _) none) (fun b e=>by cases e)) hgrow.out hown.out (hat.out.elim (fun e=>Or.inl e.symm) (fun e=>Or.inr fun b hb=>Nat.le_of_eq (e.symm.trans (by simpa [Value.ownBlock] using hb))))
   have hR1:=HR1.out q w1 hbg1.out
   have hq1:(w1.alloc (.cells (funs q).toArray 93)).heap[q]?=some (.cells (newRow g m P C J p c k (w.heap.size+1+1) N) 102 (0,0)):=bl_blk ((Bl.refl w1).alloc _) hL.blk
   have hl1:(w1.alloc (.cells (funs q).toArray 93)).heap[w.heap.size+1+1]?=some (.cells (vaCells (argsN (List.replicate N va0) 0 us)).toArray 109 (0,0)):=bl_blk ((Bl.refl w1).alloc _) hL.loc.blk
   have hq2:=grown_blk hgrow.out hq1 (own_far hR1.calls hq1 (by decide))
   have hl2:=grown_blk hgrow.out hl1 (own_far hR1.calls hl1 (by decide))
   refine ⟨rfl,q,w.heap.size+1+1,P,C,J,p,c,k,hHX,hL.own,by omega,HME.out,?_,⟨?_⟩⟩
   ·rw [block_far (blk_ne hq1 hR1.run (by decide))];exact hq2
   ·rw [block_far (blk_ne hl1 hR1.run (by decide))];exact hl2
  ·go_simp
   refine hK.out _ _ (HT.out _ (hbg1.out.alloc _)) (fun hHeld11=>?_)
   try simp only [aS,aN,aT,a0,a1]
   refine rd1 (i:=4) (by kernel_rfl) rfl fun K hK=>?_
   go_wp2_with fail
   refine hK.out _ _ (hHeld11) (fun hHeld12=>?_)
   try simp only [aS,aN,aT,a0,a1]
   refine rd1 (i:=20) (by kernel_rfl) rfl fun K hK=>?_
   refine step_append_lies _ (by rfl) _ _ _ (by rfl) w0.heap.size 93 i0 _ 3 24 Try.underlying96 hi0 hz0 hz1 hz2 rfl (by omega) _ qs.length (callCells qs) (by rfl) (HR1.out q w1 hbg1.out).calls ⟨w1.heap.size,0,none⟩ 1 1 (funs q) (by rfl) (by rfl) (World.news_of_block (cs:=#[.func (.func 66) #[.pointer (some ⟨q,0,none⟩)] #[],.func (.func 67) #[.pointer (some ⟨q,0,none⟩)] #[],.func (.func 68) #[.pointer (some ⟨q,0,none⟩)] #[]]) (t:=93) (fr:=(0,0)) (blk_new _ _ _)) (by simp [funs,Value.oneCell']) (by omega) (by unfold maxLen;omega) (by omega) (HR1.out q w1 hbg1.out).bl.size _ rfl ?_
   intro gb cp w2 hown hgrow hat hlt1
   have hS2:=HS2.out q w1 w2 hbg1.out hgrow
   have c3:=hS2.2.1
   have z3:=hS2.2.2
   have hS2a:=hid hS2.1
   clear hS2
   replace hown:=hid hown
   replace hgrow:=hid hgrow
   replace hat:=hid hat
   change K (Act.put _ (some 33) _) w2
   refine hK.out _ _ (hS2a.out) (fun hHeld13=>?_)
   try simp only [aS,aN,aT,a0,a1]
   refine tk (i:=21) (d:=some 34) rfl rfl (by kernel_rfl) (fun _ _ _ h=>h) (by rfl) (by intro _ h;(try dsimp only at h);go_split_ands;go_simp<;>with_reducible rfl) hHeld13 ?_
   try simp only [aS,aN,aT,a0,a1]
   refine tk (i:=22) (d:=some 35) rfl rfl (by kernel_rfl) (fun _ _ _ h=>h) (by rfl) (by intro _ h;(try dsimp only at h);go_split_ands;go_simp<;>with_reducible rfl) hHeld13 ?_
   try simp only [aS,aN,aT,a0,a1]
   refine rd1 (i:=23) (by kernel_rfl) rfl fun K hK=>?_
   go_simp
   refine hK.out _ _ (HS3.out q w1 w2 _ hbg1.out hgrow.out) (fun hHeld14=>?_)
   try simp only [aS,aN,aT,a0,a1]
   refine wpAnyH_done (by kernel_rfl) ?_ _
   go_wp2
   go_end0
   have hL:Begun g m P C J p c k N us w q w1:=by
    have h1:=hBg.out
    refine ⟨hbg1.out,?_,?_,?_⟩
    ·simpa using h1.own
    ·simpa using h1.blk
    ·simpa using h1.loc
   have hHX:=HX.pushc (HR1.out q w1 hbg1.out) hRf.out (hRK.out.kept (grown_bl (hbg1.out.alloc _) none) (fun b e=>by cases e)) hgrow.out hown.out (hat.out.elim (fun e=>Or.inl e.symm) (fun e=>Or.inr fun b hb=>Nat.le_of_eq (e.symm.trans (by simpa [Value.ownBlock] using hb))))
   have hR1:=HR1.out q w1 hbg1.out
   have hq1:(w1.alloc (.cells (funs q).toArray 93)).heap[q]?=some (.cells (newRow g m P C J p c k (w.heap.size+1+1) N) 102 (0,0)):=bl_blk ((Bl.refl w1).alloc _) hL.blk
   have hl1:(w1.alloc (.cells (funs q).toArray 93)).heap[w.heap.size+1+1]?=some (.cells (vaCells (argsN (List.replicate N va0) 0 us)).toArray 109 (0,0)):=bl_blk ((Bl.refl w1).alloc _) hL.loc.blk
   have hq2:=grown_blk hgrow.out hq1 (own_far hR1.calls hq1 (by decide))
   have hl2:=grown_blk hgrow.out hl1 (own_far hR1.calls hl1 (by decide))
   refine ⟨rfl,q,w.heap.size+1+1,P,C,J,p,c,k,hHX,hL.own,by omega,HME.out,?_,⟨?_⟩⟩
   ·rw [block_far (blk_ne hq1 hR1.run (by decide))];exact hq2
   ·rw [block_far (blk_ne hl1 hR1.run (by decide))];exact hl2
end Go.Proofs.Ytgiiapenmjollaa
