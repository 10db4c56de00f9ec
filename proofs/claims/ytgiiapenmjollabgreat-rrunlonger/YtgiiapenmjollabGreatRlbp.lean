import Derived.Test.YtgiiapenmjollabGreatRlbe
import Derived.Test.YtgiiapenmjollabGreatRlbo
import Derived.Deep.AppendLies
import Derived.Deep.RegionLaw
namespace Go.Proofs.YtgiiapenmjollabGreat
set_option linter.all false
set_option maxHeartbeats 40000000
set_option maxRecDepth 100000
open Go.RowKit
theorem info_call3:(Tryz.prog.info? 107).map (fun i=>(i.zero,i.size,i.bytes))=some (some (.agg #[.nilFunc,.nilFunc,.nilFunc]),3,24):=by kernel_rfl
theorem HX.pushc {s:Nat} {X:Nat→Prop} {wx w0 w w2:World} {g:Mg} {h:Hp} {qs:List Qb} {q:Qb} {vc vo vx v':Value} (R:RH s w0 g w h qs vc vo vx) (hf:∀b,X b→FarR g vc vo vx b) (hK:KeptX X wx w) (hg:w.grownBy w2 vc.ownBlock)
  (ho:w2.ownsRow w0.heap.size 107 3 v' (qs.length+1) (callCells qs++funs q)) (hat:v'.ownBlock=vc.ownBlock∨∀b,v'.ownBlock=some b→w.heap.size≤b) :
  HX s X wx w0 g (w2.setCell ⟨g.r,3,none⟩ v') h (qs++[q]):=by
 have hrow:∀b,vc.ownBlock=some b→w0.heap.size≤b:=fun b e=>(R.calls.lt b e).1
 have hr2:=grown_blk hg R.run (own_far R.calls R.run (by decide))
 have hh2:=grown_blk hg R.hp (own_far R.calls R.hp (by decide))
 have hg2:=grown_set (w:=w2) g.r 3 v'
 obtain ⟨n,D,F⟩:=R.fld
 have hrm:g.r≠g.mp:=map_ne R.run F.own
 have hap:∀b,v'.ownBlock=some b→¬X b:=fun b e hx=>by
  rcases hat with z|z
  ·rw [z] at e;exact (hf b hx).c e
  ·have h1:=z b e
   have:=(hK.blk b hx).1;have:=hK.size;omega
 have hcc:callCells (qs++[q])=callCells qs++funs q:=by rw [callCells_append];simp [callCells]
 have hb2:Bl w0 w2:=Below.grown R.bl hg R.bl.size hrow
 refine ⟨v',vo,vx,⟨R.ownr,R.ownh,R.ownm,Below.grown hb2 hg2 hb2.size (fun k hk=>by cases hk;exact R.ownr),?_,?_,?_,?_,?_,n,D,?_,F.few,F.hit,F.miss,F.new,F.ks,F.kd⟩,fun b hx=>?_,(hK.kept hg (fun b e hx=>(hf b hx).c e)).kept hg2 (fun b e hx=>?_)⟩
 ·rw [block_set hr2];rfl
 ·exact grown_blk hg2 hh2 (fun e=>blk_ne R.run R.hp (by decide) (Option.some.inj e))
 ·exact (R.out.kept hg (row_ne R.out R.calls (by decide))).kept hg2 (Or.inr (own_far R.out R.run (by decide)))
 ·exact (R.obs.kept hg (row_ne R.obs R.calls (by decide))).kept hg2 (Or.inr (own_far R.obs R.run (by decide)))
 ·rw [hcc,List.length_append]
  exact ho.kept hg2 (Or.inr (own_far ho hr2 (by decide)))
 ·exact (F.own.kept hg (fun e=>map_row R.calls F.own e.symm)).kept hg2 (fun e=>hrm (Option.some.inj e.symm))
 ·have:=hf b hx
  exact ⟨this.r,this.h,this.m,fun e=>hap b e hx,this.o,this.x⟩
 ·cases e;exact (hf g.r hx).r rfl
structure Laid (s:Nat) (X:Nat→Prop) (wx w0:World) (g:Mg) (h:Hp) (qs:List Qb) (m:Me) (N:Nat) (us:List Va) (w:World) (q:Qb) (lb:Nat) (P C J:Option Addr) (p c k:Nat) (w':World):Prop where
 hx:HX s X wx w0 g w' h (qs++[q])
 ownq:w.heap.size≤q.q
 ownl:w.heap.size≤lb
 ownb:w.heap.size≤q.bx
 me:MeAt w0 m P C J
 box:w'.heap[q.bx]?=some (.cells #[.pointer (some ⟨q.q,0,none⟩)] 108 (0,0))
 blk:w'.heap[q.q]?=some (.cells (newRow g m P C J p c k lb N) 119 (0,0))
 loc:LBox w' lb (argsN (List.replicate N va0) 0 us)
def CallQ (s:Nat) (X:Nat→Prop) (wx w0:World) (g:Mg) (h:Hp) (qs:List Qb) (m:Me) (N:Nat) (us:List Va) (w:World) (e:Ending) (w':World):Prop :=
 e=.returned (.tuple #[])∧∃q lb P C J p c k,Laid s X wx w0 g h qs m N us w q lb P C J p c k w'
theorem runCall_yes (s:Nat) (X:Nat→Prop) (wx w0:World) (g:Mg) (h:Hp) (qs:List Qb) (i:Nat) (m:Me) (N b cap:Nat) (us:List Va) (w:World) (H:HX s X wx w0 g w h qs) (hq:qs.length<20) (hi:i<h.file.methods.length) (hm:nth me0 h.file.methods i=m) (hM:MesAt w0 g.M h.file.methods)
  (hkN:m.regs=(N:Int)) (B:LBox w b us) (hN:N≤1000) (hfit:sizP us≤N) (hk:∀v∈us,1≤v.kind∧v.kind≤3) :
  Calls Tryz.prog 71 #[.pointer (some ⟨g.r,0,none⟩),.int .i64 (i:Int),.slice (some ⟨b,0,none⟩) us.length cap] w fun e w'=>CallQ s X wx w0 g h qs m N us w e w':=by
 obtain ⟨i0,hi0,hz0,hz1,hz2⟩:=info_parts info_call3
 have hmm:=hM.1
 unfold maxLen at hmm
 rcases hM.2 with h0|⟨mb,mo,hMe,hcell⟩
 ·omega
 obtain ⟨P,C,J,p,c,k,m0,m1,m2,m3,m4,m5,m6,m7,hme⟩:=hcell i hi
 rw [hm] at m0 m1 m2 m3 m4 m5 m6 m7 hme
 have HME:=hid hme
 have HH:=hid H
 obtain ⟨vc,vo,vx,R,hf,hK⟩:=H
 have hR:=hid R
 have hRf:=hid hf
 have hRK:=hid hK
 have hbl0:=R.bl
 obtain ⟨Ac,capc,hvs,hc1,hc2⟩:=own_form R.calls
 subst hvs
 have r0:w.cell? ⟨g.r,0,none⟩=some (.pointer (some ⟨g.hb,0,none⟩)):=by rw [cell_blk R.run];rfl
 have r1:w.cell? ⟨g.r,1,none⟩=some (.slice (some ⟨mb,mo,none⟩) h.file.methods.length g.m):=by rw [cell_blk R.run,←hMe];rfl
 have r2:w.cell? ⟨g.r,2,none⟩=some (.func (.func 31) #[] #[]):=by rw [cell_blk R.run];rfl
 have r3:w.cell? ⟨g.r,3,none⟩=some (.slice Ac qs.length capc):=by rw [cell_blk R.run];rfl
 have hlr:=cell_lt r0
 have HBG:Hid (∀w',Bl w w'→Calls Tryz.prog 31 #[.pointer (some ⟨g.r,0,none⟩),meV m P C J p c k,.slice (some ⟨b,0,none⟩) us.length cap] w' fun e w2=>BeginQ g m P C J p c k N us w' e w2) :=
  fun w' hb=>begin_any g m P C J p c k N b cap us w' (hb.cell r0) hkN (B.bl hb) hN hfit hk
 have HT:Hid (∀w',Bl w w'→(fun w'=>w'.cell? ⟨g.r,1,none⟩=some (.slice (some ⟨mb,mo,none⟩) h.file.methods.length g.m)∧w'.cell? ⟨g.r,2,none⟩=some (.func (.func 31) #[] #[])∧w'.cell? ⟨mb,mo+i*8,none⟩=some (.slice P m.params.length p)∧w'.cell? ⟨mb,mo+i*8+1,none⟩=some (.int .i64 m.ret.kind)∧w'.cell? ⟨mb,mo+i*8+2,none⟩=some (.int .i64 m.ret.cls)∧w'.cell? ⟨mb,mo+i*8+3,none⟩=some (.int .i64 m.stack)∧w'.cell? ⟨mb,mo+i*8+4,none⟩=some (.int .i64 m.locs)∧w'.cell? ⟨mb,mo+i*8+5,none⟩=some (.int .i64 m.regs)∧w'.cell? ⟨mb,mo+i*8+6,none⟩=some (.slice C m.code.length c)∧w'.cell? ⟨mb,mo+i*8+7,none⟩=some (.slice J m.hands.length k)) w'):=fun w' hb=>by
  have hb0:=hbl0.trans hb
  exact ⟨hb.cell r1,hb.cell r2,hb0.cell m0,hb0.cell m1,hb0.cell m2,hb0.cell m3,hb0.cell m4,hb0.cell m5,hb0.cell m6,hb0.cell m7⟩
 have HR1:Hid (∀q w1,Bl w w1→RH s w0 g (w1.alloc (.cells (funs q).toArray 107)) h qs (.slice Ac qs.length capc) vo vx):=fun q w1 hb=>hR.out.kept (grown_bl (hb.alloc _) none) (fun b e=>by cases e)
 have HS2:Hid (∀q w1 w2,Bl w w1→(w1.alloc (.cells (funs q).toArray 107)).grownBy w2 (Value.slice Ac qs.length capc).ownBlock→(fun w'=>w'.cell? ⟨g.r,1,none⟩=some (.slice (some ⟨mb,mo,none⟩) h.file.methods.length g.m)∧w'.cell? ⟨g.r,2,none⟩=some (.func (.func 31) #[] #[])∧w'.cell? ⟨mb,mo+i*8,none⟩=some (.slice P m.params.length p)∧w'.cell? ⟨mb,mo+i*8+1,none⟩=some (.int .i64 m.ret.kind)∧w'.cell? ⟨mb,mo+i*8+2,none⟩=some (.int .i64 m.ret.cls)∧w'.cell? ⟨mb,mo+i*8+3,none⟩=some (.int .i64 m.stack)∧w'.cell? ⟨mb,mo+i*8+4,none⟩=some (.int .i64 m.locs)∧w'.cell? ⟨mb,mo+i*8+5,none⟩=some (.int .i64 m.regs)∧w'.cell? ⟨mb,mo+i*8+6,none⟩=some (.slice C m.code.length c)∧w'.cell? ⟨mb,mo+i*8+7,none⟩=some (.slice J m.hands.length k)) w2∧w2.cell? ⟨g.r,3,none⟩=some (.slice Ac qs.length capc)∧∀i,w2.frozen? ⟨g.r,i,none⟩=false):=fun q w1 w2 hb hg=>by
  have R1:=HR1.out q w1 hb
  have hr2:=grown_blk hg R1.run (own_far R1.calls R1.run (by decide))
  have hb2:Bl w0 w2:=Below.grown R1.bl hg R1.bl.size (fun b e=>(R1.calls.lt b e).1)
  exact ⟨⟨by rw [cell_blk hr2,←hMe];rfl,by rw [cell_blk hr2];rfl,hb2.cell m0,hb2.cell m1,hb2.cell m2,hb2.cell m3,hb2.cell m4,hb2.cell m5,hb2.cell m6,hb2.cell m7⟩,by rw [cell_blk hr2];rfl,free_blk hr2⟩
 have HS3:Hid (∀q w1 w2 v',Bl w w1→(w1.alloc (.cells (funs q).toArray 107)).grownBy w2 (Value.slice Ac qs.length capc).ownBlock→(fun w'=>w'.cell? ⟨g.r,1,none⟩=some (.slice (some ⟨mb,mo,none⟩) h.file.methods.length g.m)∧w'.cell? ⟨g.r,2,none⟩=some (.func (.func 31) #[] #[])∧w'.cell? ⟨mb,mo+i*8,none⟩=some (.slice P m.params.length p)∧w'.cell? ⟨mb,mo+i*8+1,none⟩=some (.int .i64 m.ret.kind)∧w'.cell? ⟨mb,mo+i*8+2,none⟩=some (.int .i64 m.ret.cls)∧w'.cell? ⟨mb,mo+i*8+3,none⟩=some (.int .i64 m.stack)∧w'.cell? ⟨mb,mo+i*8+4,none⟩=some (.int .i64 m.locs)∧w'.cell? ⟨mb,mo+i*8+5,none⟩=some (.int .i64 m.regs)∧w'.cell? ⟨mb,mo+i*8+6,none⟩=some (.slice C m.code.length c)∧w'.cell? ⟨mb,mo+i*8+7,none⟩=some (.slice J m.hands.length k)) (w2.setCell ⟨g.r,3,none⟩ v')):=fun q w1 w2 v' hb hg=>by
  have R1:=HR1.out q w1 hb
  have hr2:=grown_blk hg R1.run (own_far R1.calls R1.run (by decide))
  have hb2:Bl w0 w2:=Below.grown R1.bl hg R1.bl.size (fun b e=>(R1.calls.lt b e).1)
  have hr3:=block_set (i:=3) hr2 v'
  have hb3:Bl w0 (w2.setCell ⟨g.r,3,none⟩ v'):=Below.grown hb2 (grown_set g.r 3 v') hb2.size (fun k hk=>by cases hk;exact R1.ownr)
  exact ⟨by rw [cell_blk hr3,←hMe];rfl,by rw [cell_blk hr3];rfl,hb3.cell m0,hb3.cell m1,hb3.cell m2,hb3.cell m3,hb3.cell m4,hb3.cell m5,hb3.cell m6,hb3.cell m7⟩
 have n0:¬(20:Int)≤(qs.length:Int):=by omega
 have i0':(0:Int)≤(i:Int):=by omega
 have i1':(i:Int)<(h.file.methods.length:Int):=by omega
 have hqq:=hid hq
 clear R hf hK hbl0 hc1 hc2 m0 m1 m2 m3 m4 m5 m6 m7 hme hcell hm hkN B hfit hk hM r0 r1 r2 hq hN
 go_enter Tryz.func71,Tryz.ntmps71
 go_wp2
 refine wp_region_held_drew (S:=fun w'=>w'.cell? ⟨g.r,1,none⟩=some (.slice (some ⟨mb,mo,none⟩) h.file.methods.length g.m)∧w'.cell? ⟨g.r,2,none⟩=some (.func (.func 31) #[] #[])∧w'.cell? ⟨mb,mo+i*8,none⟩=some (.slice P m.params.length p)∧w'.cell? ⟨mb,mo+i*8+1,none⟩=some (.int .i64 m.ret.kind)∧w'.cell? ⟨mb,mo+i*8+2,none⟩=some (.int .i64 m.ret.cls)∧w'.cell? ⟨mb,mo+i*8+3,none⟩=some (.int .i64 m.stack)∧w'.cell? ⟨mb,mo+i*8+4,none⟩=some (.int .i64 m.locs)∧w'.cell? ⟨mb,mo+i*8+5,none⟩=some (.int .i64 m.regs)∧w'.cell? ⟨mb,mo+i*8+6,none⟩=some (.slice C m.code.length c)∧w'.cell? ⟨mb,mo+i*8+7,none⟩=some (.slice J m.hands.length k)) (by kernel_rfl) ?_ (fun hHeld0=>?_)
 ·exact HT.out _ (Bl.refl _).drew
 refine tk (i:=0) (d:=some 13) rfl rfl (by kernel_rfl) (fun _ _ _ h=>h) (by rfl) (by intro _ h;(try dsimp only at h);go_split_ands;go_simp<;>with_reducible rfl) hHeld0 ?_
 try simp only [aS,aN,aT,a0,a1]
 refine tk (i:=1) (d:=some 14) rfl rfl (by kernel_rfl) (fun _ _ _ h=>h) (by rfl) (by intro _ h;(try dsimp only at h);go_split_ands;go_simp<;>with_reducible rfl) hHeld0 ?_
 try simp only [aS,aN,aT,a0,a1]
 refine tk (i:=2) (d:=some 15) rfl rfl (by kernel_rfl) (fun _ _ _ h=>h) (by rfl) (by intro _ h;(try dsimp only at h);go_split_ands;go_simp<;>with_reducible rfl) hHeld0 ?_
 try simp only [aS,aN,aT,a0,a1]
 refine tk (i:=3) (d:=some 16) rfl rfl (by kernel_rfl) (fun _ _ _ h=>h) (by rfl) (by intro _ h;(try dsimp only at h);go_split_ands;go_simp<;>with_reducible rfl) hHeld0 ?_
 try simp only [aS,aN,aT,a0,a1]
 refine tk (i:=5) (d:=some 18) rfl rfl (by kernel_rfl) (fun _ _ _ h=>h) (by rfl) (by intro _ h;(try dsimp only at h);go_split_ands;go_simp<;>with_reducible rfl) hHeld0 ?_
 try simp only [aS,aN,aT,a0,a1]
 refine tk (i:=6) (d:=some 19) rfl rfl (by kernel_rfl) (fun _ _ _ h=>h) (by rfl) (by intro _ h;(try dsimp only at h);go_split_ands;go_simp<;>with_reducible rfl) hHeld0 ?_
 try simp only [aS,aN,aT,a0,a1]
 refine tk (i:=7) (d:=some 20) rfl rfl (by kernel_rfl) (fun _ _ _ h=>h) (by rfl) (by intro _ h;(try dsimp only at h);go_split_ands;go_simp<;>with_reducible rfl) hHeld0 ?_
 try simp only [aS,aN,aT,a0,a1]
 refine tk (i:=8) (d:=some 21) rfl rfl (by kernel_rfl) (fun _ _ _ h=>h) (by rfl) (by intro _ h;(try dsimp only at h);go_split_ands;go_simp<;>with_reducible rfl) hHeld0 ?_
 try simp only [aS,aN,aT,a0,a1]
 refine tk (i:=9) (d:=some 22) rfl rfl (by kernel_rfl) (fun _ _ _ h=>h) (by rfl) (by intro _ h;(try dsimp only at h);go_split_ands;go_simp<;>with_reducible rfl) hHeld0 ?_
 try simp only [aS,aN,aT,a0,a1]
 refine tk (i:=10) (d:=some 23) rfl rfl (by kernel_rfl) (fun _ _ _ h=>h) (by rfl) (by intro _ h;(try dsimp only at h);go_split_ands;go_simp<;>with_reducible rfl) hHeld0 ?_
 try simp only [aS,aN,aT,a0,a1]
 refine tk (i:=11) (d:=some 24) rfl rfl (by kernel_rfl) (fun _ _ _ h=>h) (by rfl) (by intro _ h;(try dsimp only at h);go_split_ands;go_simp<;>with_reducible rfl) hHeld0 ?_
 try simp only [aS,aN,aT,a0,a1]
 refine tk (i:=12) (d:=some 25) rfl rfl (by kernel_rfl) (fun _ _ _ h=>h) (by rfl) (by intro _ h;(try dsimp only at h);go_split_ands;go_simp<;>with_reducible rfl) hHeld0 ?_
 try simp only [aS,aN,aT,a0,a1]
 refine tk (i:=13) (d:=some 26) rfl rfl (by kernel_rfl) (fun _ _ _ h=>h) (by rfl) (by intro _ h;(try dsimp only at h);go_split_ands;go_simp<;>with_reducible rfl) hHeld0 ?_
 try simp only [aS,aN,aT,a0,a1]
 refine tk (i:=14) (d:=some 27) rfl rfl (by kernel_rfl) (fun _ _ _ h=>h) (by rfl) (by intro _ h;(try dsimp only at h);go_split_ands;go_simp<;>with_reducible rfl) hHeld0 ?_
 try simp only [aS,aN,aT,a0,a1]
 refine tk (i:=15) (d:=some 28) rfl rfl (by kernel_rfl) (fun _ _ _ h=>h) (by rfl) (by intro _ h;(try dsimp only at h);go_split_ands;go_simp<;>with_reducible rfl) hHeld0 ?_
 try simp only [aS,aN,aT,a0,a1]
 refine tk (i:=16) (d:=some 29) rfl rfl (by kernel_rfl) (fun _ _ _ h=>h) (by rfl) (by intro _ h;(try dsimp only at h);go_split_ands;go_simp<;>with_reducible rfl) hHeld0 ?_
 try simp only [aS,aN,aT,a0,a1]
 refine tk (i:=17) (d:=some 30) rfl rfl (by kernel_rfl) (fun _ _ _ h=>h) (by rfl) (by intro _ h;(try dsimp only at h);go_split_ands;go_simp<;>with_reducible rfl) hHeld0 ?_
 try simp only [aS,aN,aT,a0,a1]
 refine wpAnyH_ready (rs:=[4,18]) (by kernel_rfl) (by simp) ?_
 refine AllReadyH.cons rfl (fun K hK=>?_) (AllReadyH.cons rfl (fun K hK=>?_) (AllReadyH.nil))
 ·go_wp2_with fail
  refine hK.out _ _ (hHeld0) (fun hHeld1=>?_)
  try simp only [aS,aN,aT,a0,a1]
  refine rd1 (i:=18) (by kernel_rfl) rfl fun K hK=>?_
  go_simp
  go_at_call 31
  refine (HBG.out _ (Bl.refl w).drew).mono ?_
  rintro e w1 ⟨q,lb,rfl,Bg⟩
  have bg1:Bl w w1:=(Bl.refl w).drew.trans Bg.bl
  have f3:=bg1.cell r3
  have f4:∀o,(w1.alloc o).cell? ⟨g.r,3,none⟩=some (.slice Ac qs.length capc):=fun o=>(bg1.alloc o).cell r3
  have hBg:=hid Bg
  have hbg1:=hid bg1
  clear Bg bg1
  unfold funs
  go_wp2_with fail
  refine hK.out _ _ (HT.out _ hbg1.out) (fun hHeld2=>?_)
  try simp only [aS,aN,aT,a0,a1]
  refine rd1 (i:=19) (by kernel_rfl) rfl fun K hK=>?_
  go_simp
  refine hK.out _ _ (HT.out _ (hbg1.out.alloc _)) (fun hHeld3=>?_)
  try simp only [aS,aN,aT,a0,a1]
  refine rd1 (i:=20) (by kernel_rfl) rfl fun K hK=>?_
  refine step_append_lies _ (by rfl) _ _ _ (by rfl) w0.heap.size 107 i0 _ 3 24 Tryz.underlying110 hi0 hz0 hz1 hz2 rfl (by omega) _ qs.length (callCells qs) (by rfl) (HR1.out q w1 hbg1.out).calls ⟨w1.heap.size,0,none⟩ 1 1 (funs q) (by rfl) (by rfl) (World.news_of_block (cs:=#[.func (.func 67) #[.pointer (some ⟨q.q,0,none⟩)] #[],.func (.func 66) #[] #[.pointer (some ⟨q.bx,0,none⟩)],.func (.func 68) #[.pointer (some ⟨q.q,0,none⟩)] #[]]) (t:=107) (fr:=(0,0)) (blk_new _ _ _)) (by simp [funs,Value.oneCell']) (by omega) (by unfold maxLen;omega) (by omega) (HR1.out q w1 hbg1.out).bl.size _ rfl ?_
  intro gb cp w2 hown hgrow hat hlt1
  have hS2:=HS2.out q w1 w2 hbg1.out hgrow
  have c3:=hS2.2.1
  have z3:=hS2.2.2
  have hS2a:=hid hS2.1
  clear hS2
  replace hown:=hid hown
  replace hgrow:=hid hgrow
  replace hat:=hid hat
  change K (Act.put _ (some 33) _) w2
  refine hK.out _ _ (hS2a.out) (fun hHeld4=>?_)
  try simp only [aS,aN,aT,a0,a1]
  refine tk (i:=21) (d:=some 34) rfl rfl (by kernel_rfl) (fun _ _ _ h=>h) (by rfl) (by intro _ h;(try dsimp only at h);go_split_ands;go_simp<;>with_reducible rfl) hHeld4 ?_
  try simp only [aS,aN,aT,a0,a1]
  refine tk (i:=22) (d:=some 35) rfl rfl (by kernel_rfl) (fun _ _ _ h=>h) (by rfl) (by intro _ h;(try dsimp only at h);go_split_ands;go_simp<;>with_reducible rfl) hHeld4 ?_
  try simp only [aS,aN,aT,a0,a1]
  refine rd1 (i:=23) (by kernel_rfl) rfl fun K hK=>?_
  go_simp
  refine hK.out _ _ (HS3.out q w1 w2 _ hbg1.out hgrow.out) (fun hHeld5=>?_)
  try simp only [aS,aN,aT,a0,a1]
  refine wpAnyH_done (by kernel_rfl) ?_ _
  go_wp2
  go_end0
  have hHX:=HX.pushc (HR1.out q w1 hbg1.out) hRf.out (hRK.out.kept (grown_bl (hbg1.out.alloc _) none) (fun b e=>by cases e)) hgrow.out hown.out (hat.out.elim (fun e=>Or.inl e.symm) (fun e=>Or.inr fun b hb=>Nat.le_of_eq (e.symm.trans (by simpa [Value.ownBlock] using hb))))
  have hR1:=HR1.out q w1 hbg1.out
  have hB:=hBg.out
  have hq1:(w1.alloc (.cells (funs q).toArray 107)).heap[q.q]?=some (.cells (newRow g m P C J p c k lb N) 119 (0,0)):=bl_blk ((Bl.refl w1).alloc _) hB.blk
  have hx1:(w1.alloc (.cells (funs q).toArray 107)).heap[q.bx]?=some (.cells #[.pointer (some ⟨q.q,0,none⟩)] 108 (0,0)):=bl_blk ((Bl.refl w1).alloc _) hB.box
  have hl1:(w1.alloc (.cells (funs q).toArray 107)).heap[lb]?=some (.cells (vaCells (argsN (List.replicate N va0) 0 us)).toArray 115 (0,0)):=bl_blk ((Bl.refl w1).alloc _) hB.loc.blk
  have hq2:=grown_blk hgrow.out hq1 (own_far hR1.calls hq1 (by decide))
  have hx2:=grown_blk hgrow.out hx1 (own_far hR1.calls hx1 (by decide))
  have hl2:=grown_blk hgrow.out hl1 (own_far hR1.calls hl1 (by decide))
  have o1:w.heap.size≤q.q:=hB.own
  have o2:w.heap.size≤lb:=hB.ownl
  have o3:w.heap.size≤q.bx:=hB.ownb
  refine ⟨rfl,q,lb,P,C,J,p,c,k,hHX,o1,o2,o3,HME.out,?_,?_,⟨?_⟩⟩
  ·rw [block_far (blk_ne hx1 hR1.run (by decide))];exact hx2
  ·rw [block_far (blk_ne hq1 hR1.run (by decide))];exact hq2
  ·rw [block_far (blk_ne hl1 hR1.run (by decide))];exact hl2
 ·go_simp
  go_at_call 31
  refine (HBG.out _ (Bl.refl w).drew).mono ?_
  rintro e w1 ⟨q,lb,rfl,Bg⟩
  have bg1:Bl w w1:=(Bl.refl w).drew.trans Bg.bl
  have f3:=bg1.cell r3
  have f4:∀o,(w1.alloc o).cell? ⟨g.r,3,none⟩=some (.slice Ac qs.length capc):=fun o=>(bg1.alloc o).cell r3
  have hBg:=hid Bg
  have hbg1:=hid bg1
  clear Bg bg1
  unfold funs
  go_wp2_with fail
  refine hK.out _ _ (HT.out _ hbg1.out) (fun hHeld6=>?_)
  try simp only [aS,aN,aT,a0,a1]
  refine wpAnyH_ready (rs:=[4,19]) (by kernel_rfl) (by simp) ?_
  refine AllReadyH.cons rfl (fun K hK=>?_) (AllReadyH.cons rfl (fun K hK=>?_) (AllReadyH.nil))
  ·go_wp2_with fail
   refine hK.out _ _ (hHeld6) (fun hHeld7=>?_)
   try simp only [aS,aN,aT,a0,a1]
   refine rd1 (i:=19) (by kernel_rfl) rfl fun K hK=>?_
   go_simp
   refine hK.out _ _ (HT.out _ (hbg1.out.alloc _)) (fun hHeld8=>?_)
   try simp only [aS,aN,aT,a0,a1]
   refine rd1 (i:=20) (by kernel_rfl) rfl fun K hK=>?_
   refine step_append_lies _ (by rfl) _ _ _ (by rfl) w0.heap.size 107 i0 _ 3 24 Tryz.underlying110 hi0 hz0 hz1 hz2 rfl (by omega) _ qs.length (callCells qs) (by rfl) (HR1.out q w1 hbg1.out).calls ⟨w1.heap.size,0,none⟩ 1 1 (funs q) (by rfl) (by rfl) (World.news_of_block (cs:=#[.func (.func 67) #[.pointer (some ⟨q.q,0,none⟩)] #[],.func (.func 66) #[] #[.pointer (some ⟨q.bx,0,none⟩)],.func (.func 68) #[.pointer (some ⟨q.q,0,none⟩)] #[]]) (t:=107) (fr:=(0,0)) (blk_new _ _ _)) (by simp [funs,Value.oneCell']) (by omega) (by unfold maxLen;omega) (by omega) (HR1.out q w1 hbg1.out).bl.size _ rfl ?_
   intro gb cp w2 hown hgrow hat hlt1
   have hS2:=HS2.out q w1 w2 hbg1.out hgrow
   have c3:=hS2.2.1
   have z3:=hS2.2.2
   have hS2a:=hid hS2.1
   clear hS2
   replace hown:=hid hown
   replace hgrow:=hid hgrow
   replace hat:=hid hat
   change K (Act.put _ (some 33) _) w2
   refine hK.out _ _ (hS2a.out) (fun hHeld9=>?_)
   try simp only [aS,aN,aT,a0,a1]
   refine tk (i:=21) (d:=some 34) rfl rfl (by kernel_rfl) (fun _ _ _ h=>h) (by rfl) (by intro _ h;(try dsimp only at h);go_split_ands;go_simp<;>with_reducible rfl) hHeld9 ?_
   try simp only [aS,aN,aT,a0,a1]
   refine tk (i:=22) (d:=some 35) rfl rfl (by kernel_rfl) (fun _ _ _ h=>h) (by rfl) (by intro _ h;(try dsimp only at h);go_split_ands;go_simp<;>with_reducible rfl) hHeld9 ?_
   try simp only [aS,aN,aT,a0,a1]
   refine rd1 (i:=23) (by kernel_rfl) rfl fun K hK=>?_
   go_simp
   refine hK.out _ _ (HS3.out q w1 w2 _ hbg1.out hgrow.out) (fun hHeld10=>?_)
   try simp only [aS,aN,aT,a0,a1]
   refine wpAnyH_done (by kernel_rfl) ?_ _
   go_wp2
   go_end0
   have hHX:=HX.pushc (HR1.out q w1 hbg1.out) hRf.out (hRK.out.kept (grown_bl (hbg1.out.alloc _) none) (fun b e=>by cases e)) hgrow.out hown.out (hat.out.elim (fun e=>Or.inl e.symm) (fun e=>Or.inr fun b hb=>Nat.le_of_eq (e.symm.trans (by simpa [Value.ownBlock] using hb))))
   have hR1:=HR1.out q w1 hbg1.out
   have hB:=hBg.out
   have hq1:(w1.alloc (.cells (funs q).toArray 107)).heap[q.q]?=some (.cells (newRow g m P C J p c k lb N) 119 (0,0)):=bl_blk ((Bl.refl w1).alloc _) hB.blk
   have hx1:(w1.alloc (.cells (funs q).toArray 107)).heap[q.bx]?=some (.cells #[.pointer (some ⟨q.q,0,none⟩)] 108 (0,0)):=bl_blk ((Bl.refl w1).alloc _) hB.box
   have hl1:(w1.alloc (.cells (funs q).toArray 107)).heap[lb]?=some (.cells (vaCells (argsN (List.replicate N va0) 0 us)).toArray 115 (0,0)):=bl_blk ((Bl.refl w1).alloc _) hB.loc.blk
   have hq2:=grown_blk hgrow.out hq1 (own_far hR1.calls hq1 (by decide))
   have hx2:=grown_blk hgrow.out hx1 (own_far hR1.calls hx1 (by decide))
   have hl2:=grown_blk hgrow.out hl1 (own_far hR1.calls hl1 (by decide))
   have o1:w.heap.size≤q.q:=hB.own
   have o2:w.heap.size≤lb:=hB.ownl
   have o3:w.heap.size≤q.bx:=hB.ownb
   refine ⟨rfl,q,lb,P,C,J,p,c,k,hHX,o1,o2,o3,HME.out,?_,?_,⟨?_⟩⟩
   ·rw [block_far (blk_ne hx1 hR1.run (by decide))];exact hx2
   ·rw [block_far (blk_ne hq1 hR1.run (by decide))];exact hq2
   ·rw [block_far (blk_ne hl1 hR1.run (by decide))];exact hl2
  ·go_simp
   refine hK.out _ _ (HT.out _ (hbg1.out.alloc _)) (fun hHeld11=>?_)
   try simp only [aS,aN,aT,a0,a1]
   refine rd1 (i:=4) (by kernel_rfl) rfl fun K hK=>?_
   go_wp2_with fail
   refine hK.out _ _ (hHeld11) (fun hHeld12=>?_)
   try simp only [aS,aN,aT,a0,a1]
   refine rd1 (i:=20) (by kernel_rfl) rfl fun K hK=>?_
   refine step_append_lies _ (by rfl) _ _ _ (by rfl) w0.heap.size 107 i0 _ 3 24 Tryz.underlying110 hi0 hz0 hz1 hz2 rfl (by omega) _ qs.length (callCells qs) (by rfl) (HR1.out q w1 hbg1.out).calls ⟨w1.heap.size,0,none⟩ 1 1 (funs q) (by rfl) (by rfl) (World.news_of_block (cs:=#[.func (.func 67) #[.pointer (some ⟨q.q,0,none⟩)] #[],.func (.func 66) #[] #[.pointer (some ⟨q.bx,0,none⟩)],.func (.func 68) #[.pointer (some ⟨q.q,0,none⟩)] #[]]) (t:=107) (fr:=(0,0)) (blk_new _ _ _)) (by simp [funs,Value.oneCell']) (by omega) (by unfold maxLen;omega) (by omega) (HR1.out q w1 hbg1.out).bl.size _ rfl ?_
   intro gb cp w2 hown hgrow hat hlt1
   have hS2:=HS2.out q w1 w2 hbg1.out hgrow
   have c3:=hS2.2.1
   have z3:=hS2.2.2
   have hS2a:=hid hS2.1
   clear hS2
   replace hown:=hid hown
   replace hgrow:=hid hgrow
   replace hat:=hid hat
   change K (Act.put _ (some 33) _) w2
   refine hK.out _ _ (hS2a.out) (fun hHeld13=>?_)
   try simp only [aS,aN,aT,a0,a1]
   refine tk (i:=21) (d:=some 34) rfl rfl (by kernel_rfl) (fun _ _ _ h=>h) (by rfl) (by intro _ h;(try dsimp only at h);go_split_ands;go_simp<;>with_reducible rfl) hHeld13 ?_
   try simp only [aS,aN,aT,a0,a1]
   refine tk (i:=22) (d:=some 35) rfl rfl (by kernel_rfl) (fun _ _ _ h=>h) (by rfl) (by intro _ h;(try dsimp only at h);go_split_ands;go_simp<;>with_reducible rfl) hHeld13 ?_
   try simp only [aS,aN,aT,a0,a1]
   refine rd1 (i:=23) (by kernel_rfl) rfl fun K hK=>?_
   go_simp
   refine hK.out _ _ (HS3.out q w1 w2 _ hbg1.out hgrow.out) (fun hHeld14=>?_)
   try simp only [aS,aN,aT,a0,a1]
   refine wpAnyH_done (by kernel_rfl) ?_ _
   go_wp2
   go_end0
   have hHX:=HX.pushc (HR1.out q w1 hbg1.out) hRf.out (hRK.out.kept (grown_bl (hbg1.out.alloc _) none) (fun b e=>by cases e)) hgrow.out hown.out (hat.out.elim (fun e=>Or.inl e.symm) (fun e=>Or.inr fun b hb=>Nat.le_of_eq (e.symm.trans (by simpa [Value.ownBlock] using hb))))
   have hR1:=HR1.out q w1 hbg1.out
   have hB:=hBg.out
   have hq1:(w1.alloc (.cells (funs q).toArray 107)).heap[q.q]?=some (.cells (newRow g m P C J p c k lb N) 119 (0,0)):=bl_blk ((Bl.refl w1).alloc _) hB.blk
   have hx1:(w1.alloc (.cells (funs q).toArray 107)).heap[q.bx]?=some (.cells #[.pointer (some ⟨q.q,0,none⟩)] 108 (0,0)):=bl_blk ((Bl.refl w1).alloc _) hB.box
   have hl1:(w1.alloc (.cells (funs q).toArray 107)).heap[lb]?=some (.cells (vaCells (argsN (List.replicate N va0) 0 us)).toArray 115 (0,0)):=bl_blk ((Bl.refl w1).alloc _) hB.loc.blk
   have hq2:=grown_blk hgrow.out hq1 (own_far hR1.calls hq1 (by decide))
   have hx2:=grown_blk hgrow.out hx1 (own_far hR1.calls hx1 (by decide))
   have hl2:=grown_blk hgrow.out hl1 (own_far hR1.calls hl1 (by decide))
   have o1:w.heap.size≤q.q:=hB.own
   have o2:w.heap.size≤lb:=hB.ownl
   have o3:w.heap.size≤q.bx:=hB.ownb
   refine ⟨rfl,q,lb,P,C,J,p,c,k,hHX,o1,o2,o3,HME.out,?_,?_,⟨?_⟩⟩
   ·rw [block_far (blk_ne hx1 hR1.run (by decide))];exact hx2
   ·rw [block_far (blk_ne hq1 hR1.run (by decide))];exact hq2
   ·rw [block_far (blk_ne hl1 hR1.run (by decide))];exact hl2
theorem qsL_length (L:List Kl):(qsL L).length=L.length:=by simp [qsL]
theorem RR.push {s:Nat} {Z:Nat→Prop} {wx w0 w w':World} {g:Mg} {h:Hp} {L:List Kl} (H:RR s Z wx w0 g w h L) {m:Me} {N:Nat} {vs:List Va} {q:Qb} {lb:Nat} {P C J:Option Addr} {p c k:Nat}
  (D:Laid s (andZ L Z) w w0 g h (qsL L) m N (vs.map im) w q lb P C J p c k w') (hN:m.regs=(N:Int)) (hN2:N≤1000) (hfit:sizP vs≤N) (hk:∀v∈vs,1≤v.kind∧v.kind≤3) :
  RR s Z wx w0 g w' h (⟨⟨q.q,lb,N,P,p,C,c,J,k,q.bx⟩,newCal m vs,.slice none 0 0,argsN (List.replicate N va0) 0 (vs.map im)⟩::L):=by
 obtain ⟨vc,vo,vx,R,hl,z1,z2,K⟩:=H
 obtain ⟨vc',vo',vx',R',f,K'⟩:=D.hx
 have hw0:=R.bl.size
 have e0:m.regs.toNat=N:=by omega
 have hlen:(argsP (List.replicate m.regs.toNat va0) 0 vs).length=N:=by rw [args_length,e0];simp
 have hno:∀b,b<w.heap.size→FarC ⟨q.q,lb,N,P,p,C,c,J,k,q.bx⟩ (.slice none 0 0) b:=fun b hb=>by
  have:=D.ownq;have:=D.ownl;have:=D.ownb
  exact ⟨by show b≠q.q;omega,by show b≠lb;omega,fun e=>by simp [Value.ownBlock] at e,by show b≠q.bx;omega⟩
 have hq2:qsL (⟨⟨q.q,lb,N,P,p,C,c,J,k,q.bx⟩,newCal m vs,.slice none 0 0,argsN (List.replicate N va0) 0 (vs.map im)⟩::L)=qsL L++[q]:=by simp [qsL,Mc.qb]
 refine ⟨vc',vo',vx',by rw [hq2];exact R',⟨⟨?_,?_,?_,?_,D.box,D.loc.blk,?_,?_,fun e=>by simp [Value.ownBlock] at e,D.me,?_,⟨⟨by show (0:Int)≤0;decide,by show (0:Int)≤3;decide⟩,⟨by show (0:Int)≤0;decide,by show (0:Int)≤3;decide⟩⟩⟩,fun b hb=>hno b (hl.lt hb),hl.same (fun b hb=>(K'.blk b (Or.inl hb)).2)⟩,fun b hb=>f b (Or.inr hb),fun b hb y hy=>?_,K.then K' (fun b hb=>Or.inr hb)⟩
 ·have:=D.ownq;show w0.heap.size≤q.q;omega
 ·have:=D.ownl;show w0.heap.size≤lb;omega
 ·have:=D.ownb;show w0.heap.size≤q.bx;omega
 ·have:=D.blk
  unfold newRow at this
  unfold callRow
  show w'.heap[q.q]?=some (.cells #[.pointer (some ⟨g.hb,0,none⟩),.pointer (some ⟨g.r,0,none⟩),.slice P m.params.length p,.int .i64 m.ret.kind,.int .i64 m.ret.cls,.int .i64 m.stack,.int .i64 m.locs,.int .i64 m.regs,.slice C m.code.length c,.slice J m.hands.length k,.slice (some ⟨lb,0,none⟩) (argsP (List.replicate m.regs.toNat va0) 0 vs).length N,.int .i64 0,.int .i64 0,.int .i64 0,.int .i64 0,.int .i64 0] 119 (0,0))
  rw [hlen]
  exact this
 ·show LRel (argsP (List.replicate m.regs.toNat va0) 0 vs) _
  rw [e0]
  exact args_rel vs _ _ 0 (LRel.new N) hk (by simp;exact hfit)
 ·exact ⟨rfl,Or.inl ⟨rfl,rfl⟩⟩
 ·show (argsP (List.replicate m.regs.toNat va0) 0 vs).length≤1000
  rw [hlen];exact hN2
 ·rcases List.mem_cons.1 hy with rfl|hy
  ·exact hno b (Nat.lt_of_lt_of_le (K.blk b hb).1 K.size)
  ·exact z2 b hb y hy
theorem KsAt.mem {w0 w:World} {g:Mg}:∀{L:List Kl},KsAt w0 g w L→∀{y:Kl},y∈L→CA w0 g w y.a y.c y.l y.vs
 | [],_,_,hy=>by cases hy
 | k::L,H,y,hy=>by
  rcases List.mem_cons.1 hy with rfl|hy
  ·exact H.1
  ·exact KsAt.mem H.2.2 hy
theorem RR.wide {s:Nat} {Z:Nat→Prop} {wx w0 w w':World} {g:Mg} {h:Hp} {L:List Kl} (H:RR s Z wx w0 g w h L) (hb:Bl w w'):RR s (Xp Z w.heap.size w'.heap.size) w' w0 g w' h L:=by
 obtain ⟨vc,vo,vx,R,hl,z1,z2,K⟩:=H
 have hsz:=hb.size
 refine ⟨vc,vo,vx,R.kept (grown_bl hb none) (fun b e=>by cases e),hl.same (fun b ho=>hb.block b (hl.lt ho)),fun b hx=>?_,fun b hx y hy=>?_,Nat.le_refl _,fun b hx=>⟨?_,rfl⟩⟩
 ·rcases hx with hx|hx
  ·exact z1 b hx
  ·exact R.farNew hx.1
 ·rcases hx with hx|hx
  ·exact z2 b hx y hy
  ·exact (hl.mem hy).farNew hx.1
 ·rcases hx with hx|hx
  ·have:=(K.blk b hx).1;have:=K.size;omega
  ·exact hx.2
theorem RR.back {s s':Nat} {Z:Nat→Prop} {wx w0 w w' w2:World} {g:Mg} {h h':Hp} {L L':List Kl} (H:RR s Z wx w0 g w h L) (hb:Bl w w') (H2:RR s' (Xp Z w.heap.size w'.heap.size) w' w0 g w2 h' L'):RR s' Z wx w0 g w2 h' L':=by
 obtain ⟨vc,vo,vx,R,hl,z1,z2,K⟩:=H
 obtain ⟨vc',vo',vx',R',hl',z1',z2',K'⟩:=H2
 refine ⟨vc',vo',vx',R',hl',fun b hx=>z1' b (Or.inl hx),fun b hx=>z2' b (Or.inl hx),Nat.le_trans K.size (Nat.le_trans hb.size K'.size),fun b hx=>⟨(K.blk b hx).1,?_⟩⟩
 have h1:=(K.blk b hx).1
 have h2:=K.size
 rw [(K'.blk b (Or.inl hx)).2,hb.block b (by omega)]
 exact (K.blk b hx).2
theorem RR.own {s:Nat} {Z:Nat→Prop} {wx w0 w w':World} {g:Mg} {h:Hp} {L:List Kl} {n:Nat} (H:RR s (Xp Z n wx.heap.size) wx w0 g w h L) {b:Nat} (hb:n≤b) {o:Obj} (ho:wx.heap[b]?=some o):w.heap[b]?=some o:=by
 obtain ⟨vc,vo,vx,R,hl,z1,z2,K⟩:=H
 rw [(K.blk b (Or.inr ⟨hb,lt_some ho⟩)).2];exact ho
theorem call_rr (s:Nat) (Z:Nat→Prop) (wx w0:World) (g:Mg) (h:Hp) (L:List Kl) (w:World) (H:RR s Z wx w0 g w h L) (i:Nat) (m:Me) (N b cap:Nat) (vs:List Va) (hq:L.length<20) (hi:i<h.file.methods.length) (hm:nth me0 h.file.methods i=m) (hM:MesAt w0 g.M h.file.methods)
  (hN:m.regs=(N:Int)) (hN2:N≤1000) (B:LBox w b (vs.map im)) (hfit:sizP vs≤N) (hk:∀v∈vs,1≤v.kind∧v.kind≤3) :
  Calls Tryz.prog 71 #[.pointer (some ⟨g.r,0,none⟩),.int .i64 (i:Int),.slice (some ⟨b,0,none⟩) vs.length cap] w fun e w'=>e=.returned (.tuple #[])∧∃k2:Kl,k2.c=newCal m vs∧RR s Z wx w0 g w' h (k2::L):=by
 have hc:=runCall_yes s (andZ L Z) w w0 g h (qsL L) i m N b cap (vs.map im) w H.hx (by rw [qsL_length];exact hq) hi hm hM hN B hN2 (by rw [siz_im];exact hfit) (fun v hv=>by
  obtain ⟨u,hu,rfl⟩:=List.mem_map.1 hv
  exact hk u hu)
 rw [List.length_map] at hc
 refine hc.mono ?_
 rintro e w' ⟨rfl,q,lb,P,C,J,p,c,k,D⟩
 exact ⟨rfl,_,rfl,H.push D hN hN2 hfit hk⟩
theorem call_deep (s:Nat) (Z:Nat→Prop) (wx w0:World) (g:Mg) (h:Hp) (k:Kl) (L:List Kl) (w:World) (H:RR s Z wx w0 g w h (k::L)) (i:Int) (v:Value) (hq:20≤(k::L).length) (hq2:(k::L).length≤1000) :
  Calls Tryz.prog 71 #[.pointer (some ⟨g.r,0,none⟩),.int .i64 i,v] w fun e w'=>e=stopE 5 0 0∧RR s Z wx w0 g w' h (k::L):=by
 have HH:=hid H
 obtain ⟨gb,cap,c3⟩:=H.c3
 simp only [List.length_cons] at hq hq2
 obtain ⟨n,hn⟩:∃n,L.length+1=n:=⟨_,rfl⟩
 have c3':w.cell? ⟨g.r,3,none⟩=some (.slice (some ⟨gb,0,none⟩) n cap):=by rw [←hn];exact c3
 have n0:(20:Int)≤(n:Int):=by omega
 have n1:(n:Int)≤1000:=by omega
 clear H c3 hn hq hq2
 go_enter Tryz.func71,Tryz.ntmps71
 go_wp2_with (go_at_call 146;refine (mend_any 5 _).mono ?_;rintro e w1 ⟨rfl,hw⟩;rw [hw];clear hw w1)
 exact ⟨rfl,rfl,HH.out⟩
theorem RR.heap {s:Nat} {Z:Nat→Prop} {wx w0 w:World} {g:Mg} {h:Hp} {L:List Kl} (H:RR s Z wx w0 g w h L) (c t:Int):RR s Z wx w0 g w { h with calls:=c,thrown:=t } L:=by
 obtain ⟨vc,vo,vx,R,hl,z1,z2,K⟩:=H
 obtain ⟨n,D,F⟩:=R.fld
 exact ⟨vc,vo,vx,⟨R.ownr,R.ownh,R.ownm,R.bl,R.run,R.hp,R.out,R.obs,R.calls,n,D,F.own,F.few,F.hit,F.miss,F.new,F.ks,F.kd⟩,hl,z1,z2,K⟩
theorem RR.leave {s:Nat} {Z:Nat→Prop} {wx w0 w:World} {g:Mg} {h:Hp} {L:List Kl} (H:RR s Z wx w0 g w h L):RR s Z wx w0 g w h.leave L:=H.heap (h.calls-1) h.thrown
theorem RR.caught {s:Nat} {Z:Nat→Prop} {wx w0 w:World} {g:Mg} {h:Hp} {L:List Kl} (H:RR s Z wx w0 g w h L):RR s Z wx w0 g w { h with thrown:=-1 } L:=H.heap h.calls (-1)
theorem Fix.leave {w0:World} {g:Mg} {h:Hp} (F:Fix w0 g h):Fix w0 g h.leave:=⟨F.cls,F.mes,F.inp,F.may⟩
def lenC (r:Nat) (w:World):Nat:=match w.cell? ⟨r,3,none⟩ with
 | some (.slice _ n _)=>n
 | _=>0
theorem lenC_rr {s:Nat} {Z:Nat→Prop} {wx w0 w:World} {g:Mg} {h:Hp} {L:List Kl} (H:RR s Z wx w0 g w h L):lenC g.r w=L.length:=by
 unfold lenC
 cases L with
 | nil=>obtain ⟨A,cap,e⟩:=H.c3n;rw [e];rfl
 | cons k L=>obtain ⟨gb,cap,e⟩:=H.c3;rw [e];rfl
theorem call_field2 (a b c:Value) (w:World):(Instr.field 107 (.agg #[a,b,c]) 2).run Tryz.prog w=.ok c w:=by
 simp [Instr.field,go_sem,Tryz.underlying107,run_underlying Tryz.underlying107,asAgg]
def HandOk (c:Cal):Prop:=(∀q,q<c.m.hands.length→0≤(nth hd0 c.m.hands q).fr∧(nth hd0 c.m.hands q).til≤3000∧0≤(nth hd0 c.m.hands q).til∧0≤(nth hd0 c.m.hands q).pc)∧0≤c.pc∧c.pc≤3000
theorem vbox {s:Nat} {Z:Nat→Prop} {W w0 w':World} {g:Mg} {h:Hp} {L:List Kl} {n:Nat} {k m:Int} (H:RR s (Xp Z n W.heap.size) W w0 g w' h L) (hb:W.heap[n]?=some (.cells #[.int .i64 k,.int .i64 m] 115 (0,0))) :
  w'.cell? ⟨n,0,none⟩=some (.int .i64 k)∧w'.cell? ⟨n,1,none⟩=some (.int .i64 m):=by
 have:=H.own (w':=W) (Nat.le_refl _) hb
 exact ⟨c0_of this,c1_of this⟩
theorem s4 {s:Nat} {Z:Nat→Prop} {W w0 w':World} {g:Mg} {h:Hp} {L:List Kl} {n:Nat} {k m:Int} (H:RR s (Xp Z n W.heap.size) W w0 g w' h L) (hb:W.heap[n]?=some (.cells #[.int .i64 k,.int .i64 m] 115 (0,0))) :
  w'.cell? ⟨g.r,0,none⟩=some (.pointer (some ⟨g.hb,0,none⟩))∧w'.cell? ⟨n,0,none⟩=some (.int .i64 k)∧w'.cell? ⟨n,1,none⟩=some (.int .i64 m):=by
 have:=vbox H hb
 obtain ⟨vc,vo,vx,R,-,-,-,-⟩:=H
 exact ⟨by rw [cell_blk R.run];rfl,this.1,this.2⟩
def UnQ (s:Nat) (Z:Nat→Prop) (wx w0:World) (g:Mg) (o:Mo) (e:Ending) (w':World):Prop :=
 (o.fin=false→e=.returned (.tuple #[])∧∃L':List Kl,L'.map (·.c)=o.cs∧RR s Z wx w0 g w' o.h L')∧(o.fin=true→e=stopE o.how (im o.v).kind (im o.v).n∧∃L':List Kl,RR s Z wx w0 g w' o.h L')
def UnR (s:Nat) (Z:Nat→Prop) (W w0:World) (g:Mg) (h:Hp) (L:List Kl) (wr:World):Prop :=
 ∃(L':List Kl) (h':Hp),unwM h (L.map (·.c))=unwM h' (L'.map (·.c))∧RR s Z W w0 g wr h' L'∧Fix w0 g h'∧h'.objs=h.objs∧h'.thrown=h.thrown∧(∀k∈L',HandOk k.c)∧L'.length≤1000
theorem unwind_any (s:Nat) (Z:Nat→Prop) (wx w0:World) (g:Mg) (h:Hp) (L:List Kl) (v:Va) (w:World) (H:RR s Z wx w0 g w h L) (F:Fix w0 g h) (hf:h.objs.length≤100) (hv:v.kind=3) (h0:0≤v.n) (hn:v.n<h.objs.length) (ht:h.thrown=v.n) (hok:∀k∈L,HandOk k.c) (hlen:L.length≤1000) :
  Calls Tryz.prog 154 #[.pointer (some ⟨g.r,0,none⟩),mvV (im v)] w fun e w'=>UnQ s Z wx w0 g (unwM h (L.map (·.c))) e w':=by
 have HV:Hid (v.kind=3∧0≤v.n∧v.n<h.objs.length∧h.thrown=v.n):=⟨hv,h0,hn,ht⟩
 have HF0:=hid hf
 have HBL:Hid (Bl w (w.alloc (mvO (im v)))):=(Bl.refl w).alloc _
 have HBX:Hid ((w.alloc (mvO (im v))).heap[w.heap.size]?=some (.cells #[.int .i64 (im v).kind,.int .i64 (im v).n] 115 (0,0))):=blk_new _ _ _
 have HB0:=hid H
 have HS:Hid (UnR s (Xp Z w.heap.size (w.alloc (mvO (im v))).heap.size) (w.alloc (mvO (im v))) w0 g h L (w.alloc (mvO (im v)))):=⟨L,h,rfl,H.wide HBL.out,F,rfl,rfl,hok,hlen⟩
 have hcf:=call_field2
 clear H F hf hv h0 hn ht hok hlen
 go_enter Tryz.func154,Tryz.ntmps154
 go_wp2
 go_loopw [] (fun wr=>Hid (UnR s (Xp Z w.heap.size (w.alloc (mvO (im v))).heap.size) (w.alloc (mvO (im v))) w0 g h L wr)) (fun wr=>lenC g.r wr)
 case atStart=>exact HS.out
 case round =>
  clear HS
  obtain ⟨L',h',um,hr,hf',hob,hth,hok,hlen⟩:=hrel.out
  clear hrel
  have HUM:=hid um
  have HR:=hid hr
  have HF:Hid (Fix w0 g h'∧h'.objs.length≤100):=⟨hf',by rw [hob];exact HF0.out⟩
  have HOB:Hid (h'.objs=h.objs):=hob
  have HTH:=hid hth
  have HOK:=hid hok
  have HLEN:=hid hlen
  clear um hr hf' hob hth hok
  cases L' with
  | nil =>
   obtain ⟨A,cap,c3⟩:=HR.out.c3n
   clear hlen
   go_wp2
   refine wp_region_held_drew (S:=fun w'=>w'.cell? ⟨g.r,0,none⟩=some (.pointer (some ⟨g.hb,0,none⟩))∧w'.cell? ⟨w.heap.size,0,none⟩=some (.int .i64 (im v).kind)∧w'.cell? ⟨w.heap.size,1,none⟩=some (.int .i64 (im v).n)) (by kernel_rfl) ?_ (fun hHeld0=>?_)
   ·exact s4 (HR.out.bl (Bl.refl wr).drew) HBX.out
   refine tk (i:=0) (d:=some 17) rfl rfl (by kernel_rfl) (fun _ _ _ h=>h) (by rfl) (by intro _ h;(try dsimp only at h);go_split_ands;go_simp<;>with_reducible rfl) hHeld0 ?_
   try simp only [aS,aN,aT,a0,a1]
   refine tk (i:=1) (d:=some 18) rfl rfl (by kernel_rfl) (fun _ _ _ h=>h) (by rfl) (by intro _ h;(try dsimp only at h);go_split_ands;go_simp<;>with_reducible rfl) hHeld0 ?_
   try simp only [aS,aN,aT,a0,a1]
   refine tk (i:=2) (d:=some 19) rfl rfl (by kernel_rfl) (fun _ _ _ h=>h) (by rfl) (by intro _ h;(try dsimp only at h);go_split_ands;go_simp<;>with_reducible rfl) hHeld0 ?_
   try simp only [aS,aN,aT,a0,a1]
   refine tk (i:=3) (d:=some 20) rfl rfl (by kernel_rfl) (fun _ _ _ h=>h) (by rfl) (by intro _ h;(try dsimp only at h);go_split_ands;go_simp<;>with_reducible rfl) hHeld0 ?_
   try simp only [aS,aN,aT,a0,a1]
   refine tk (i:=4) (d:=some 21) rfl rfl (by kernel_rfl) (fun _ _ _ h=>h) (by rfl) (by intro _ h;(try dsimp only at h);go_split_ands;go_simp<;>with_reducible rfl) hHeld0 ?_
   try simp only [aS,aN,aT,a0,a1]
   refine rd1 (i:=5) (by kernel_rfl) rfl fun K hK=>?_
   go_simp
   go_at_call 207
   refine (mthrow_obj g.hb v HV.out.1 HV.out.2.1 _).mono ?_
   rintro e w2 ⟨rfl,b2⟩
   have HR2:=(HR.out.bl (Bl.refl wr).drew).bl b2
   have ho:unwM h (L.map (·.c))=endM 2 ⟨3,h'.thrown⟩ h':=HUM.out
   have hth:h'.thrown=v.n:=HTH.out.trans HV.out.2.2.2
   refine ⟨rfl,?_⟩
   rw [ho]
   refine ⟨(fun z=>by cases z),fun _=>⟨?_,[],HB0.out.back HBL.out HR2⟩⟩
   show thrE v.n=stopE 2 3 (if (3:Int)=3 then h'.thrown+1 else h'.thrown)
   rw [if_pos rfl,hth]
  | cons k L2 =>
   obtain ⟨gb,cap,c3⟩:=HR.out.c3
   have HOKK:=hid (HOK.out k List.mem_cons_self)
   have hn1:(0:Int)<((L2.length+1:Nat):Int):=by omega
   have hn2:((L2.length+1:Nat):Int)≤1000:=by simp at hlen;omega
   clear hlen
   by_cases hcl:h'.caughtL k.c.pc k.c.m.hands<0
   ·have HCL:=hid hcl
    clear hcl
    go_wp2
    refine wp_region_held_drew (S:=fun w'=>w'.cell? ⟨w.heap.size,0,none⟩=some (.int .i64 (im v).kind)∧w'.cell? ⟨w.heap.size,1,none⟩=some (.int .i64 (im v).n)) (by kernel_rfl) ?_ (fun hHeld0=>?_)
    ·exact vbox (HR.out.bl (Bl.refl wr).drew) HBX.out
    refine tk (i:=0) (d:=some 10) rfl rfl (by kernel_rfl) (fun _ _ _ h=>h) (by rfl) (by intro _ h;(try dsimp only at h);go_split_ands;go_simp<;>with_reducible rfl) hHeld0 ?_
    try simp only [aS,aN,aT,a0,a1]
    refine tk (i:=3) (d:=some 13) rfl rfl (by kernel_rfl) (fun _ _ _ h=>h) (by rfl) (by intro _ h;(try dsimp only at h);go_split_ands;go_simp<;>with_reducible rfl) hHeld0 ?_
    try simp only [aS,aN,aT,a0,a1]
    refine rd1 (i:=1) (by kernel_rfl) rfl fun K hK=>?_
    go_simp
    go_at_call 203
    refine (top_any s _ _ w0 g h' (qsL L2) k.a.qb _ (by rw [←qsL_cons];exact (HR.out.bl (Bl.refl wr).drew).hx)).mono ?_
    rintro e w1 ⟨rfl,b1⟩
    have HR1:=hid ((HR.out.bl (Bl.refl wr).drew).bl b1)
    have s1:=hid (vbox HR1.out HBX.out)
    clear b1
    simp only [funs,Mc.qb]
    go_wp2_with fail
    refine hK.out _ _ (s1.out) (fun hHeld1=>?_)
    try simp only [aS,aN,aT,a0,a1]
    refine tk (i:=2) (d:=some 12) rfl rfl (by kernel_rfl) (fun _ _ _ h=>h) (by rfl) (by intro _ h;(try dsimp only at h);go_split_ands;go_simp<;>with_reducible rfl) hHeld1 ?_
    try simp only [aS,aN,aT,a0,a1]
    refine rd1 (i:=4) (by kernel_rfl) rfl fun K hK=>?_
    go_simp
    go_at_call 68
    refine (catch_no s _ _ w0 g h' _ k.a k.c v _ HR1.out.top HF.out.1 HF.out.2 HV.out.1 HV.out.2.1 (by rw [HOB.out];exact HV.out.2.2.1) (HTH.out.trans HV.out.2.2.2) HOKK.out.1 HOKK.out.2 HCL.out).mono ?_
    rintro e w2 ⟨rfl,H2⟩
    obtain ⟨vs2,l2,HR2⟩:=HR1.out.of H2
    have s2:=hid (vbox HR2 HBX.out)
    replace HR2:=hid HR2
    clear H2
    go_wp2_with fail
    refine hK.out _ _ (s2.out) (fun hHeld2=>?_)
    try simp only [aS,aN,aT,a0,a1]
    refine wpAnyH_done (by kernel_rfl) ?_ _
    go_wp2_with (first
     | (go_at_call 202;refine (drop_any s _ _ w0 g h' (qsL L2) k.a.qb _ (by have:=(HR2.out.hxB (Bl.refl _));exact this)).mono ?_;rintro e w3 ⟨rfl,H3⟩;have HR3:=hid (HR2.out.drops (Bl.refl _) H3).1;clear H3))
    go_roundw
    case rel =>
     refine ⟨L2,h'.leave,?_,RR.leave HR3.out,HF.out.1.leave,HOB.out,HTH.out,fun k2 hk2=>HOK.out k2 (List.mem_cons_of_mem _ hk2),by have:=HLEN.out;simp at this;omega⟩
     rw [HUM.out]
     exact if_pos HCL.out
    case measure =>
     have e1:=lenC_rr HR.out
     have e2:=lenC_rr HR3.out
     simp only [List.length_cons] at e1
     omega
   ·have hcl':0≤h'.caughtL k.c.pc k.c.m.hands:=by omega
    have HCL:=hid hcl'
    clear hcl hcl'
    by_cases hrm:True
    ·have HRM:=hid hrm
     clear hrm
     go_wp2
     refine wp_region_held_drew (S:=fun w'=>w'.cell? ⟨w.heap.size,0,none⟩=some (.int .i64 (im v).kind)∧w'.cell? ⟨w.heap.size,1,none⟩=some (.int .i64 (im v).n)) (by kernel_rfl) ?_ (fun hHeld0=>?_)
     ·exact vbox (HR.out.bl (Bl.refl wr).drew) HBX.out
     refine tk (i:=0) (d:=some 10) rfl rfl (by kernel_rfl) (fun _ _ _ h=>h) (by rfl) (by intro _ h;(try dsimp only at h);go_split_ands;go_simp<;>with_reducible rfl) hHeld0 ?_
     try simp only [aS,aN,aT,a0,a1]
     refine tk (i:=3) (d:=some 13) rfl rfl (by kernel_rfl) (fun _ _ _ h=>h) (by rfl) (by intro _ h;(try dsimp only at h);go_split_ands;go_simp<;>with_reducible rfl) hHeld0 ?_
     try simp only [aS,aN,aT,a0,a1]
     refine rd1 (i:=1) (by kernel_rfl) rfl fun K hK=>?_
     go_simp
     go_at_call 203
     refine (top_any s _ _ w0 g h' (qsL L2) k.a.qb _ (by rw [←qsL_cons];exact (HR.out.bl (Bl.refl wr).drew).hx)).mono ?_
     rintro e w1 ⟨rfl,b1⟩
     have HR1:=hid ((HR.out.bl (Bl.refl wr).drew).bl b1)
     have s1:=hid (vbox HR1.out HBX.out)
     clear b1
     simp only [funs,Mc.qb]
     go_wp2_with fail
     refine hK.out _ _ (s1.out) (fun hHeld1=>?_)
     try simp only [aS,aN,aT,a0,a1]
     refine tk (i:=2) (d:=some 12) rfl rfl (by kernel_rfl) (fun _ _ _ h=>h) (by rfl) (by intro _ h;(try dsimp only at h);go_split_ands;go_simp<;>with_reducible rfl) hHeld1 ?_
     try simp only [aS,aN,aT,a0,a1]
     refine rd1 (i:=4) (by kernel_rfl) rfl fun K hK=>?_
     go_simp
     go_at_call 68
     refine (catch_yes s _ _ w0 g h' _ k.a k.c v _ HR1.out.top HF.out.1 HF.out.2 HV.out.1 HV.out.2.1 (by rw [HOB.out];exact HV.out.2.2.1) (HTH.out.trans HV.out.2.2.2) HOKK.out.1 HOKK.out.2 HCL.out).mono ?_
     rintro e w2 ⟨rfl,H2⟩
     obtain ⟨vs2,l2,HR2⟩:=HR1.out.of H2
     have s2:=hid (vbox HR2 HBX.out)
     replace HR2:=hid HR2
     clear H2
     go_wp2_with fail
     refine hK.out _ _ (s2.out) (fun hHeld2=>?_)
     try simp only [aS,aN,aT,a0,a1]
     refine wpAnyH_done (by kernel_rfl) ?_ _
     go_wp2
     go_end0
     have hv':v=⟨3,h'.thrown⟩:=by rw [HTH.out,HV.out.2.2.2];obtain ⟨vk,vn⟩:=v;simp at *;exact HV.out.1
     have ho:unwM h (L.map (·.c))=goM { h' with thrown:=-1 } ({ k.c with giv:=va0,cau:=v,pc:=h'.caughtL k.c.pc k.c.m.hands }::L2.map (·.c)):=by
      rw [HUM.out]
      show unwM h' (k.c::L2.map (·.c))=_
      unfold unwM
      rw [if_neg (by have:=HCL.out;omega),←hv']
     rw [ho]
     exact ⟨fun _=>⟨rfl,_::L2,rfl,RR.caught (HB0.out.back HBL.out HR2.out)⟩,fun z=>by cases z⟩
    ·exact absurd trivial hrm
end Go.Proofs.YtgiiapenmjollabGreat
