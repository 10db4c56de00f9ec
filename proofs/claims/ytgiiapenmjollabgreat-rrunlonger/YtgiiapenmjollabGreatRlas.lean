import Derived.Test.YtgiiapenmjollabGreatRlar
namespace Go.Proofs.YtgiiapenmjollabGreat
set_option linter.all false
set_option maxHeartbeats 40000000
set_option maxRecDepth 100000
open Go.RowKit
section
open Go.Maps (Keyed has)
theorem mget_miss (s:Nat) (X:Nat→Prop) (wx w0:World) (g:Mg) (h:Hp) (qs:List Qb) (a:Mc) (c:Cal) (o:Nat) (cc k:Nat) (u:Va) (n:Nat) (D:DataW Nat) (w:World) (H:RX s X wx w0 g w h qs a c) (F:Fix w0 g h) (hm:w.ownsMap Tryz.prog 303 mvElem g.mp n D) (ho:o<100) (hc:cc<h.file.classes.length) (hkf:k<(nth cl0 h.file.classes cc).fields.length)
  (h12:h.file.classes.length≤12) (h6:(nth cl0 h.file.classes cc).fields.length≤6) (hh:has D (keyM ((o:Int)+1) cc k)=false) :
  Calls Tryz.prog 266 #[.pointer (some ⟨g.hb,0,none⟩),mvV ⟨3,(o:Int)+1⟩,.int .i64 cc,.int .i64 k] w fun e w'=>e=.returned (mvV ⟨(nth ty0 (nth cl0 h.file.classes cc).fields k).kind,0⟩)∧RX s X wx w0 g w' h qs a c:=by
 have io:I64 ((o:Int)+1):=by unfold I64;omega
 have ic:I64 (cc:Int):=by unfold I64;omega
 have ik:I64 (k:Int):=by unfold I64;omega
 have hlk:∀w,w.ownsMap Tryz.prog 303 mvElem g.mp n D→(Instr.lookup 215 (.map (some g.mp)) (placeV ((o:Int)+1) cc k) true).run Tryz.prog w=.ok (.tuple #[mvV (⟨0,0⟩:Va),.bool false]) w:=fun w hw=>by
  have:=look_any hw io ic ik ⟨0,0⟩ (fun q=>by rw [hh] at q;exact absurd q (by decide))
  rw [hh] at this
  simpa using this
 have HPC:Hid (∀w,Calls Tryz.prog 263 #[.pointer (some ⟨g.hb,0,none⟩),mvV ⟨3,(o:Int)+1⟩,.int .i64 (cc:Int),.int .i64 (k:Int)] w fun e w'=>e=.returned (placeV ((o:Int)+1) cc k)∧Bl w w'):=fun w=>placeOf_obj g.hb ⟨3,o⟩ cc k rfl (by simp) w
 obtain ⟨vn,hvn⟩:∃vn:Int,(o:Int)+1=vn:=⟨_,rfl⟩
 rw [hvn] at hlk HPC ⊢
 obtain ⟨L0,L1⟩:=two_lie w #[.int .i64 3,.int .i64 vn] #[.int .i64 0,.int .i64 0] 115 115
 have HB:Hid (Bl w ((w.alloc (mvO ⟨3,vn⟩)).alloc mvZ)):=((Bl.refl w).alloc _).alloc _
 have HH:=hid H
 have HL1:=hid L1
 have z0:=hid (c0_of L0)
 have z1:=hid (c1_of L0)
 obtain ⟨mo,hmo,hlo⟩:∃mo,w.heap[g.mp]?=some mo∧∀w':World,w'.heap[g.mp]?=some mo→w'.ownsMap Tryz.prog 303 mvElem g.mp n D:=by
  obtain ⟨es,ck,h1,h2⟩:=hm
  exact ⟨_,h1,fun w' h'=>⟨es,ck,h',h2⟩⟩
 replace hlk:=fun (w:World) (hw:w.heap[g.mp]?=some mo)=>hlk w (hlo w hw)
 have zo:Hid (((w.alloc (mvO ⟨3,vn⟩)).alloc mvZ).heap[g.mp]?=some mo):=bl_blk HB.out hmo
 have hmpl:=lt_some hmo
 have hhbl:g.hb<w.heap.size:=by
  obtain ⟨vc,vo,vx,vs,l,H⟩:=H
  exact lt_some H.rh.hp
 have zm:Hid (((w.alloc (mvO ⟨3,vn⟩)).alloc mvZ).cell? ⟨g.hb,2,none⟩=some (.map (some g.mp))):=by
  obtain ⟨vc,vo,vx,vs,l,H⟩:=H
  exact Bl.cell HB.out H.rh.heapCells.2.2
 obtain ⟨fb,fo,FB,ff,uc,hA,y0,m1,m2,y1,y2⟩:=fld_cells F.cls hc hkf
 have HY0:=hid y0
 have HY1:=hid y1
 have HA:=hid hA
 have HBW:Hid (Bl w0 w):=by
  obtain ⟨vc,vo,vx,vs,l,H⟩:=H
  exact H.rh.bl
 have HC0:Hid (w.cell? ⟨g.hb,0,none⟩=some (.slice (some ⟨fb,fo,none⟩) h.file.classes.length g.a)):=by
  obtain ⟨vc,vo,vx,vs,l,H⟩:=H
  rw [←hA]
  exact H.rh.heapCells.1
 have hfb1:=cell_lt (Bl.cell HBW.out HY0.out)
 have hfb2:=cell_lt (Bl.cell HBW.out HY1.out)
 have hx1:g.hb≠w.heap.size+1+1:=by omega
 have hx2:fb≠w.heap.size+1+1:=by omega
 have hx3:FB≠w.heap.size+1+1:=by omega
 have hx4:w.heap.size+1+1≠g.hb:=by omega
 have hx5:w.heap.size+1+1≠fb:=by omega
 have hx6:w.heap.size+1+1≠FB:=by omega
 have HC0':=hid (Bl.cell HB.out HC0.out)
 have HY0':=hid (Bl.cell HB.out (Bl.cell HBW.out HY0.out))
 have HY1':=hid (Bl.cell HB.out (Bl.cell HBW.out HY1.out))
 have hc0:(0:Int)≤(cc:Int):=by omega
 have hc1:(cc:Int)<(h.file.classes.length:Int):=by omega
 have hk0:(0:Int)≤(k:Int):=by omega
 have hk1:(k:Int)<((nth cl0 h.file.classes cc).fields.length:Int):=by omega
 clear H hm hlo hmo L0 L1 hh io ic ik hvn y0 y1 y2 hA m1 m2 F
 go_enter Tryz.func266,Tryz.ntmps266
 go_wp2
 refine wp_region_held_drew (S:=fun w'=>w'.cell? ⟨g.hb,2,none⟩=some (.map (some g.mp))∧w'.cell? ⟨w.heap.size,0,none⟩=some (.int .i64 3)∧w'.cell? ⟨w.heap.size,1,none⟩=some (.int .i64 vn)∧w'.heap[g.mp]?=some mo) (by kernel_rfl) ?_ (fun hHeld0=>?_)
 ·exact ⟨zm.out,z0.out,z1.out,zo.out⟩
 refine tk (i:=0) (d:=some 12) rfl rfl (by kernel_rfl) (fun _ _ _ h=>h) (by rfl) (by intro _ h;(try dsimp only at h);go_split_ands;go_simp<;>with_reducible rfl) hHeld0 ?_
 try simp only [aS,aN,aT,a0,a1]
 refine tk (i:=1) (d:=some 13) rfl rfl (by kernel_rfl) (fun _ _ _ h=>h) (by rfl) (by intro _ h;(try dsimp only at h);go_split_ands;go_simp<;>with_reducible rfl) hHeld0 ?_
 try simp only [aS,aN,aT,a0,a1]
 refine tk (i:=2) (d:=some 14) rfl rfl (by kernel_rfl) (fun _ _ _ h=>h) (by rfl) (by intro _ h;(try dsimp only at h);go_split_ands;go_simp<;>with_reducible rfl) hHeld0 ?_
 try simp only [aS,aN,aT,a0,a1]
 refine tk (i:=3) (d:=some 15) rfl rfl (by kernel_rfl) (fun _ _ _ h=>h) (by rfl) (by intro _ h;(try dsimp only at h);go_split_ands;go_simp<;>with_reducible rfl) hHeld0 ?_
 try simp only [aS,aN,aT,a0,a1]
 refine tk (i:=4) (d:=some 16) rfl rfl (by kernel_rfl) (fun _ _ _ h=>h) (by rfl) (by intro _ h;(try dsimp only at h);go_split_ands;go_simp<;>with_reducible rfl) hHeld0 ?_
 try simp only [aS,aN,aT,a0,a1]
 refine tk (i:=5) (d:=some 17) rfl rfl (by kernel_rfl) (fun _ _ _ h=>h) (by rfl) (by intro _ h;(try dsimp only at h);go_split_ands;go_simp<;>with_reducible rfl) hHeld0 ?_
 try simp only [aS,aN,aT,a0,a1]
 refine tk (i:=6) (d:=some 18) rfl rfl (by kernel_rfl) (fun _ _ _ h=>h) (by rfl) (by intro _ h;(try dsimp only at h);go_split_ands;go_simp<;>with_reducible rfl) hHeld0 ?_
 try simp only [aS,aN,aT,a0,a1]
 refine tk (i:=7) (d:=some 19) rfl rfl (by kernel_rfl) (fun _ _ _ h=>h) (by rfl) (by intro _ h;(try dsimp only at h);go_split_ands;go_simp<;>with_reducible rfl) hHeld0 ?_
 try simp only [aS,aN,aT,a0,a1]
 refine wpAnyH_ready (rs:=[8,13]) (by kernel_rfl) (by simp) ?_
 refine AllReadyH.cons rfl (fun K hK=>?_) (AllReadyH.cons rfl (fun K hK=>?_) (AllReadyH.nil))
 ·go_simp
  go_at_call 263
  refine (HPC.out _).mono ?_
  rintro e w2 ⟨rfl,b2⟩
  have d0:=hid (b2.cell hHeld0.1)
  have d1:=hid (b2.cell hHeld0.2.1)
  have d2:=hid (b2.cell hHeld0.2.2.1)
  have d3:=hid (bl_blk b2 hHeld0.2.2.2)
  have r1:=bl_blk b2 (by first|exact HL1.out|exact heap_al HL1.out)
  have hlr:=lt_some r1
  have c4:=c0_of r1
  have c5:=c1_of r1
  have fz:=free_blk r1
  have e0:=b2.cell (by first|exact HC0'.out|exact Bl.cell ((Bl.refl _).alloc _) HC0'.out)
  have e1:=b2.cell (by first|exact HY0'.out|exact Bl.cell ((Bl.refl _).alloc _) HY0'.out)
  have e2:=b2.cell (by first|exact HY1'.out|exact Bl.cell ((Bl.refl _).alloc _) HY1'.out)
  have hg1:=cell_lt e0
  have hg2:=cell_lt e1
  have hg3:=cell_lt e2
  try (have q9:=bl_blk b2 (three_lie w #[.int .i64 3,.int .i64 vn] #[.int .i64 0,.int .i64 0] #[.int .i64 0,.int .i64 0] 115 115 115).2.2;have p0:=c0_of q9;have p1:=c1_of q9;have pz:=free_blk q9;clear q9)
  first
   | have H2:Hid (RXY s X (fun b=>b=w.heap.size+1∨b=w.heap.size+1+1) wx w0 g w2 h qs a c):=((HH.out.y.bl (HB.out.drew.alloc _)).bl b2).less (fun b hb=>by rcases hb with rfl|rfl;exact Xp.old (Xp.new (Nat.le_succ _) (lt_w3b w _ _ _));exact Xp.old (Xp.new (Nat.le_succ_of_le (Nat.le_succ _)) (lt_w3c w _ _ _)))
   | have H2:Hid (RXY s X (fun b=>b=w.heap.size+1) wx w0 g w2 h qs a c):=((HH.out.y.bl HB.out.drew).bl b2).less (fun b hb=>by subst hb;exact Xp.old (Xp.new (Nat.le_succ _) (lt_w2b w _ _)))
  replace r1:=hid r1
  replace b2:=hid b2
  go_wp2_with fail
  refine hK.out _ _ (⟨d0.out,d1.out,d2.out,d3.out⟩) (fun hHeld1=>?_)
  try simp only [aS,aN,aT,a0,a1]
  refine tk (i:=9) (d:=some 21) rfl rfl (by kernel_rfl) (fun _ _ _ h=>h) (by rfl) (by intro _ h;(try dsimp only at h);go_split_ands;go_simp<;>with_reducible rfl) hHeld1 ?_
  try simp only [aS,aN,aT,a0,a1]
  refine tk (i:=10) (d:=some 11) rfl rfl (by kernel_rfl) (fun _ _ _ h=>h) (by rfl) (by intro _ h;(try dsimp only at h);go_split_ands;go_simp<;>with_reducible rfl) hHeld1 ?_
  try simp only [aS,aN,aT,a0,a1]
  refine tk (i:=11) (d:=some 22) rfl rfl (by kernel_rfl) (fun _ _ _ h=>h) (by rfl) (by intro _ h;(try dsimp only at h);go_split_ands;go_simp<;>with_reducible rfl) hHeld1 ?_
  try simp only [aS,aN,aT,a0,a1]
  refine tk (i:=12) (d:=some 23) rfl rfl (by kernel_rfl) (fun _ _ _ h=>h) (by rfl) (by intro _ h;(try dsimp only at h);go_split_ands;go_simp<;>with_reducible rfl) hHeld1 ?_
  try simp only [aS,aN,aT,a0,a1]
  refine rd1 (i:=13) (by kernel_rfl) rfl fun K hK=>?_
  go_wp2_with fail
  refine hK.out _ _ (⟨Bl.cell ((Bl.refl _).alloc _) hHeld1.1,Bl.cell ((Bl.refl _).alloc _) hHeld1.2.1,Bl.cell ((Bl.refl _).alloc _) hHeld1.2.2.1,heap_al hHeld1.2.2.2⟩) (fun hHeld2=>?_)
  try simp only [aS,aN,aT,a0,a1]
  refine rd1 (i:=14) (by kernel_rfl) rfl fun K hK=>?_
  go_wp2_with fail
  refine hK.out _ _ (by first|exact ⟨Bl.cell ((Bl.refl _).alloc _) d0.out,Bl.cell ((Bl.refl _).alloc _) d1.out,Bl.cell ((Bl.refl _).alloc _) d2.out,heap_al d3.out⟩|exact ⟨set2_cell d0.out (by omega),set2_cell d1.out (by omega),set2_cell d2.out (by omega),set2_heap d3.out (by omega)⟩) (fun hHeld3=>?_)
  try simp only [aS,aN,aT,a0,a1]
  refine tk (i:=15) (d:=some 10) rfl rfl (by kernel_rfl) (fun _ _ _ h=>h) (by rfl) (by intro _ h;(try dsimp only at h);go_split_ands;go_simp<;>with_reducible rfl) hHeld3 ?_
  try simp only [aS,aN,aT,a0,a1]
  refine wpAnyH_done (by kernel_rfl) ?_ _
  go_wp2
  first
   | refine bodyPost_ret (results_cell_row rfl _ _ (w.heap.size+1) _ _ _ _ rfl (heap_al (set_two r1.out)) Tryz.underlying115 rfl info_mv) rfl ?_
   | refine bodyPost_ret (results_cell_row rfl _ _ (w.heap.size+1) _ _ _ _ rfl (set_two (set_two_far r1.out (Nat.ne_of_lt (Nat.lt_succ_self _)) _ _)) Tryz.underlying115 rfl info_mv) rfl ?_
  refine ⟨rfl,?_⟩
  first
   | (have hX:=RXY.set (b:=w.heap.size+1) (RXY.set (b:=w.heap.size+1) H2.out rfl 0 (.int .i64 (nth ty0 (nth cl0 h.file.classes cc).fields k).kind)) rfl 1 (.int .i64 0);exact hX.x.bl ((Bl.refl _).alloc _))
   | (have hX:=RXY.set (b:=w.heap.size+1) (RXY.set (b:=w.heap.size+1) (RXY.set (b:=w.heap.size+1+1) (RXY.set (b:=w.heap.size+1+1) H2.out (Or.inr rfl) 0 (.int .i64 0)) (Or.inr rfl) 1 (.int .i64 0)) (Or.inl rfl) 0 (.int .i64 (nth ty0 (nth cl0 h.file.classes cc).fields k).kind)) (Or.inl rfl) 1 (.int .i64 0);exact hX.x)
 ·go_wp2_with fail
  refine hK.out _ _ (⟨Bl.cell ((Bl.refl _).alloc _) hHeld0.1,Bl.cell ((Bl.refl _).alloc _) hHeld0.2.1,Bl.cell ((Bl.refl _).alloc _) hHeld0.2.2.1,heap_al hHeld0.2.2.2⟩) (fun hHeld4=>?_)
  try simp only [aS,aN,aT,a0,a1]
  refine rd1 (i:=8) (by kernel_rfl) rfl fun K hK=>?_
  go_simp
  go_at_call 263
  refine (HPC.out _).mono ?_
  rintro e w2 ⟨rfl,b2⟩
  have d0:=hid (b2.cell hHeld4.1)
  have d1:=hid (b2.cell hHeld4.2.1)
  have d2:=hid (b2.cell hHeld4.2.2.1)
  have d3:=hid (bl_blk b2 hHeld4.2.2.2)
  have r1:=bl_blk b2 (by first|exact HL1.out|exact heap_al HL1.out)
  have hlr:=lt_some r1
  have c4:=c0_of r1
  have c5:=c1_of r1
  have fz:=free_blk r1
  have e0:=b2.cell (by first|exact HC0'.out|exact Bl.cell ((Bl.refl _).alloc _) HC0'.out)
  have e1:=b2.cell (by first|exact HY0'.out|exact Bl.cell ((Bl.refl _).alloc _) HY0'.out)
  have e2:=b2.cell (by first|exact HY1'.out|exact Bl.cell ((Bl.refl _).alloc _) HY1'.out)
  have hg1:=cell_lt e0
  have hg2:=cell_lt e1
  have hg3:=cell_lt e2
  try (have q9:=bl_blk b2 (three_lie w #[.int .i64 3,.int .i64 vn] #[.int .i64 0,.int .i64 0] #[.int .i64 0,.int .i64 0] 115 115 115).2.2;have p0:=c0_of q9;have p1:=c1_of q9;have pz:=free_blk q9;clear q9)
  first
   | have H2:Hid (RXY s X (fun b=>b=w.heap.size+1∨b=w.heap.size+1+1) wx w0 g w2 h qs a c):=((HH.out.y.bl (HB.out.drew.alloc _)).bl b2).less (fun b hb=>by rcases hb with rfl|rfl;exact Xp.old (Xp.new (Nat.le_succ _) (lt_w3b w _ _ _));exact Xp.old (Xp.new (Nat.le_succ_of_le (Nat.le_succ _)) (lt_w3c w _ _ _)))
   | have H2:Hid (RXY s X (fun b=>b=w.heap.size+1) wx w0 g w2 h qs a c):=((HH.out.y.bl HB.out.drew).bl b2).less (fun b hb=>by subst hb;exact Xp.old (Xp.new (Nat.le_succ _) (lt_w2b w _ _)))
  replace r1:=hid r1
  replace b2:=hid b2
  go_wp2_with fail
  refine hK.out _ _ (⟨d0.out,d1.out,d2.out,d3.out⟩) (fun hHeld5=>?_)
  try simp only [aS,aN,aT,a0,a1]
  refine tk (i:=9) (d:=some 21) rfl rfl (by kernel_rfl) (fun _ _ _ h=>h) (by rfl) (by intro _ h;(try dsimp only at h);go_split_ands;go_simp<;>with_reducible rfl) hHeld5 ?_
  try simp only [aS,aN,aT,a0,a1]
  refine tk (i:=10) (d:=some 11) rfl rfl (by kernel_rfl) (fun _ _ _ h=>h) (by rfl) (by intro _ h;(try dsimp only at h);go_split_ands;go_simp<;>with_reducible rfl) hHeld5 ?_
  try simp only [aS,aN,aT,a0,a1]
  refine tk (i:=11) (d:=some 22) rfl rfl (by kernel_rfl) (fun _ _ _ h=>h) (by rfl) (by intro _ h;(try dsimp only at h);go_split_ands;go_simp<;>with_reducible rfl) hHeld5 ?_
  try simp only [aS,aN,aT,a0,a1]
  refine tk (i:=12) (d:=some 23) rfl rfl (by kernel_rfl) (fun _ _ _ h=>h) (by rfl) (by intro _ h;(try dsimp only at h);go_split_ands;go_simp<;>with_reducible rfl) hHeld5 ?_
  try simp only [aS,aN,aT,a0,a1]
  refine rd1 (i:=14) (by kernel_rfl) rfl fun K hK=>?_
  go_wp2_with fail
  refine hK.out _ _ (by first|exact ⟨Bl.cell ((Bl.refl _).alloc _) d0.out,Bl.cell ((Bl.refl _).alloc _) d1.out,Bl.cell ((Bl.refl _).alloc _) d2.out,heap_al d3.out⟩|exact ⟨set2_cell d0.out (by omega),set2_cell d1.out (by omega),set2_cell d2.out (by omega),set2_heap d3.out (by omega)⟩) (fun hHeld6=>?_)
  try simp only [aS,aN,aT,a0,a1]
  refine tk (i:=15) (d:=some 10) rfl rfl (by kernel_rfl) (fun _ _ _ h=>h) (by rfl) (by intro _ h;(try dsimp only at h);go_split_ands;go_simp<;>with_reducible rfl) hHeld6 ?_
  try simp only [aS,aN,aT,a0,a1]
  refine wpAnyH_done (by kernel_rfl) ?_ _
  go_wp2
  first
   | refine bodyPost_ret (results_cell_row rfl _ _ (w.heap.size+1) _ _ _ _ rfl (heap_al (set_two r1.out)) Tryz.underlying115 rfl info_mv) rfl ?_
   | refine bodyPost_ret (results_cell_row rfl _ _ (w.heap.size+1) _ _ _ _ rfl (set_two (set_two_far r1.out (Nat.ne_of_lt (Nat.lt_succ_self _)) _ _)) Tryz.underlying115 rfl info_mv) rfl ?_
  refine ⟨rfl,?_⟩
  first
   | (have hX:=RXY.set (b:=w.heap.size+1) (RXY.set (b:=w.heap.size+1) H2.out rfl 0 (.int .i64 (nth ty0 (nth cl0 h.file.classes cc).fields k).kind)) rfl 1 (.int .i64 0);exact hX.x.bl ((Bl.refl _).alloc _))
   | (have hX:=RXY.set (b:=w.heap.size+1) (RXY.set (b:=w.heap.size+1) (RXY.set (b:=w.heap.size+1+1) (RXY.set (b:=w.heap.size+1+1) H2.out (Or.inr rfl) 0 (.int .i64 0)) (Or.inr rfl) 1 (.int .i64 0)) (Or.inl rfl) 0 (.int .i64 (nth ty0 (nth cl0 h.file.classes cc).fields k).kind)) (Or.inl rfl) 1 (.int .i64 0);exact hX.x)
end
end Go.Proofs.YtgiiapenmjollabGreat
