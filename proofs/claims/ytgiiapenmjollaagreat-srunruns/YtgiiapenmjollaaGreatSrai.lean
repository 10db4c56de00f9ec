import Derived.Test.YtgiiapenmjollaaGreatSrah
namespace Go.Proofs.YtgiiapenmjollaaGreat
set_option linter.all false
set_option maxHeartbeats 40000000
set_option maxRecDepth 100000
open Go.RowKit
open Go.Value (int)
open Go.IntKind (i64)
section
open Go.Maps (Keyed has)
theorem BQ (s:Nat) (X:Nat->Prop) (wx w0:World) (g:Mg) (h:Hp) (qs:List Nat) (a:Mc) (c:aH) (o cc k:Nat) (u:Va) (n:Nat) (D:DataW Nat) (w:World) (H:RX s X wx w0 g w h qs a c) (F:Fix w0 g h) (hm:w.ownsMap Tryz.prog 265 fk g.mp n D) (ho:o<100) (hc:cc<h.file.classes.length) (sx:k<(nth cg h.file.classes cc).fields.length) (pQ:h.file.classes.length<=12) (h6:(nth cg h.file.classes cc).fields.length<=6) (hh:has D (ju ((o:Int)+1) cc k)=false) :
  Calls Tryz.prog 196 #[.pointer (some ⟨g.hb,0,none⟩),cn ⟨3,(o:Int)+1⟩,int i64 cc,int i64 k] w fun e w'=>e=.returned (cn ⟨(nth cN (nth cg h.file.classes cc).fields k).kind,0⟩)/\RX s X wx w0 g w' h qs a c:=by
 have io:cP ((o:Int)+1):=by unfold cP;omega
 have ic:cP (cc:Int):=by unfold cP;omega
 have ik:cP (k:Int):=by unfold cP;omega
 have Mi:∀w,w.ownsMap Tryz.prog 265 fk g.mp n D->(Instr.lookup 169 (.map (some g.mp)) (jf ((o:Int)+1) cc k) true).run Tryz.prog w=.ok (.tuple #[cn (⟨0,0⟩:Va),.bool false]) w:=fun w hw=>by
  have:=wI hw io ic ik ⟨0,0⟩ (fun q=>by rw [hh] at q;exact absurd q (by decide))
  rw [hh] at this
  simpa using this
 have mM:Hid (∀w,Calls Tryz.prog 229 #[.pointer (some ⟨g.hb,0,none⟩),cn ⟨3,(o:Int)+1⟩,int i64 (cc:Int),int i64 (k:Int)] w fun e w'=>e=.returned (jf ((o:Int)+1) cc k)/\Bl w w'):=fun w=>lD g.hb ⟨3,o⟩ cc k rfl (by simp) w
 obtain ⟨vn,KY⟩:∃vn:Int,(o:Int)+1=vn:=⟨_,rfl⟩
 rw [KY] at Mi mM ⊢
 obtain ⟨L0,L1⟩:=bD w #[int i64 3,int i64 vn] #[int i64 0,int i64 0] 100 100
 have HB:Hid (Bl w ((w.alloc (dL ⟨3,vn⟩)).alloc eT)):=((Bl.refl w).alloc _).alloc _
 have HH:=ab H
 have gx:=ab L1
 have z0:=ab (aK L0)
 have z1:=ab (aI L0)
 obtain ⟨mo,Iu,hlo⟩:∃mo,w.heap[g.mp]?=some mo/\∀w':World,w'.heap[g.mp]?=some mo->w'.ownsMap Tryz.prog 265 fk g.mp n D:=by
  obtain ⟨es,ck,h1,h2⟩:=hm
  exact ⟨_,h1,fun w' h'=>⟨es,ck,h',h2⟩⟩
 replace Mi:=fun (w:World) (hw:w.heap[g.mp]?=some mo)=>Mi w (hlo w hw)
 have zo:Hid (((w.alloc (dL ⟨3,vn⟩)).alloc eT).heap[g.mp]?=some mo):=ai HB.out Iu
 have Rj:=af Iu
 have Rk:g.hb<w.heap.size:=by
  obtain ⟨vc,vo,vx,vs,l,H⟩:=H
  exact af H.rh.hp
 have zm:Hid (((w.alloc (dL ⟨3,vn⟩)).alloc eT).cell? ⟨g.hb,2,none⟩=some (.map (some g.mp))):=by
  obtain ⟨vc,vo,vx,vs,l,H⟩:=H
  exact Bl.cell HB.out H.rh.heapCells.2.2
 obtain ⟨fb,fo,FB,ff,uc,hA,y0,m1,m2,y1,y2⟩:=iu F.cls hc sx
 have vC:=ab y0
 have rM:=ab y1
 have HA:=ab hA
 have lE:Hid (Bl w0 w):=by
  obtain ⟨vc,vo,vx,vs,l,H⟩:=H
  exact H.rh.bl
 have Rl:Hid (w.cell? ⟨g.hb,0,none⟩=some (.slice (some ⟨fb,fo,none⟩) h.file.classes.length g.a)):=by
  obtain ⟨vc,vo,vx,vs,l,H⟩:=H
  rw [<-hA]
  exact H.rh.heapCells.1
 have Rm:=bC (Bl.cell lE.out vC.out)
 have Rn:=bC (Bl.cell lE.out rM.out)
 have Bw:g.hb≠w.heap.size+1+1:=by omega
 have G5:fb≠w.heap.size+1+1:=by omega
 have IW:FB≠w.heap.size+1+1:=by omega
 have OA:w.heap.size+1+1≠g.hb:=by omega
 have Vy:w.heap.size+1+1≠fb:=by omega
 have Vz:w.heap.size+1+1≠FB:=by omega
 have tD:=ab (Bl.cell HB.out Rl.out)
 have tE:=ab (Bl.cell HB.out (Bl.cell lE.out vC.out))
 have tF:=ab (Bl.cell HB.out (Bl.cell lE.out rM.out))
 have hc0:(0:Int)<=(cc:Int):=by omega
 have Ey:(cc:Int)<(h.file.classes.length:Int):=by omega
 have zB:(0:Int)<=(k:Int):=by omega
 have Mj:(k:Int)<((nth cg h.file.classes cc).fields.length:Int):=by omega
 clear H hm hlo Iu L0 L1 hh io ic ik KY y0 y1 y2 hA m1 m2 F
 go_enter Tryz.func196,Tryz.ntmps196
 go_wp2
 refine wp_region_held_drew (S:=fun w'=>w'.cell? ⟨g.hb,2,none⟩=some (.map (some g.mp))/\w'.cell? ⟨w.heap.size,0,none⟩=some (int i64 3)/\w'.cell? ⟨w.heap.size,1,none⟩=some (int i64 vn)/\w'.heap[g.mp]?=some mo) (by kernel_rfl) ?_ (fun ae=>?_)
 ·exact ⟨zm.out,z0.out,z1.out,zo.out⟩
 iterate 8 (refine tn rfl (by kernel_rfl) (fun _ _ _ h=>h) (by intro _ h;go_split_ands;go_simp<;>with_reducible rfl) ae ?_;try simp only [aS,aN,aT,a0,a1])
 refine wpAnyH_ready (rs:=[8,13]) (by kernel_rfl) (by simp) ?_
 refine AllReadyH.cons rfl (fun K hK=>?_) (AllReadyH.cons rfl (fun K hK=>?_) (AllReadyH.nil))
 ·go_simp
  go_at_call 229
  refine (mM.out _).mono ?_
  rintro e w2 ⟨rfl,b2⟩
  have d0:=ab (b2.cell ae.1)
  have d1:=ab (b2.cell ae.2.1)
  have d2:=ab (b2.cell ae.2.2.1)
  have d3:=ab (ai b2 ae.2.2.2)
  have r1:=ai b2 (by first|exact gx.out|exact eA gx.out)
  have NI:=af r1
  have c4:=aK r1
  have c5:=aI r1
  have fz:=ay r1
  have e0:=b2.cell (by first|exact tD.out|exact Bl.cell ((Bl.refl _).alloc _) tD.out)
  have e1:=b2.cell (by first|exact tE.out|exact Bl.cell ((Bl.refl _).alloc _) tE.out)
  have e2:=b2.cell (by first|exact tF.out|exact Bl.cell ((Bl.refl _).alloc _) tF.out)
  have iL:=bC e0
  have gE:=bC e1
  have vq:=bC e2
  try (have q9:=ai b2 (dE w #[int i64 3,int i64 vn] #[int i64 0,int i64 0] #[int i64 0,int i64 0] 100 100 100).2.2;have p0:=aK q9;have p1:=aI q9;have pz:=ay q9;clear q9)
  first
   | have H2:Hid (cK s X (fun b=>b=w.heap.size+1∨b=w.heap.size+1+1) wx w0 g w2 h qs a c):=((HH.out.y.bl (HB.out.drew.alloc _)).bl b2).less (fun b hb=>by rcases hb with rfl|rfl;exact Xp.old (Xp.new (Nat.le_succ _) (tB w _ _ _));exact Xp.old (Xp.new (Nat.le_succ_of_le (Nat.le_succ _)) (tC w _ _ _)))
   | have H2:Hid (cK s X (fun b=>b=w.heap.size+1) wx w0 g w2 h qs a c):=((HH.out.y.bl HB.out.drew).bl b2).less (fun b hb=>by subst hb;exact Xp.old (Xp.new (Nat.le_succ _) (cA w _ _)))
  replace r1:=ab r1
  replace b2:=ab b2
  go_wp2_with fail
  refine hK.out _ _ (⟨d0.out,d1.out,d2.out,d3.out⟩) (fun ah=>?_)
  try simp only [aS,aN,aT,a0,a1]
  iterate 4 (refine tn rfl (by kernel_rfl) (fun _ _ _ h=>h) (by intro _ h;go_split_ands;go_simp<;>with_reducible rfl) ah ?_;try simp only [aS,aN,aT,a0,a1])
  refine bI (i:=13) (by kernel_rfl) rfl fun K hK=>?_
  go_wp2_with fail
  refine hK.out _ _ (⟨Bl.cell ((Bl.refl _).alloc _) ah.1,Bl.cell ((Bl.refl _).alloc _) ah.2.1,Bl.cell ((Bl.refl _).alloc _) ah.2.2.1,eA ah.2.2.2⟩) (fun aX=>?_)
  try simp only [aS,aN,aT,a0,a1]
  refine bI (i:=14) (by kernel_rfl) rfl fun K hK=>?_
  go_wp2_with fail
  refine hK.out _ _ (by first|exact ⟨Bl.cell ((Bl.refl _).alloc _) d0.out,Bl.cell ((Bl.refl _).alloc _) d1.out,Bl.cell ((Bl.refl _).alloc _) d2.out,eA d3.out⟩|exact ⟨dS d0.out (by omega),dS d1.out (by omega),dS d2.out (by omega),l8 d3.out (by omega)⟩) (fun dh=>?_)
  try simp only [aS,aN,aT,a0,a1]
  refine tn rfl (by kernel_rfl) (fun _ _ _ h=>h) (by intro _ h;go_split_ands;go_simp<;>with_reducible rfl) dh ?_
  try simp only [aS,aN,aT,a0,a1]
  refine wpAnyH_done (by kernel_rfl) ?_ _
  go_wp2
  first
   | refine bodyPost_ret (results_cell_row rfl _ _ (w.heap.size+1) _ _ _ _ rfl (eA (bQ r1.out)) Tryz.underlying100 rfl bK) rfl ?_
   | refine bodyPost_ret (results_cell_row rfl _ _ (w.heap.size+1) _ _ _ _ rfl (bQ (dC r1.out (Nat.ne_of_lt (Nat.lt_succ_self _)) _ _)) Tryz.underlying100 rfl bK) rfl ?_
  refine ⟨rfl,?_⟩
  first
   | (have hX:=cK.set (b:=w.heap.size+1) (cK.set (b:=w.heap.size+1) H2.out rfl 0 (int i64 (nth cN (nth cg h.file.classes cc).fields k).kind)) rfl 1 (int i64 0);exact hX.x.bl ((Bl.refl _).alloc _))
   | (have hX:=cK.set (b:=w.heap.size+1) (cK.set (b:=w.heap.size+1) (cK.set (b:=w.heap.size+1+1) (cK.set (b:=w.heap.size+1+1) H2.out (Or.inr rfl) 0 (int i64 0)) (Or.inr rfl) 1 (int i64 0)) (Or.inl rfl) 0 (int i64 (nth cN (nth cg h.file.classes cc).fields k).kind)) (Or.inl rfl) 1 (int i64 0);exact hX.x)
 ·go_wp2_with fail
  refine hK.out _ _ (⟨Bl.cell ((Bl.refl _).alloc _) ae.1,Bl.cell ((Bl.refl _).alloc _) ae.2.1,Bl.cell ((Bl.refl _).alloc _) ae.2.2.1,eA ae.2.2.2⟩) (fun dm=>?_)
  try simp only [aS,aN,aT,a0,a1]
  refine bI (i:=8) (by kernel_rfl) rfl fun K hK=>?_
  go_simp
  go_at_call 229
  refine (mM.out _).mono ?_
  rintro e w2 ⟨rfl,b2⟩
  have d0:=ab (b2.cell dm.1)
  have d1:=ab (b2.cell dm.2.1)
  have d2:=ab (b2.cell dm.2.2.1)
  have d3:=ab (ai b2 dm.2.2.2)
  have r1:=ai b2 (by first|exact gx.out|exact eA gx.out)
  have NI:=af r1
  have c4:=aK r1
  have c5:=aI r1
  have fz:=ay r1
  have e0:=b2.cell (by first|exact tD.out|exact Bl.cell ((Bl.refl _).alloc _) tD.out)
  have e1:=b2.cell (by first|exact tE.out|exact Bl.cell ((Bl.refl _).alloc _) tE.out)
  have e2:=b2.cell (by first|exact tF.out|exact Bl.cell ((Bl.refl _).alloc _) tF.out)
  have iL:=bC e0
  have gE:=bC e1
  have vq:=bC e2
  try (have q9:=ai b2 (dE w #[int i64 3,int i64 vn] #[int i64 0,int i64 0] #[int i64 0,int i64 0] 100 100 100).2.2;have p0:=aK q9;have p1:=aI q9;have pz:=ay q9;clear q9)
  first
   | have H2:Hid (cK s X (fun b=>b=w.heap.size+1∨b=w.heap.size+1+1) wx w0 g w2 h qs a c):=((HH.out.y.bl (HB.out.drew.alloc _)).bl b2).less (fun b hb=>by rcases hb with rfl|rfl;exact Xp.old (Xp.new (Nat.le_succ _) (tB w _ _ _));exact Xp.old (Xp.new (Nat.le_succ_of_le (Nat.le_succ _)) (tC w _ _ _)))
   | have H2:Hid (cK s X (fun b=>b=w.heap.size+1) wx w0 g w2 h qs a c):=((HH.out.y.bl HB.out.drew).bl b2).less (fun b hb=>by subst hb;exact Xp.old (Xp.new (Nat.le_succ _) (cA w _ _)))
  replace r1:=ab r1
  replace b2:=ab b2
  go_wp2_with fail
  refine hK.out _ _ (⟨d0.out,d1.out,d2.out,d3.out⟩) (fun eL=>?_)
  try simp only [aS,aN,aT,a0,a1]
  iterate 4 (refine tn rfl (by kernel_rfl) (fun _ _ _ h=>h) (by intro _ h;go_split_ands;go_simp<;>with_reducible rfl) eL ?_;try simp only [aS,aN,aT,a0,a1])
  refine bI (i:=14) (by kernel_rfl) rfl fun K hK=>?_
  go_wp2_with fail
  refine hK.out _ _ (by first|exact ⟨Bl.cell ((Bl.refl _).alloc _) d0.out,Bl.cell ((Bl.refl _).alloc _) d1.out,Bl.cell ((Bl.refl _).alloc _) d2.out,eA d3.out⟩|exact ⟨dS d0.out (by omega),dS d1.out (by omega),dS d2.out (by omega),l8 d3.out (by omega)⟩) (fun fp=>?_)
  try simp only [aS,aN,aT,a0,a1]
  refine tn rfl (by kernel_rfl) (fun _ _ _ h=>h) (by intro _ h;go_split_ands;go_simp<;>with_reducible rfl) fp ?_
  try simp only [aS,aN,aT,a0,a1]
  refine wpAnyH_done (by kernel_rfl) ?_ _
  go_wp2
  first
   | refine bodyPost_ret (results_cell_row rfl _ _ (w.heap.size+1) _ _ _ _ rfl (eA (bQ r1.out)) Tryz.underlying100 rfl bK) rfl ?_
   | refine bodyPost_ret (results_cell_row rfl _ _ (w.heap.size+1) _ _ _ _ rfl (bQ (dC r1.out (Nat.ne_of_lt (Nat.lt_succ_self _)) _ _)) Tryz.underlying100 rfl bK) rfl ?_
  refine ⟨rfl,?_⟩
  first
   | (have hX:=cK.set (b:=w.heap.size+1) (cK.set (b:=w.heap.size+1) H2.out rfl 0 (int i64 (nth cN (nth cg h.file.classes cc).fields k).kind)) rfl 1 (int i64 0);exact hX.x.bl ((Bl.refl _).alloc _))
   | (have hX:=cK.set (b:=w.heap.size+1) (cK.set (b:=w.heap.size+1) (cK.set (b:=w.heap.size+1+1) (cK.set (b:=w.heap.size+1+1) H2.out (Or.inr rfl) 0 (int i64 0)) (Or.inr rfl) 1 (int i64 0)) (Or.inl rfl) 0 (int i64 (nth cN (nth cg h.file.classes cc).fields k).kind)) (Or.inl rfl) 1 (int i64 0);exact hX.x)
end
end Go.Proofs.YtgiiapenmjollaaGreat
