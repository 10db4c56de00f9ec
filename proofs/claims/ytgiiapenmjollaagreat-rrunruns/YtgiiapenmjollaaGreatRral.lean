import Derived.Test.YtgiiapenmjollaaGreatRrak
namespace Go.Proofs.YtgiiapenmjollaaGreat
set_option linter.all false
set_option maxHeartbeats 40000000
set_option maxRecDepth 100000
open Go.RowKit
open Tryz
section
open Go.Maps (Keyed has)
theorem DG (s:Nat) (X:Nat->Prop) (wx w0:World) (g:Mg) (h:Hp) (qs:List Qb) (a:Mc) (c:aL) (o cc k:Nat) (u:Va) (n:Nat) (D:DataW Nat) (w:World) (H:RX s X wx w0 g w h qs a c) (F:Fix w0 g h) (hm:w.ownsMap Tryz.prog 265 fg g.mp n D) (ho:o<100) (hc:cc<h.file.classes.length) (ny:k<(nth bL h.file.classes cc).fields.length) (jU:h.file.classes.length<=12) (h6:(nth bL h.file.classes cc).fields.length<=6) (hh:has D (jY ((o:Int)+1) cc k)=false) :
  χ 196 #[π g.hb 0,cm ⟨3,(o:Int)+1⟩,ι cc,ι k] w fun e w'=>e=.returned (cm ⟨(nth bS (nth bL h.file.classes cc).fields k).kind,0⟩)/\RX s X wx w0 g w' h qs a c:=by
 have io:cJ ((o:Int)+1):=by unfold cJ;omega
 have ic:cJ (cc:Int):=by unfold cJ;omega
 have ik:cJ (k:Int):=by unfold cJ;omega
 have Ow:∀w,w.ownsMap Tryz.prog 265 fg g.mp n D->(Instr.lookup 169 (.map (some g.mp)) (jc ((o:Int)+1) cc k) true).run Tryz.prog w=.ok (.tuple #[cm (⟨0,0⟩:Va),.bool false]) w:=fun w hw=>by
  have:=x8 hw io ic ik ⟨0,0⟩ (fun q=>by rw [hh] at q;exact absurd q (by decide))
  rw [hh] at this
  simpa using this
 have sX:Θ (∀w,χ 229 #[π g.hb 0,cm ⟨3,(o:Int)+1⟩,ι (cc:Int),ι (k:Int)] w fun e w'=>e=.returned (jc ((o:Int)+1) cc k)/\Bl w w'):=fun w=>lO g.hb ⟨3,o⟩ cc k rfl (by simp) w
 obtain ⟨vn,M7⟩:∃vn:Int,(o:Int)+1=vn:=⟨_,rfl⟩
 rw [M7] at Ow sX ⊢
 obtain ⟨L0,L1⟩:=bc w #[ι 3,ι vn] #[ι 0,ι 0] 100 100
 have HB:Θ (Bl w ((w.alloc (eS ⟨3,vn⟩)).alloc fa)):=((Bl.refl w).alloc _).alloc _
 have HH:=ae H
 have ey:=ae L1
 have z0:=ae (aO L0)
 have z1:=ae (aJ L0)
 obtain ⟨mo,K9,hlo⟩:∃mo,w.heap[g.mp]?=some mo/\∀w':World,w'.heap[g.mp]?=some mo->w'.ownsMap Tryz.prog 265 fg g.mp n D:=by
  obtain ⟨es,ck,h1,h2⟩:=hm
  exact ⟨_,h1,fun w' h'=>⟨es,ck,h',h2⟩⟩
 replace Ow:=fun (w:World) (hw:w.heap[g.mp]?=some mo)=>Ow w (hlo w hw)
 have zo:Θ (((w.alloc (eS ⟨3,vn⟩)).alloc fa).heap[g.mp]?=some mo):=ax HB.o K9
 have Ui:=af K9
 have Uj:g.hb<w.heap.size:=by
  obtain ⟨vc,vo,vx,vs,l,H⟩:=H
  exact af H.rh.hp
 have zm:Θ (((w.alloc (eS ⟨3,vn⟩)).alloc fa).cell? ⟨g.hb,2,none⟩=some (.map (some g.mp))):=by
  obtain ⟨vc,vo,vx,vs,l,H⟩:=H
  exact Bl.cell HB.o H.rh.heapCells.2.2
 obtain ⟨fb,fo,FB,ff,uc,hA,y0,m1,m2,y1,y2⟩:=iZ F.cls hc ny
 have jy:=ae y0
 have KF:=ae y1
 have HA:=ae hA
 have kW:Θ (Bl w0 w):=by
  obtain ⟨vc,vo,vx,vs,l,H⟩:=H
  exact H.rh.bl
 have rN:Θ (w.cell? ⟨g.hb,0,none⟩=some (.slice (some ⟨fb,fo,none⟩) h.file.classes.length g.a)):=by
  obtain ⟨vc,vo,vx,vs,l,H⟩:=H
  rw [<-hA]
  exact H.rh.heapCells.1
 have Uk:=br (Bl.cell kW.o jy.o)
 have Ul:=br (Bl.cell kW.o KF.o)
 have mP:g.hb≠w.heap.size+1+1:=by omega
 have pT:fb≠w.heap.size+1+1:=by omega
 have JL:FB≠w.heap.size+1+1:=by omega
 have PQ:w.heap.size+1+1≠g.hb:=by omega
 have Wm:w.heap.size+1+1≠fb:=by omega
 have Wn:w.heap.size+1+1≠FB:=by omega
 have vT:=ae (Bl.cell HB.o rN.o)
 have vU:=ae (Bl.cell HB.o (Bl.cell kW.o jy.o))
 have vV:=ae (Bl.cell HB.o (Bl.cell kW.o KF.o))
 have J9:(0:Int)<=(cc:Int):=by omega
 have E1:(cc:Int)<(h.file.classes.length:Int):=by omega
 have Fo:(0:Int)<=(k:Int):=by omega
 have PW:(k:Int)<((nth bL h.file.classes cc).fields.length:Int):=by omega
 clear H hm hlo K9 L0 L1 hh io ic ik M7 y0 y1 y2 hA m1 m2 F
 go_enter func196,ntmps196
 go_wp2
 refine wp_region_held_drew (S:=fun w'=>κ w' g.hb 2 (.map (some g.mp))/\κ w' w.heap.size 0 (ι 3)/\κ w' w.heap.size 1 (ι vn)/\w'.heap[g.mp]?=some mo) (by kernel_rfl) ?_ (fun aa=>?_)
 ·exact ⟨zm.o,z0.o,z1.o,zo.o⟩
 iterate 8 (refine tn rfl (by kernel_rfl) (fun _ _ _ h=>h) (by intro _ h;go_split_ands;go_simp<;>with_reducible rfl) aa ?_;try simp only [aZ])
 refine wpAnyH_ready (rs:=[8,13]) (by kernel_rfl) (by simp) ?_
 refine AllReadyH.cons rfl (fun K hK=>?_) (AllReadyH.cons rfl (fun K hK=>?_) (AllReadyH.nil))
 ·go_simp
  go_at_call 229
  refine (sX.o _).mono ?_
  rintro e w2 ⟨rfl,b2⟩
  have d0:=ae (b2.cell aa.1)
  have d1:=ae (b2.cell aa.2.1)
  have d2:=ae (b2.cell aa.2.2.1)
  have d3:=ae (ax b2 aa.2.2.2)
  have r1:=ax b2 (by first|exact ey.o|exact eA ey.o)
  have PX:=af r1
  have c4:=aO r1
  have c5:=aJ r1
  have fz:=aA r1
  have e0:=b2.cell (by first|exact vT.o|exact Bl.cell ((Bl.refl _).alloc _) vT.o)
  have e1:=b2.cell (by first|exact vU.o|exact Bl.cell ((Bl.refl _).alloc _) vU.o)
  have e2:=b2.cell (by first|exact vV.o|exact Bl.cell ((Bl.refl _).alloc _) vV.o)
  have kS:=br e0
  have eF:=br e1
  have wA:=br e2
  try (have q9:=ax b2 (dB w #[ι 3,ι vn] #[ι 0,ι 0] #[ι 0,ι 0] 100 100 100).2.2;have p0:=aO q9;have p1:=aJ q9;have pz:=aA q9;clear q9)
  first
   | have H2:Θ (dz s X (fun b=>b=w.heap.size+1∨b=w.heap.size+1+1) wx w0 g w2 h qs a c):=((HH.o.y.bl (HB.o.drew.alloc _)).bl b2).less (fun b hb=>by rcases hb with rfl|rfl;exact Xp.old (Xp.new (Nat.le_succ _) (vR w _ _ _));exact Xp.old (Xp.new (Nat.le_succ_of_le (Nat.le_succ _)) (vS w _ _ _)))
   | have H2:Θ (dz s X (fun b=>b=w.heap.size+1) wx w0 g w2 h qs a c):=((HH.o.y.bl HB.o.drew).bl b2).less (fun b hb=>by subst hb;exact Xp.old (Xp.new (Nat.le_succ _) (dg w _ _)))
  replace r1:=ae r1
  replace b2:=ae b2
  go_wp2_with fail
  refine hK.out _ _ (⟨d0.o,d1.o,d2.o,d3.o⟩) (fun ah=>?_)
  try simp only [aZ]
  iterate 4 (refine tn rfl (by kernel_rfl) (fun _ _ _ h=>h) (by intro _ h;go_split_ands;go_simp<;>with_reducible rfl) ah ?_;try simp only [aZ])
  refine aY (i:=13) (by kernel_rfl) rfl fun K hK=>?_
  go_wp2_with fail
  refine hK.out _ _ (⟨Bl.cell ((Bl.refl _).alloc _) ah.1,Bl.cell ((Bl.refl _).alloc _) ah.2.1,Bl.cell ((Bl.refl _).alloc _) ah.2.2.1,eA ah.2.2.2⟩) (fun aH=>?_)
  try simp only [aZ]
  refine aY (i:=14) (by kernel_rfl) rfl fun K hK=>?_
  go_wp2_with fail
  refine hK.out _ _ (by first|exact ⟨Bl.cell ((Bl.refl _).alloc _) d0.o,Bl.cell ((Bl.refl _).alloc _) d1.o,Bl.cell ((Bl.refl _).alloc _) d2.o,eA d3.o⟩|exact ⟨dR d0.o (by omega),dR d1.o (by omega),dR d2.o (by omega),mg d3.o (by omega)⟩) (fun bG=>?_)
  try simp only [aZ]
  refine tn rfl (by kernel_rfl) (fun _ _ _ h=>h) (by intro _ h;go_split_ands;go_simp<;>with_reducible rfl) bG ?_
  try simp only [aZ]
  refine wpAnyH_done (by kernel_rfl) ?_ _
  go_wp2
  first
   | refine bodyPost_ret (results_cell_row rfl _ _ (w.heap.size+1) _ _ _ _ rfl (eA (ba r1.o)) underlying100 rfl au) rfl ?_
   | refine bodyPost_ret (results_cell_row rfl _ _ (w.heap.size+1) _ _ _ _ rfl (ba (dh r1.o (Nat.ne_of_lt (Nat.lt_succ_self _)) _ _)) underlying100 rfl au) rfl ?_
  refine ⟨rfl,?_⟩
  first
   | (have hX:=dz.set (b:=w.heap.size+1) (dz.set (b:=w.heap.size+1) H2.o rfl 0 (ι (nth bS (nth bL h.file.classes cc).fields k).kind)) rfl 1 (ι 0);exact hX.x.bl ((Bl.refl _).alloc _))
   | (have hX:=dz.set (b:=w.heap.size+1) (dz.set (b:=w.heap.size+1) (dz.set (b:=w.heap.size+1+1) (dz.set (b:=w.heap.size+1+1) H2.o (Or.inr rfl) 0 (ι 0)) (Or.inr rfl) 1 (ι 0)) (Or.inl rfl) 0 (ι (nth bS (nth bL h.file.classes cc).fields k).kind)) (Or.inl rfl) 1 (ι 0);exact hX.x)
 ·go_wp2_with fail
  refine hK.out _ _ (⟨Bl.cell ((Bl.refl _).alloc _) aa.1,Bl.cell ((Bl.refl _).alloc _) aa.2.1,Bl.cell ((Bl.refl _).alloc _) aa.2.2.1,eA aa.2.2.2⟩) (fun bd=>?_)
  try simp only [aZ]
  refine aY (i:=8) (by kernel_rfl) rfl fun K hK=>?_
  go_simp
  go_at_call 229
  refine (sX.o _).mono ?_
  rintro e w2 ⟨rfl,b2⟩
  have d0:=ae (b2.cell bd.1)
  have d1:=ae (b2.cell bd.2.1)
  have d2:=ae (b2.cell bd.2.2.1)
  have d3:=ae (ax b2 bd.2.2.2)
  have r1:=ax b2 (by first|exact ey.o|exact eA ey.o)
  have PX:=af r1
  have c4:=aO r1
  have c5:=aJ r1
  have fz:=aA r1
  have e0:=b2.cell (by first|exact vT.o|exact Bl.cell ((Bl.refl _).alloc _) vT.o)
  have e1:=b2.cell (by first|exact vU.o|exact Bl.cell ((Bl.refl _).alloc _) vU.o)
  have e2:=b2.cell (by first|exact vV.o|exact Bl.cell ((Bl.refl _).alloc _) vV.o)
  have kS:=br e0
  have eF:=br e1
  have wA:=br e2
  try (have q9:=ax b2 (dB w #[ι 3,ι vn] #[ι 0,ι 0] #[ι 0,ι 0] 100 100 100).2.2;have p0:=aO q9;have p1:=aJ q9;have pz:=aA q9;clear q9)
  first
   | have H2:Θ (dz s X (fun b=>b=w.heap.size+1∨b=w.heap.size+1+1) wx w0 g w2 h qs a c):=((HH.o.y.bl (HB.o.drew.alloc _)).bl b2).less (fun b hb=>by rcases hb with rfl|rfl;exact Xp.old (Xp.new (Nat.le_succ _) (vR w _ _ _));exact Xp.old (Xp.new (Nat.le_succ_of_le (Nat.le_succ _)) (vS w _ _ _)))
   | have H2:Θ (dz s X (fun b=>b=w.heap.size+1) wx w0 g w2 h qs a c):=((HH.o.y.bl HB.o.drew).bl b2).less (fun b hb=>by subst hb;exact Xp.old (Xp.new (Nat.le_succ _) (dg w _ _)))
  replace r1:=ae r1
  replace b2:=ae b2
  go_wp2_with fail
  refine hK.out _ _ (⟨d0.o,d1.o,d2.o,d3.o⟩) (fun cQ=>?_)
  try simp only [aZ]
  iterate 4 (refine tn rfl (by kernel_rfl) (fun _ _ _ h=>h) (by intro _ h;go_split_ands;go_simp<;>with_reducible rfl) cQ ?_;try simp only [aZ])
  refine aY (i:=14) (by kernel_rfl) rfl fun K hK=>?_
  go_wp2_with fail
  refine hK.out _ _ (by first|exact ⟨Bl.cell ((Bl.refl _).alloc _) d0.o,Bl.cell ((Bl.refl _).alloc _) d1.o,Bl.cell ((Bl.refl _).alloc _) d2.o,eA d3.o⟩|exact ⟨dR d0.o (by omega),dR d1.o (by omega),dR d2.o (by omega),mg d3.o (by omega)⟩) (fun cd=>?_)
  try simp only [aZ]
  refine tn rfl (by kernel_rfl) (fun _ _ _ h=>h) (by intro _ h;go_split_ands;go_simp<;>with_reducible rfl) cd ?_
  try simp only [aZ]
  refine wpAnyH_done (by kernel_rfl) ?_ _
  go_wp2
  first
   | refine bodyPost_ret (results_cell_row rfl _ _ (w.heap.size+1) _ _ _ _ rfl (eA (ba r1.o)) underlying100 rfl au) rfl ?_
   | refine bodyPost_ret (results_cell_row rfl _ _ (w.heap.size+1) _ _ _ _ rfl (ba (dh r1.o (Nat.ne_of_lt (Nat.lt_succ_self _)) _ _)) underlying100 rfl au) rfl ?_
  refine ⟨rfl,?_⟩
  first
   | (have hX:=dz.set (b:=w.heap.size+1) (dz.set (b:=w.heap.size+1) H2.o rfl 0 (ι (nth bS (nth bL h.file.classes cc).fields k).kind)) rfl 1 (ι 0);exact hX.x.bl ((Bl.refl _).alloc _))
   | (have hX:=dz.set (b:=w.heap.size+1) (dz.set (b:=w.heap.size+1) (dz.set (b:=w.heap.size+1+1) (dz.set (b:=w.heap.size+1+1) H2.o (Or.inr rfl) 0 (ι 0)) (Or.inr rfl) 1 (ι 0)) (Or.inl rfl) 0 (ι (nth bS (nth bL h.file.classes cc).fields k).kind)) (Or.inl rfl) 1 (ι 0);exact hX.x)
end
end Go.Proofs.YtgiiapenmjollaaGreat
