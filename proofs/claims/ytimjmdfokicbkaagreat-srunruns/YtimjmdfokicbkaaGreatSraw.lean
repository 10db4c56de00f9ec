import Derived.Test.YtimjmdfokicbkaaGreatSrav
namespace Go.Proofs.YtimjmdfokicbkaaGreat
set_option linter.unusedVariables false
set_option linter.unusedSimpArgs false
set_option maxHeartbeats 40000000
set_option maxRecDepth 100000
open Go.RowKit
open Go.Value (int)
open Go.IntKind (i64)
section
open Go.Maps (Keyed has)
section
variable {s:Nat} {X Y:Nat->Prop} {wx w0 w:World} {g:Mg} {h:Hp} {qs:List Nat} {a:Mc} {c:aH}
theorem cJ.blw (H:cJ s X Y wx w0 g w h qs a c):Bl w0 w:=by
 obtain ⟨vc,vo,vx,vs,l,H,-⟩:=H
 exact H.rh.bl
theorem cJ.hc0 (H:cJ s X Y wx w0 g w h qs a c) {A:Option Addr} (hA:g.A=A):w.cell? ⟨g.hb,0,none⟩=some (.slice A h.file.classes.length g.a):=by
 obtain ⟨vc,vo,vx,vs,l,H,-⟩:=H
 rw [<-hA]
 exact H.rh.heapCells.1
end
theorem aO {w:World} {b b' i:Nat} {k n x:Value} (h:w.cell? ⟨b,i,none⟩=some x) (hb:b≠b'):((w.setCell ⟨b',0,none⟩ k).setCell ⟨b',1,none⟩ n).cell? ⟨b,i,none⟩=some x:=gT h hb
section
variable {X Y1:Nat->Prop} {wx w0 w2:World} {g:Mg} {h:Hp} {qs:List Nat} {a:Mc} {c:aH} {n:Nat}
theorem Od {o:Obj} (H1:Hid (cJ 1 X Y1 wx w0 g w2 h qs a c)) (bx:Hid (w2.heap[n]?=some o)) (hy:Y1 n) (v:Va) :
  ∃W b4 Y,cJ 1 X Y wx w0 g W h qs a c/\Y n/\Y b4/\W.heap[n]?=some o/\W.heap[b4]?=some (.cells #[int i64 v.kind,int i64 v.n] 98 (0,0))/\W=w2.alloc (dL v)/\b4=w2.heap.size :=
 ⟨_,_,_,H1.out.bl ((Bl.refl w2).alloc (dL v)),Xp.old hy,Xp.new (Nat.le_refl _) (cW w2 _),(Below.heap_alloc _ _ _ (af bx.out)).trans bx.out,aD _ _ _,rfl,rfl⟩
theorem Oe {b:Nat} {cs:Array Value} {t:TypeId} {k0 n0:Value} (H1:Hid (cJ 1 X Y1 wx w0 g w2 h qs a c)) (bx:Hid (w2.heap[n]?=some (.cells cs t (0,0)))) (hy:Y1 n) (hz:Y1 b) (q9:Hid (w2.heap[b]?=some (.cells #[k0,n0] 98 (0,0)))) (hne:n≠b) (v:Va) :
  ∃W b4 Y,cJ 1 X Y wx w0 g W h qs a c/\Y n/\Y b4/\W.heap[n]?=some (.cells cs t (0,0))/\W.heap[b4]?=some (.cells #[int i64 v.kind,int i64 v.n] 98 (0,0))/\W=((w2.setCell ⟨b,0,none⟩ (int i64 v.kind)).setCell ⟨b,1,none⟩ (int i64 v.n))/\b4=b :=
 ⟨_,_,_,cJ.set (b:=b) (cJ.set (b:=b) H1.out hz 0 (int i64 v.kind)) hz 1 (int i64 v.n),hy,hz,dB bx.out hne _ _,bQ q9.out,rfl,rfl⟩
end
section
variable (X:Nat->Prop) (wx w0:World) (g:Mg) (h:Hp) (qs:List Nat) (a:Mc) (c:aH) (ia ib ic ii:Int)
theorem tX (args:List Int) (Q:Option Addr) (nl q:Nat) (w:World) (H:RX 1 X wx w0 g w h qs a c) (hs:h.stops=false) (hl:c.stk.length≤1000) (F:Fix w0 g h) (iz:h.objs.length≤100) (hst:∀v∈c.stk,v.kind=3->-1≤v.n/\v.n<h.objs.length) (jB:0≤ia/\ia<h.file.classes.length/\0≤ib/\ib<(nth cd h.file.classes ia.toNat).fields.length) (l1:List Va) (v:Va) (h0:c.stk=l1++[v]) (jz:h.of v (dW h.file.classes ia ib)=true) (hn:l1=[]∨∃(l:List Va) (u:Va),l1=l++[u]/\(u.kind=3->-1≤u.n/\u.n<h.objs.length)/\h.of u ⟨3,ia⟩=false) :
  Calls Tryz.prog 163 #[.pointer (some ⟨a.q,0,none⟩),.agg #[int i64 16,int i64 ia,int i64 ib,int i64 ic,int i64 ii,.slice Q nl q]] w fun e w'=>bS X wx w0 g qs a c ⟨h.fin 6,c,0⟩ e w':=by
 obtain ⟨cc,rfl⟩:∃cc:Nat,ia=cc:=⟨ia.toNat,by omega⟩
 obtain ⟨k,rfl⟩:∃k:Nat,ib=k:=⟨ib.toNat,by omega⟩
 rw [Int.toNat_natCast] at jB
 have hc:cc<h.file.classes.length:=by omega
 have sj:k<(nth cd h.file.classes cc).fields.length:=by omega
 have pA:=jz
 rw [gP] at jz
 have ho:=a8 hs
 have HH:=ab H
 have HS:=ab hs
 have HB:Hid (Bl w (w.alloc (.cells #[int i64 16,int i64 (cc:Int),int i64 (k:Int),int i64 ic,int i64 ii,.slice Q nl q] 55))):=(Bl.refl w).alloc _
 have HL:=ab (aD w #[int i64 16,int i64 (cc:Int),int i64 (k:Int),int i64 ic,int i64 ii,.slice Q nl q] 55)
 have z0:=ab ((H.y.bl HB.out).hb)
 have z1:=ab (aF HL.out).1
 have z2:=ab (aF HL.out).2
 obtain ⟨fb,fo,FB,ff,uc,hA,y0,m1,m2,y1,y2⟩:=iY F.cls hc sj
 have lC:Bl w0 w:=by
  obtain ⟨vc,vo,vx,vs,l,H⟩:=H
  exact H.rh.bl
 have HA:=ab hA
 have z3:Hid ((w.alloc (.cells #[int i64 16,int i64 (cc:Int),int i64 (k:Int),int i64 ic,int i64 ii,.slice Q nl q] 55)).cell? ⟨g.hb,0,none⟩=some (.slice (some ⟨fb,fo,none⟩) h.file.classes.length g.a)):=by
  obtain ⟨vc,vo,vx,vs,l,H⟩:=H
  rw [<-hA]
  exact Bl.cell HB.out H.rh.heapCells.1
 have Vq:g.hb<w.heap.size:=by
  obtain ⟨vc,vo,vx,vs,l,H⟩:=H
  exact af H.rh.hp
 have Nt:=H.qlt
 have Hb:=bt (Bl.cell lC y0)
 have Rd:=bt (Bl.cell lC y1)
 have z4:=ab (Bl.cell HB.out (Bl.cell lC y0))
 have z5:=ab (Bl.cell HB.out (Bl.cell lC y1))
 have z6:=ab (Bl.cell HB.out (Bl.cell lC y2))
 have rp:Hid (∀X wx w,RX 1 X wx w0 g w h qs a c->Calls Tryz.prog 156 #[.pointer (some ⟨a.q,0,none⟩),jC (nth cL (nth cd h.file.classes cc).fields k)] w fun e w'=>e=.returned (cn (im v))/\RX 1 X wx w0 g w' h qs a { c with stk:=l1 }):=fun X wx w H=>dU 1 X wx w0 g h qs a c l1 v _ w H F iz h0 (hst v (by rw [h0];simp)) jz
 obtain ⟨t,ht⟩:∃t,nth cL (nth cd h.file.classes cc).fields k=t:=⟨_,rfl⟩
 rw [ht] at rp z5 z6 y1 y2
 have vi:=rp
 have vA:=ab y0
 have rJ:=ab y1
 have Dk:=ab y2
 have hc0:(0:Int)≤(cc:Int):=by omega
 have EC:(cc:Int)<(h.file.classes.length:Int):=by omega
 have zB:(0:Int)≤(k:Int):=by omega
 have My:(k:Int)<((nth cd h.file.classes cc).fields.length:Int):=by omega
 have Vr:Hid (∀X wx w,RX 1 X wx w0 g w h qs a { c with stk:=l1 }->Calls Tryz.prog 156 #[.pointer (some ⟨a.q,0,none⟩),jC ⟨3,(cc:Int)⟩] w fun e w'=>e=aV 6 0 0/\RS 1 X wx w0 g w' h qs a { c with stk:=l1 }):=fun X wx w H=>jM 1 X wx w0 g h qs a { c with stk:=l1 } ⟨3,(cc:Int)⟩ w H F iz hn
 clear H hs F hst jB hA y0 y1 y2 m1 m2 lC jz pA rp ht h0 hn
 go_enter Tryz.func163,Tryz.ntmps163
 go_wp2
 refine wp_region_held_drew (S:=fun w'=>w'.cell? ⟨a.q,0,none⟩=some (.pointer (some ⟨g.hb,0,none⟩))/\w'.cell? ⟨w.heap.size,1,none⟩=some (int i64 (cc:Int))/\w'.cell? ⟨w.heap.size,2,none⟩=some (int i64 (k:Int))/\w'.cell? ⟨g.hb,0,none⟩=some (.slice (some ⟨fb,fo,none⟩) h.file.classes.length g.a)/\w'.cell? ⟨fb,fo+cc*2+1,none⟩=some (.slice (some ⟨FB,ff,none⟩) (nth cd h.file.classes cc).fields.length uc)/\w'.cell? ⟨FB,ff+k*2,none⟩=some (int i64 t.kind)/\w'.cell? ⟨FB,ff+k*2+1,none⟩=some (int i64 t.cls)) (by kernel_rfl) ?_ (fun ae=>?_)
 ·exact ⟨z0.out,z1.out,z2.out,z3.out,z4.out,z5.out,z6.out⟩
 iterate 17 (refine tn rfl rfl rfl (by kernel_rfl) (fun _ _ _ h=>h) (by rfl) (by intro _ h;(try dsimp only at h);go_split_ands;go_simp<;>with_reducible rfl) ae ?_;try simp only [aS,aN,aT,a0,a1])
 refine wpAnyH_ready (rs:=[17,18]) (by kernel_rfl) (by simp) ?_
 refine AllReadyH.cons rfl (fun K hK=>?_) (AllReadyH.cons rfl (fun K hK=>?_) (AllReadyH.nil))
 ·go_simp
  go_at_call 156
  refine (HH.out.y.useY (by first|exact HB.out.drew|exact HB.out.drew.alloc _) vi.out).mono ?_
  rintro e w2 ⟨rfl,H1,K1⟩
  have bI:=K1.at (Xp.new (Nat.le_refl _) (by first|exact cW w _|exact dZ w _ _)) (by first|exact HL.out|exact (Below.heap_alloc _ _ _ (af HL.out)).trans HL.out)
  have jv:=ab H1.hb
  have jw:=ab (aF bI).1
  have nX:=ab (aF bI).2
  have hbl:=cJ.blw H1
  have K3:=ab (H1.hc0 HA.out)
  have K4:=ab (Bl.cell hbl vA.out)
  have K5:=ab (Bl.cell hbl rJ.out)
  have K6:=ab (Bl.cell hbl Dk.out)
  have hsz:=K1.size
  try (have q9:=K1.at (b:=w.heap.size+1) (Xp.new (Nat.le_succ _) (cz w _ _)) (bC w _ _ _ _).2;have p0:=aK q9;have p1:=aI q9;have pz:=ay q9;replace q9:=ab q9)
  replace bI:=ab bI
  replace H1:=ab H1
  clear K1 hbl
  go_wp2_with fail
  refine hK.out _ _ (⟨jv.out,jw.out,nX.out,K3.out,K4.out,K5.out,K6.out⟩) (fun ah=>?_)
  try simp only [aS,aN,aT,a0,a1]
  refine bJ (i:=18) (by kernel_rfl) rfl fun K hK=>?_
  go_wp2_with fail
  refine hK.out _ _ (⟨Bl.cell ((Bl.refl _).alloc _) ah.1,Bl.cell ((Bl.refl _).alloc _) ah.2.1,Bl.cell ((Bl.refl _).alloc _) ah.2.2.1,Bl.cell ((Bl.refl _).alloc _) ah.2.2.2.1,Bl.cell ((Bl.refl _).alloc _) ah.2.2.2.2.1,Bl.cell ((Bl.refl _).alloc _) ah.2.2.2.2.2.1,Bl.cell ((Bl.refl _).alloc _) ah.2.2.2.2.2.2⟩) (fun aX=>?_)
  try simp only [aS,aN,aT,a0,a1]
  refine bJ (i:=19) (by kernel_rfl) rfl fun K hK=>?_
  go_wp2_with fail
  refine hK.out _ _ (by first|exact ⟨Bl.cell ((Bl.refl _).alloc _) jv.out,Bl.cell ((Bl.refl _).alloc _) jw.out,Bl.cell ((Bl.refl _).alloc _) nX.out,Bl.cell ((Bl.refl _).alloc _) K3.out,Bl.cell ((Bl.refl _).alloc _) K4.out,Bl.cell ((Bl.refl _).alloc _) K5.out,Bl.cell ((Bl.refl _).alloc _) K6.out⟩|exact ⟨aO jv.out (by omega),aO jw.out (by omega),aO nX.out (by omega),aO K3.out (by omega),aO K4.out (by omega),aO K5.out (by omega),aO K6.out (by omega)⟩) (fun dg=>?_)
  try simp only [aS,aN,aT,a0,a1]
  refine wpAnyH_done (by kernel_rfl) ?_ _
  go_wp2
  first
   | (obtain ⟨W,b4,Y,H4,y1,y2,g1,g2,gW,gb⟩:=Od H1 bI (Xp.new (Nat.le_refl _) (cW w _)) (im v);rw [<-gb,<-gW])
   | (obtain ⟨W,b4,Y,H4,y1,y2,g1,g2,gW,gb⟩:=Oe (b:=w.heap.size+1) H1 bI (Xp.new (Nat.le_refl _) (dZ w _ _)) (Xp.new (Nat.le_succ _) (cz w _ _)) q9 (by omega) (im v);rw [<-gW,<-gb])
  clear gW gb
  have x0:=ab H4.hb
  have x1:=ab (aF g1).1
  have x2:=ab (aF g1).2
  have x3:=ab (aK g2)
  have x4:=ab (aI g2)
  replace H4:=ab H4
  replace g1:=ab g1
  replace g2:=ab g2
  refine wp_region_held_drew (S:=fun w'=>w'.cell? ⟨a.q,0,none⟩=some (.pointer (some ⟨g.hb,0,none⟩))/\w'.cell? ⟨w.heap.size,1,none⟩=some (int i64 (cc:Int))/\w'.cell? ⟨w.heap.size,2,none⟩=some (int i64 (k:Int))/\w'.cell? ⟨b4,0,none⟩=some (int i64 (im v).kind)/\w'.cell? ⟨b4,1,none⟩=some (int i64 (im v).n)) (by kernel_rfl) ?_ (fun ae=>?_)
  ·exact ⟨x0.out,x1.out,x2.out,x3.out,x4.out⟩
  iterate 12 (refine tn rfl rfl rfl (by kernel_rfl) (fun _ _ _ h=>h) (by rfl) (by intro _ h;(try dsimp only at h);go_split_ands;go_simp<;>with_reducible rfl) ae ?_;try simp only [aS,aN,aT,a0,a1])
  refine bJ (i:=7) (by kernel_rfl) rfl fun K hK=>?_
  go_simp
  go_at_call 200
  refine (eR (cc:Int) _).mono ?_
  rintro e w5 ⟨rfl,b5⟩
  have d0:=ab (b5.cell ae.1)
  have d1:=ab (b5.cell ae.2.1)
  have d2:=ab (b5.cell ae.2.2.1)
  have d3:=ab (b5.cell ae.2.2.2.1)
  have d4:=ab (b5.cell ae.2.2.2.2)
  have Kr:=ab (ai b5 g1.out)
  have Ks:=ab (ai b5 g2.out)
  replace b5:=ab b5
  go_wp2_with fail
  refine hK.out _ _ (⟨d0.out,d1.out,d2.out,d3.out,d4.out⟩) (fun ah=>?_)
  try simp only [aS,aN,aT,a0,a1]
  refine bJ (i:=8) (by kernel_rfl) rfl fun K hK=>?_
  go_simp
  go_at_call 156
  refine (H4.out.useN ((Bl.refl _).drew.trans b5.out) Vr.out).mono ?_
  rintro e w6 ⟨rfl,H6⟩
  exact ⟨rfl,cX (s:=0) (a8 HS.out) rfl (H6.less.of rfl ⟨rfl,rfl⟩)⟩
 ·go_wp2_with fail
  refine hK.out _ _ (⟨Bl.cell ((Bl.refl _).alloc _) ae.1,Bl.cell ((Bl.refl _).alloc _) ae.2.1,Bl.cell ((Bl.refl _).alloc _) ae.2.2.1,Bl.cell ((Bl.refl _).alloc _) ae.2.2.2.1,Bl.cell ((Bl.refl _).alloc _) ae.2.2.2.2.1,Bl.cell ((Bl.refl _).alloc _) ae.2.2.2.2.2.1,Bl.cell ((Bl.refl _).alloc _) ae.2.2.2.2.2.2⟩) (fun dk=>?_)
  try simp only [aS,aN,aT,a0,a1]
  refine bJ (i:=17) (by kernel_rfl) rfl fun K hK=>?_
  go_simp
  go_at_call 156
  refine (HH.out.y.useY (by first|exact HB.out.drew|exact HB.out.drew.alloc _) vi.out).mono ?_
  rintro e w2 ⟨rfl,H1,K1⟩
  have bI:=K1.at (Xp.new (Nat.le_refl _) (by first|exact cW w _|exact dZ w _ _)) (by first|exact HL.out|exact (Below.heap_alloc _ _ _ (af HL.out)).trans HL.out)
  have jv:=ab H1.hb
  have jw:=ab (aF bI).1
  have nX:=ab (aF bI).2
  have hbl:=cJ.blw H1
  have K3:=ab (H1.hc0 HA.out)
  have K4:=ab (Bl.cell hbl vA.out)
  have K5:=ab (Bl.cell hbl rJ.out)
  have K6:=ab (Bl.cell hbl Dk.out)
  have hsz:=K1.size
  try (have q9:=K1.at (b:=w.heap.size+1) (Xp.new (Nat.le_succ _) (cz w _ _)) (bC w _ _ _ _).2;have p0:=aK q9;have p1:=aI q9;have pz:=ay q9;replace q9:=ab q9)
  replace bI:=ab bI
  replace H1:=ab H1
  clear K1 hbl
  go_wp2_with fail
  refine hK.out _ _ (⟨jv.out,jw.out,nX.out,K3.out,K4.out,K5.out,K6.out⟩) (fun eL=>?_)
  try simp only [aS,aN,aT,a0,a1]
  refine bJ (i:=19) (by kernel_rfl) rfl fun K hK=>?_
  go_wp2_with fail
  refine hK.out _ _ (by first|exact ⟨Bl.cell ((Bl.refl _).alloc _) jv.out,Bl.cell ((Bl.refl _).alloc _) jw.out,Bl.cell ((Bl.refl _).alloc _) nX.out,Bl.cell ((Bl.refl _).alloc _) K3.out,Bl.cell ((Bl.refl _).alloc _) K4.out,Bl.cell ((Bl.refl _).alloc _) K5.out,Bl.cell ((Bl.refl _).alloc _) K6.out⟩|exact ⟨aO jv.out (by omega),aO jw.out (by omega),aO nX.out (by omega),aO K3.out (by omega),aO K4.out (by omega),aO K5.out (by omega),aO K6.out (by omega)⟩) (fun fw=>?_)
  try simp only [aS,aN,aT,a0,a1]
  refine wpAnyH_done (by kernel_rfl) ?_ _
  go_wp2
  first
   | (obtain ⟨W,b4,Y,H4,y1,y2,g1,g2,gW,gb⟩:=Od H1 bI (Xp.new (Nat.le_refl _) (cW w _)) (im v);rw [<-gb,<-gW])
   | (obtain ⟨W,b4,Y,H4,y1,y2,g1,g2,gW,gb⟩:=Oe (b:=w.heap.size+1) H1 bI (Xp.new (Nat.le_refl _) (dZ w _ _)) (Xp.new (Nat.le_succ _) (cz w _ _)) q9 (by omega) (im v);rw [<-gW,<-gb])
  clear gW gb
  have x0:=ab H4.hb
  have x1:=ab (aF g1).1
  have x2:=ab (aF g1).2
  have x3:=ab (aK g2)
  have x4:=ab (aI g2)
  replace H4:=ab H4
  replace g1:=ab g1
  replace g2:=ab g2
  refine wp_region_held_drew (S:=fun w'=>w'.cell? ⟨a.q,0,none⟩=some (.pointer (some ⟨g.hb,0,none⟩))/\w'.cell? ⟨w.heap.size,1,none⟩=some (int i64 (cc:Int))/\w'.cell? ⟨w.heap.size,2,none⟩=some (int i64 (k:Int))/\w'.cell? ⟨b4,0,none⟩=some (int i64 (im v).kind)/\w'.cell? ⟨b4,1,none⟩=some (int i64 (im v).n)) (by kernel_rfl) ?_ (fun ae=>?_)
  ·exact ⟨x0.out,x1.out,x2.out,x3.out,x4.out⟩
  iterate 12 (refine tn rfl rfl rfl (by kernel_rfl) (fun _ _ _ h=>h) (by rfl) (by intro _ h;(try dsimp only at h);go_split_ands;go_simp<;>with_reducible rfl) ae ?_;try simp only [aS,aN,aT,a0,a1])
  refine bJ (i:=7) (by kernel_rfl) rfl fun K hK=>?_
  go_simp
  go_at_call 200
  refine (eR (cc:Int) _).mono ?_
  rintro e w5 ⟨rfl,b5⟩
  have d0:=ab (b5.cell ae.1)
  have d1:=ab (b5.cell ae.2.1)
  have d2:=ab (b5.cell ae.2.2.1)
  have d3:=ab (b5.cell ae.2.2.2.1)
  have d4:=ab (b5.cell ae.2.2.2.2)
  have Kr:=ab (ai b5 g1.out)
  have Ks:=ab (ai b5 g2.out)
  replace b5:=ab b5
  go_wp2_with fail
  refine hK.out _ _ (⟨d0.out,d1.out,d2.out,d3.out,d4.out⟩) (fun ah=>?_)
  try simp only [aS,aN,aT,a0,a1]
  refine bJ (i:=8) (by kernel_rfl) rfl fun K hK=>?_
  go_simp
  go_at_call 156
  refine (H4.out.useN ((Bl.refl _).drew.trans b5.out) Vr.out).mono ?_
  rintro e w6 ⟨rfl,H6⟩
  exact ⟨rfl,cX (s:=0) (a8 HS.out) rfl (H6.less.of rfl ⟨rfl,rfl⟩)⟩
theorem tY (args:List Int) (Q:Option Addr) (nl q:Nat) (w:World) (H:RX 1 X wx w0 g w h qs a c) (hs:h.stops=false) (hl:c.stk.length≤1000) (F:Fix w0 g h) (iz:h.objs.length≤100) (hst:∀v∈c.stk,v.kind=3->-1≤v.n/\v.n<h.objs.length) (jB:0≤ia/\ia<h.file.classes.length/\0≤ib/\ib<(nth cd h.file.classes ia.toNat).fields.length) (l1:List Va) (v:Va) (h0:c.stk=l1++[v]) (jz:h.of v (dW h.file.classes ia ib)=true) (l:List Va) (u:Va) (mX:l1=l++[u]) (tZ:h.of u ⟨3,ia⟩=true) (LK:u.n<0) :
  Calls Tryz.prog 163 #[.pointer (some ⟨a.q,0,none⟩),.agg #[int i64 16,int i64 ia,int i64 ib,int i64 ic,int i64 ii,.slice Q nl q]] w fun e w'=>bS X wx w0 g qs a c ⟨h.raise 1,c,0⟩ e w':=by
 obtain ⟨cc,rfl⟩:∃cc:Nat,ia=cc:=⟨ia.toNat,by omega⟩
 obtain ⟨k,rfl⟩:∃k:Nat,ib=k:=⟨ib.toNat,by omega⟩
 rw [Int.toNat_natCast] at jB
 have hc:cc<h.file.classes.length:=by omega
 have sj:k<(nth cd h.file.classes cc).fields.length:=by omega
 have pA:=jz
 rw [gP] at jz
 have ho:=a8 hs
 have HH:=ab H
 have HS:=ab hs
 have HB:Hid (Bl w (w.alloc (.cells #[int i64 16,int i64 (cc:Int),int i64 (k:Int),int i64 ic,int i64 ii,.slice Q nl q] 55))):=(Bl.refl w).alloc _
 have HL:=ab (aD w #[int i64 16,int i64 (cc:Int),int i64 (k:Int),int i64 ic,int i64 ii,.slice Q nl q] 55)
 have z0:=ab ((H.y.bl HB.out).hb)
 have z1:=ab (aF HL.out).1
 have z2:=ab (aF HL.out).2
 obtain ⟨fb,fo,FB,ff,uc,hA,y0,m1,m2,y1,y2⟩:=iY F.cls hc sj
 have lC:Bl w0 w:=by
  obtain ⟨vc,vo,vx,vs,l,H⟩:=H
  exact H.rh.bl
 have HA:=ab hA
 have z3:Hid ((w.alloc (.cells #[int i64 16,int i64 (cc:Int),int i64 (k:Int),int i64 ic,int i64 ii,.slice Q nl q] 55)).cell? ⟨g.hb,0,none⟩=some (.slice (some ⟨fb,fo,none⟩) h.file.classes.length g.a)):=by
  obtain ⟨vc,vo,vx,vs,l,H⟩:=H
  rw [<-hA]
  exact Bl.cell HB.out H.rh.heapCells.1
 have Vq:g.hb<w.heap.size:=by
  obtain ⟨vc,vo,vx,vs,l,H⟩:=H
  exact af H.rh.hp
 have Nt:=H.qlt
 have Hb:=bt (Bl.cell lC y0)
 have Rd:=bt (Bl.cell lC y1)
 have z4:=ab (Bl.cell HB.out (Bl.cell lC y0))
 have z5:=ab (Bl.cell HB.out (Bl.cell lC y1))
 have z6:=ab (Bl.cell HB.out (Bl.cell lC y2))
 have rp:Hid (∀X wx w,RX 1 X wx w0 g w h qs a c->Calls Tryz.prog 156 #[.pointer (some ⟨a.q,0,none⟩),jC (nth cL (nth cd h.file.classes cc).fields k)] w fun e w'=>e=.returned (cn (im v))/\RX 1 X wx w0 g w' h qs a { c with stk:=l1 }):=fun X wx w H=>dU 1 X wx w0 g h qs a c l1 v _ w H F iz h0 (hst v (by rw [h0];simp)) jz
 obtain ⟨t,ht⟩:∃t,nth cL (nth cd h.file.classes cc).fields k=t:=⟨_,rfl⟩
 rw [ht] at rp z5 z6 y1 y2
 have vi:=rp
 have vA:=ab y0
 have rJ:=ab y1
 have Dk:=ab y2
 have hc0:(0:Int)≤(cc:Int):=by omega
 have EC:(cc:Int)<(h.file.classes.length:Int):=by omega
 have zB:(0:Int)≤(k:Int):=by omega
 have My:(k:Int)<((nth cd h.file.classes cc).fields.length:Int):=by omega
 have Hh:=hst u (by rw [h0,mX];simp)
 have Hi:u.kind=3:=mD tZ
 have Re:=Hh Hi
 have IY:Hid (∀X wx w,RX 1 X wx w0 g w h qs a { c with stk:=l1 }->Calls Tryz.prog 156 #[.pointer (some ⟨a.q,0,none⟩),jC ⟨3,(cc:Int)⟩] w fun e w'=>e=.returned (cn (im u))/\RX 1 X wx w0 g w' h qs a { c with stk:=l }):=fun X wx w H=>dU 1 X wx w0 g h qs a { c with stk:=l1 } l u ⟨3,(cc:Int)⟩ w H F iz mX Hh tZ
 obtain ⟨E,hE⟩:∃E,bL h=E:=⟨_,rfl⟩
 have IZ:Hid (∃ch,E=.panicked ch):=by
  rw [<-hE];unfold bL;split<;>exact ⟨_,rfl⟩
 have NB:Hid (∀X wx w,RX 1 X wx w0 g w h qs a { c with stk:=l }->Calls Tryz.prog 199 #[.pointer (some ⟨g.hb,0,none⟩),cn (im u),int i64 (cc:Int),int i64 (k:Int),cn (im v)] w fun e w'=>e=E/\RX 1 X wx w0 g w' (h.raise 1) qs a { c with stk:=l }):=fun X wx w H=>hE▸BP 1 X wx w0 g h qs a { c with stk:=l } u (im v) cc k w H iz ho Hi (by omega)
 have HD:Hid (∀w',RS 0 X wx w0 g w' (h.raise 1) qs a c->bS X wx w0 g qs a c ⟨h.raise 1,c,0⟩ E w'):=fun w' H=>hE▸iu hs rfl H
 generalize im u=UI at IY NB
 clear H hs F hst jB hA y0 y1 y2 m1 m2 lC jz pA rp ht h0 mX tZ LK Hh Hi Re hE
 obtain ⟨ch,rfl⟩:=IZ.out
 go_enter Tryz.func163,Tryz.ntmps163
 go_wp2
 refine wp_region_held_drew (S:=fun w'=>w'.cell? ⟨a.q,0,none⟩=some (.pointer (some ⟨g.hb,0,none⟩))/\w'.cell? ⟨w.heap.size,1,none⟩=some (int i64 (cc:Int))/\w'.cell? ⟨w.heap.size,2,none⟩=some (int i64 (k:Int))/\w'.cell? ⟨g.hb,0,none⟩=some (.slice (some ⟨fb,fo,none⟩) h.file.classes.length g.a)/\w'.cell? ⟨fb,fo+cc*2+1,none⟩=some (.slice (some ⟨FB,ff,none⟩) (nth cd h.file.classes cc).fields.length uc)/\w'.cell? ⟨FB,ff+k*2,none⟩=some (int i64 t.kind)/\w'.cell? ⟨FB,ff+k*2+1,none⟩=some (int i64 t.cls)) (by kernel_rfl) ?_ (fun ae=>?_)
 ·exact ⟨z0.out,z1.out,z2.out,z3.out,z4.out,z5.out,z6.out⟩
 iterate 17 (refine tn rfl rfl rfl (by kernel_rfl) (fun _ _ _ h=>h) (by rfl) (by intro _ h;(try dsimp only at h);go_split_ands;go_simp<;>with_reducible rfl) ae ?_;try simp only [aS,aN,aT,a0,a1])
 refine wpAnyH_ready (rs:=[17,18]) (by kernel_rfl) (by simp) ?_
 refine AllReadyH.cons rfl (fun K hK=>?_) (AllReadyH.cons rfl (fun K hK=>?_) (AllReadyH.nil))
 ·go_simp
  go_at_call 156
  refine (HH.out.y.useY (by first|exact HB.out.drew|exact HB.out.drew.alloc _) vi.out).mono ?_
  rintro e w2 ⟨rfl,H1,K1⟩
  have bI:=K1.at (Xp.new (Nat.le_refl _) (by first|exact cW w _|exact dZ w _ _)) (by first|exact HL.out|exact (Below.heap_alloc _ _ _ (af HL.out)).trans HL.out)
  have jv:=ab H1.hb
  have jw:=ab (aF bI).1
  have nX:=ab (aF bI).2
  have hbl:=cJ.blw H1
  have K3:=ab (H1.hc0 HA.out)
  have K4:=ab (Bl.cell hbl vA.out)
  have K5:=ab (Bl.cell hbl rJ.out)
  have K6:=ab (Bl.cell hbl Dk.out)
  have hsz:=K1.size
  try (have q9:=K1.at (b:=w.heap.size+1) (Xp.new (Nat.le_succ _) (cz w _ _)) (bC w _ _ _ _).2;have p0:=aK q9;have p1:=aI q9;have pz:=ay q9;replace q9:=ab q9)
  replace bI:=ab bI
  replace H1:=ab H1
  clear K1 hbl
  go_wp2_with fail
  refine hK.out _ _ (⟨jv.out,jw.out,nX.out,K3.out,K4.out,K5.out,K6.out⟩) (fun ah=>?_)
  try simp only [aS,aN,aT,a0,a1]
  refine bJ (i:=18) (by kernel_rfl) rfl fun K hK=>?_
  go_wp2_with fail
  refine hK.out _ _ (⟨Bl.cell ((Bl.refl _).alloc _) ah.1,Bl.cell ((Bl.refl _).alloc _) ah.2.1,Bl.cell ((Bl.refl _).alloc _) ah.2.2.1,Bl.cell ((Bl.refl _).alloc _) ah.2.2.2.1,Bl.cell ((Bl.refl _).alloc _) ah.2.2.2.2.1,Bl.cell ((Bl.refl _).alloc _) ah.2.2.2.2.2.1,Bl.cell ((Bl.refl _).alloc _) ah.2.2.2.2.2.2⟩) (fun aX=>?_)
  try simp only [aS,aN,aT,a0,a1]
  refine bJ (i:=19) (by kernel_rfl) rfl fun K hK=>?_
  go_wp2_with fail
  refine hK.out _ _ (by first|exact ⟨Bl.cell ((Bl.refl _).alloc _) jv.out,Bl.cell ((Bl.refl _).alloc _) jw.out,Bl.cell ((Bl.refl _).alloc _) nX.out,Bl.cell ((Bl.refl _).alloc _) K3.out,Bl.cell ((Bl.refl _).alloc _) K4.out,Bl.cell ((Bl.refl _).alloc _) K5.out,Bl.cell ((Bl.refl _).alloc _) K6.out⟩|exact ⟨aO jv.out (by omega),aO jw.out (by omega),aO nX.out (by omega),aO K3.out (by omega),aO K4.out (by omega),aO K5.out (by omega),aO K6.out (by omega)⟩) (fun dg=>?_)
  try simp only [aS,aN,aT,a0,a1]
  refine wpAnyH_done (by kernel_rfl) ?_ _
  go_wp2
  first
   | (obtain ⟨W,b4,Y,H4,y1,y2,g1,g2,gW,gb⟩:=Od H1 bI (Xp.new (Nat.le_refl _) (cW w _)) (im v);rw [<-gb,<-gW])
   | (obtain ⟨W,b4,Y,H4,y1,y2,g1,g2,gW,gb⟩:=Oe (b:=w.heap.size+1) H1 bI (Xp.new (Nat.le_refl _) (dZ w _ _)) (Xp.new (Nat.le_succ _) (cz w _ _)) q9 (by omega) (im v);rw [<-gW,<-gb])
  clear gW gb
  have x0:=ab H4.hb
  have x1:=ab (aF g1).1
  have x2:=ab (aF g1).2
  have x3:=ab (aK g2)
  have x4:=ab (aI g2)
  replace H4:=ab H4
  replace g1:=ab g1
  replace g2:=ab g2
  refine wp_region_held_drew (S:=fun w'=>w'.cell? ⟨a.q,0,none⟩=some (.pointer (some ⟨g.hb,0,none⟩))/\w'.cell? ⟨w.heap.size,1,none⟩=some (int i64 (cc:Int))/\w'.cell? ⟨w.heap.size,2,none⟩=some (int i64 (k:Int))/\w'.cell? ⟨b4,0,none⟩=some (int i64 (im v).kind)/\w'.cell? ⟨b4,1,none⟩=some (int i64 (im v).n)) (by kernel_rfl) ?_ (fun ae=>?_)
  ·exact ⟨x0.out,x1.out,x2.out,x3.out,x4.out⟩
  iterate 12 (refine tn rfl rfl rfl (by kernel_rfl) (fun _ _ _ h=>h) (by rfl) (by intro _ h;(try dsimp only at h);go_split_ands;go_simp<;>with_reducible rfl) ae ?_;try simp only [aS,aN,aT,a0,a1])
  refine bJ (i:=7) (by kernel_rfl) rfl fun K hK=>?_
  go_simp
  go_at_call 200
  refine (eR (cc:Int) _).mono ?_
  rintro e w5 ⟨rfl,b5⟩
  have d0:=ab (b5.cell ae.1)
  have d1:=ab (b5.cell ae.2.1)
  have d2:=ab (b5.cell ae.2.2.1)
  have d3:=ab (b5.cell ae.2.2.2.1)
  have d4:=ab (b5.cell ae.2.2.2.2)
  have Kr:=ab (ai b5 g1.out)
  have Ks:=ab (ai b5 g2.out)
  replace b5:=ab b5
  go_wp2_with fail
  refine hK.out _ _ (⟨d0.out,d1.out,d2.out,d3.out,d4.out⟩) (fun ah=>?_)
  try simp only [aS,aN,aT,a0,a1]
  refine bJ (i:=8) (by kernel_rfl) rfl fun K hK=>?_
  go_simp
  go_at_call 156
  refine (H4.out.useY ((Bl.refl _).drew.trans b5.out) IY.out).mono ?_
  rintro e w6 ⟨rfl,H6,GW⟩
  have i1:=GW.at (Xp.old y1) Kr.out
  have i2:=GW.at (Xp.old y2) Ks.out
  have f0:=ab H6.hb
  have f1:=ab (aF i1).1
  have f2:=ab (aF i1).2
  have f3:=ab (aK i2)
  have f4:=ab (aI i2)
  replace i1:=ab i1
  replace i2:=ab i2
  replace H6:=ab H6
  go_wp2_with fail
  refine hK.out _ _ (⟨f0.out,f1.out,f2.out,f3.out,f4.out⟩) (fun aX=>?_)
  try simp only [aS,aN,aT,a0,a1]
  refine bJ (i:=14) (by kernel_rfl) rfl fun K hK=>?_
  go_simp
  go_at_call 199
  refine (H6.out.useY (Bl.refl _) NB.out).mono ?_
  rintro e w7 ⟨rfl,H7,K7⟩
  exact ⟨rfl,HD.out _ (H7.x.less.rs.of rfl ⟨rfl,rfl⟩)⟩
 ·go_wp2_with fail
  refine hK.out _ _ (⟨Bl.cell ((Bl.refl _).alloc _) ae.1,Bl.cell ((Bl.refl _).alloc _) ae.2.1,Bl.cell ((Bl.refl _).alloc _) ae.2.2.1,Bl.cell ((Bl.refl _).alloc _) ae.2.2.2.1,Bl.cell ((Bl.refl _).alloc _) ae.2.2.2.2.1,Bl.cell ((Bl.refl _).alloc _) ae.2.2.2.2.2.1,Bl.cell ((Bl.refl _).alloc _) ae.2.2.2.2.2.2⟩) (fun dk=>?_)
  try simp only [aS,aN,aT,a0,a1]
  refine bJ (i:=17) (by kernel_rfl) rfl fun K hK=>?_
  go_simp
  go_at_call 156
  refine (HH.out.y.useY (by first|exact HB.out.drew|exact HB.out.drew.alloc _) vi.out).mono ?_
  rintro e w2 ⟨rfl,H1,K1⟩
  have bI:=K1.at (Xp.new (Nat.le_refl _) (by first|exact cW w _|exact dZ w _ _)) (by first|exact HL.out|exact (Below.heap_alloc _ _ _ (af HL.out)).trans HL.out)
  have jv:=ab H1.hb
  have jw:=ab (aF bI).1
  have nX:=ab (aF bI).2
  have hbl:=cJ.blw H1
  have K3:=ab (H1.hc0 HA.out)
  have K4:=ab (Bl.cell hbl vA.out)
  have K5:=ab (Bl.cell hbl rJ.out)
  have K6:=ab (Bl.cell hbl Dk.out)
  have hsz:=K1.size
  try (have q9:=K1.at (b:=w.heap.size+1) (Xp.new (Nat.le_succ _) (cz w _ _)) (bC w _ _ _ _).2;have p0:=aK q9;have p1:=aI q9;have pz:=ay q9;replace q9:=ab q9)
  replace bI:=ab bI
  replace H1:=ab H1
  clear K1 hbl
  go_wp2_with fail
  refine hK.out _ _ (⟨jv.out,jw.out,nX.out,K3.out,K4.out,K5.out,K6.out⟩) (fun eL=>?_)
  try simp only [aS,aN,aT,a0,a1]
  refine bJ (i:=19) (by kernel_rfl) rfl fun K hK=>?_
  go_wp2_with fail
  refine hK.out _ _ (by first|exact ⟨Bl.cell ((Bl.refl _).alloc _) jv.out,Bl.cell ((Bl.refl _).alloc _) jw.out,Bl.cell ((Bl.refl _).alloc _) nX.out,Bl.cell ((Bl.refl _).alloc _) K3.out,Bl.cell ((Bl.refl _).alloc _) K4.out,Bl.cell ((Bl.refl _).alloc _) K5.out,Bl.cell ((Bl.refl _).alloc _) K6.out⟩|exact ⟨aO jv.out (by omega),aO jw.out (by omega),aO nX.out (by omega),aO K3.out (by omega),aO K4.out (by omega),aO K5.out (by omega),aO K6.out (by omega)⟩) (fun fw=>?_)
  try simp only [aS,aN,aT,a0,a1]
  refine wpAnyH_done (by kernel_rfl) ?_ _
  go_wp2
  first
   | (obtain ⟨W,b4,Y,H4,y1,y2,g1,g2,gW,gb⟩:=Od H1 bI (Xp.new (Nat.le_refl _) (cW w _)) (im v);rw [<-gb,<-gW])
   | (obtain ⟨W,b4,Y,H4,y1,y2,g1,g2,gW,gb⟩:=Oe (b:=w.heap.size+1) H1 bI (Xp.new (Nat.le_refl _) (dZ w _ _)) (Xp.new (Nat.le_succ _) (cz w _ _)) q9 (by omega) (im v);rw [<-gW,<-gb])
  clear gW gb
  have x0:=ab H4.hb
  have x1:=ab (aF g1).1
  have x2:=ab (aF g1).2
  have x3:=ab (aK g2)
  have x4:=ab (aI g2)
  replace H4:=ab H4
  replace g1:=ab g1
  replace g2:=ab g2
  refine wp_region_held_drew (S:=fun w'=>w'.cell? ⟨a.q,0,none⟩=some (.pointer (some ⟨g.hb,0,none⟩))/\w'.cell? ⟨w.heap.size,1,none⟩=some (int i64 (cc:Int))/\w'.cell? ⟨w.heap.size,2,none⟩=some (int i64 (k:Int))/\w'.cell? ⟨b4,0,none⟩=some (int i64 (im v).kind)/\w'.cell? ⟨b4,1,none⟩=some (int i64 (im v).n)) (by kernel_rfl) ?_ (fun ae=>?_)
  ·exact ⟨x0.out,x1.out,x2.out,x3.out,x4.out⟩
  iterate 12 (refine tn rfl rfl rfl (by kernel_rfl) (fun _ _ _ h=>h) (by rfl) (by intro _ h;(try dsimp only at h);go_split_ands;go_simp<;>with_reducible rfl) ae ?_;try simp only [aS,aN,aT,a0,a1])
  refine bJ (i:=7) (by kernel_rfl) rfl fun K hK=>?_
  go_simp
  go_at_call 200
  refine (eR (cc:Int) _).mono ?_
  rintro e w5 ⟨rfl,b5⟩
  have d0:=ab (b5.cell ae.1)
  have d1:=ab (b5.cell ae.2.1)
  have d2:=ab (b5.cell ae.2.2.1)
  have d3:=ab (b5.cell ae.2.2.2.1)
  have d4:=ab (b5.cell ae.2.2.2.2)
  have Kr:=ab (ai b5 g1.out)
  have Ks:=ab (ai b5 g2.out)
  replace b5:=ab b5
  go_wp2_with fail
  refine hK.out _ _ (⟨d0.out,d1.out,d2.out,d3.out,d4.out⟩) (fun ah=>?_)
  try simp only [aS,aN,aT,a0,a1]
  refine bJ (i:=8) (by kernel_rfl) rfl fun K hK=>?_
  go_simp
  go_at_call 156
  refine (H4.out.useY ((Bl.refl _).drew.trans b5.out) IY.out).mono ?_
  rintro e w6 ⟨rfl,H6,GW⟩
  have i1:=GW.at (Xp.old y1) Kr.out
  have i2:=GW.at (Xp.old y2) Ks.out
  have f0:=ab H6.hb
  have f1:=ab (aF i1).1
  have f2:=ab (aF i1).2
  have f3:=ab (aK i2)
  have f4:=ab (aI i2)
  replace i1:=ab i1
  replace i2:=ab i2
  replace H6:=ab H6
  go_wp2_with fail
  refine hK.out _ _ (⟨f0.out,f1.out,f2.out,f3.out,f4.out⟩) (fun aX=>?_)
  try simp only [aS,aN,aT,a0,a1]
  refine bJ (i:=14) (by kernel_rfl) rfl fun K hK=>?_
  go_simp
  go_at_call 199
  refine (H6.out.useY (Bl.refl _) NB.out).mono ?_
  rintro e w7 ⟨rfl,H7,K7⟩
  exact ⟨rfl,HD.out _ (H7.x.less.rs.of rfl ⟨rfl,rfl⟩)⟩
theorem tu (args:List Int) (Q:Option Addr) (nl q:Nat) (w:World) (H:RX 1 X wx w0 g w h qs a c) (hs:h.stops=false) (hl:c.stk.length≤1000) (F:Fix w0 g h) (iz:h.objs.length≤100) (hst:∀v∈c.stk,v.kind=3->-1≤v.n/\v.n<h.objs.length) (jB:0≤ia/\ia<h.file.classes.length/\0≤ib/\ib<(nth cd h.file.classes ia.toNat).fields.length) (l1:List Va) (v:Va) (h0:c.stk=l1++[v]) (jz:h.of v (dW h.file.classes ia ib)=true) (l:List Va) (u:Va) (mX:l1=l++[u]) (tZ:h.of u ⟨3,ia⟩=true) (o j:Nat) (Og:u.n=o) (vW:o<h.objs.length) (hj:j<(nth cA h.objs o).held.length) (Vs:(nth cG (nth cA h.objs o).held j).cls=ia) (Vt:(nth cG (nth cA h.objs o).held j).fld=ib) (Oh:h.sh.steps≤100000) :
  Calls Tryz.prog 163 #[.pointer (some ⟨a.q,0,none⟩),.agg #[int i64 16,int i64 ia,int i64 ib,int i64 ic,int i64 ii,.slice Q nl q]] w fun e w'=>bS X wx w0 g qs a c ⟨h.setV o j v,{ c with stk:=l },c.pc+1⟩ e w':=by
 obtain ⟨cc,rfl⟩:∃cc:Nat,ia=cc:=⟨ia.toNat,by omega⟩
 obtain ⟨k,rfl⟩:∃k:Nat,ib=k:=⟨ib.toNat,by omega⟩
 rw [Int.toNat_natCast] at jB
 have hc:cc<h.file.classes.length:=by omega
 have sj:k<(nth cd h.file.classes cc).fields.length:=by omega
 have pA:=jz
 rw [gP] at jz
 have ho:=a8 hs
 have HH:=ab H
 have HS:=ab hs
 have HB:Hid (Bl w (w.alloc (.cells #[int i64 16,int i64 (cc:Int),int i64 (k:Int),int i64 ic,int i64 ii,.slice Q nl q] 55))):=(Bl.refl w).alloc _
 have HL:=ab (aD w #[int i64 16,int i64 (cc:Int),int i64 (k:Int),int i64 ic,int i64 ii,.slice Q nl q] 55)
 have z0:=ab ((H.y.bl HB.out).hb)
 have z1:=ab (aF HL.out).1
 have z2:=ab (aF HL.out).2
 obtain ⟨fb,fo,FB,ff,uc,hA,y0,m1,m2,y1,y2⟩:=iY F.cls hc sj
 have lC:Bl w0 w:=by
  obtain ⟨vc,vo,vx,vs,l,H⟩:=H
  exact H.rh.bl
 have HA:=ab hA
 have z3:Hid ((w.alloc (.cells #[int i64 16,int i64 (cc:Int),int i64 (k:Int),int i64 ic,int i64 ii,.slice Q nl q] 55)).cell? ⟨g.hb,0,none⟩=some (.slice (some ⟨fb,fo,none⟩) h.file.classes.length g.a)):=by
  obtain ⟨vc,vo,vx,vs,l,H⟩:=H
  rw [<-hA]
  exact Bl.cell HB.out H.rh.heapCells.1
 have Vq:g.hb<w.heap.size:=by
  obtain ⟨vc,vo,vx,vs,l,H⟩:=H
  exact af H.rh.hp
 have Nt:=H.qlt
 have Hb:=bt (Bl.cell lC y0)
 have Rd:=bt (Bl.cell lC y1)
 have z4:=ab (Bl.cell HB.out (Bl.cell lC y0))
 have z5:=ab (Bl.cell HB.out (Bl.cell lC y1))
 have z6:=ab (Bl.cell HB.out (Bl.cell lC y2))
 have rp:Hid (∀X wx w,RX 1 X wx w0 g w h qs a c->Calls Tryz.prog 156 #[.pointer (some ⟨a.q,0,none⟩),jC (nth cL (nth cd h.file.classes cc).fields k)] w fun e w'=>e=.returned (cn (im v))/\RX 1 X wx w0 g w' h qs a { c with stk:=l1 }):=fun X wx w H=>dU 1 X wx w0 g h qs a c l1 v _ w H F iz h0 (hst v (by rw [h0];simp)) jz
 obtain ⟨t,ht⟩:∃t,nth cL (nth cd h.file.classes cc).fields k=t:=⟨_,rfl⟩
 rw [ht] at rp z5 z6 y1 y2
 have vi:=rp
 have vA:=ab y0
 have rJ:=ab y1
 have Dk:=ab y2
 have hc0:(0:Int)≤(cc:Int):=by omega
 have EC:(cc:Int)<(h.file.classes.length:Int):=by omega
 have zB:(0:Int)≤(k:Int):=by omega
 have My:(k:Int)<((nth cd h.file.classes cc).fields.length:Int):=by omega
 have Hh:=hst u (by rw [h0,mX];simp)
 have Hi:u.kind=3:=mD tZ
 have Re:=Hh Hi
 have IY:Hid (∀X wx w,RX 1 X wx w0 g w h qs a { c with stk:=l1 }->Calls Tryz.prog 156 #[.pointer (some ⟨a.q,0,none⟩),jC ⟨3,(cc:Int)⟩] w fun e w'=>e=.returned (cn (im u))/\RX 1 X wx w0 g w' h qs a { c with stk:=l }):=fun X wx w H=>dU 1 X wx w0 g h qs a { c with stk:=l1 } l u ⟨3,(cc:Int)⟩ w H F iz mX Hh tZ
 obtain ⟨n1,n2,n3⟩:=tx F.may hc
 have Rf:v.kind=(dW h.file.classes (cc:Int) (k:Int)).kind:=by
  unfold Hp.of at pA
  rw [Bool.and_eq_true] at pA
  exact of_decide_eq_true pA.1
 have LD:im u=⟨3,(o:Int)+1⟩:=by rw [gq Hi,Og]
 have NB:Hid (∀X wx w,RX 1 X wx w0 g w h qs a { c with stk:=l }->Calls Tryz.prog 199 #[.pointer (some ⟨g.hb,0,none⟩),cn (im u),int i64 (cc:Int),int i64 (k:Int),cn (im v)] w fun e w'=>e=.returned (.tuple #[])/\RX 0 X wx w0 g w' (h.setV o j v) qs a { c with stk:=l }):=fun X wx w H=>LD.symm▸BO X wx w0 g h qs a { c with stk:=l } o j cc k v w H vW iz Oh hj Vs Vt (by omega) (by omega) Rf
 have Vv:Hid ((h.setV o j v).stops=false):=hs
 generalize im u=UI at IY NB
 clear H hs F hst jB hA y0 y1 y2 m1 m2 lC jz pA rp ht h0 mX tZ Hh Hi Re n1 n2 n3 Rf LD Og vW hj Vs Vt Oh
 go_enter Tryz.func163,Tryz.ntmps163
 go_wp2
 refine wp_region_held_drew (S:=fun w'=>w'.cell? ⟨a.q,0,none⟩=some (.pointer (some ⟨g.hb,0,none⟩))/\w'.cell? ⟨w.heap.size,1,none⟩=some (int i64 (cc:Int))/\w'.cell? ⟨w.heap.size,2,none⟩=some (int i64 (k:Int))/\w'.cell? ⟨g.hb,0,none⟩=some (.slice (some ⟨fb,fo,none⟩) h.file.classes.length g.a)/\w'.cell? ⟨fb,fo+cc*2+1,none⟩=some (.slice (some ⟨FB,ff,none⟩) (nth cd h.file.classes cc).fields.length uc)/\w'.cell? ⟨FB,ff+k*2,none⟩=some (int i64 t.kind)/\w'.cell? ⟨FB,ff+k*2+1,none⟩=some (int i64 t.cls)) (by kernel_rfl) ?_ (fun ae=>?_)
 ·exact ⟨z0.out,z1.out,z2.out,z3.out,z4.out,z5.out,z6.out⟩
 iterate 17 (refine tn rfl rfl rfl (by kernel_rfl) (fun _ _ _ h=>h) (by rfl) (by intro _ h;(try dsimp only at h);go_split_ands;go_simp<;>with_reducible rfl) ae ?_;try simp only [aS,aN,aT,a0,a1])
 refine wpAnyH_ready (rs:=[17,18]) (by kernel_rfl) (by simp) ?_
 refine AllReadyH.cons rfl (fun K hK=>?_) (AllReadyH.cons rfl (fun K hK=>?_) (AllReadyH.nil))
 ·go_simp
  go_at_call 156
  refine (HH.out.y.useY (by first|exact HB.out.drew|exact HB.out.drew.alloc _) vi.out).mono ?_
  rintro e w2 ⟨rfl,H1,K1⟩
  have bI:=K1.at (Xp.new (Nat.le_refl _) (by first|exact cW w _|exact dZ w _ _)) (by first|exact HL.out|exact (Below.heap_alloc _ _ _ (af HL.out)).trans HL.out)
  have jv:=ab H1.hb
  have jw:=ab (aF bI).1
  have nX:=ab (aF bI).2
  have hbl:=cJ.blw H1
  have K3:=ab (H1.hc0 HA.out)
  have K4:=ab (Bl.cell hbl vA.out)
  have K5:=ab (Bl.cell hbl rJ.out)
  have K6:=ab (Bl.cell hbl Dk.out)
  have hsz:=K1.size
  try (have q9:=K1.at (b:=w.heap.size+1) (Xp.new (Nat.le_succ _) (cz w _ _)) (bC w _ _ _ _).2;have p0:=aK q9;have p1:=aI q9;have pz:=ay q9;replace q9:=ab q9)
  replace bI:=ab bI
  replace H1:=ab H1
  clear K1 hbl
  go_wp2_with fail
  refine hK.out _ _ (⟨jv.out,jw.out,nX.out,K3.out,K4.out,K5.out,K6.out⟩) (fun ah=>?_)
  try simp only [aS,aN,aT,a0,a1]
  refine bJ (i:=18) (by kernel_rfl) rfl fun K hK=>?_
  go_wp2_with fail
  refine hK.out _ _ (⟨Bl.cell ((Bl.refl _).alloc _) ah.1,Bl.cell ((Bl.refl _).alloc _) ah.2.1,Bl.cell ((Bl.refl _).alloc _) ah.2.2.1,Bl.cell ((Bl.refl _).alloc _) ah.2.2.2.1,Bl.cell ((Bl.refl _).alloc _) ah.2.2.2.2.1,Bl.cell ((Bl.refl _).alloc _) ah.2.2.2.2.2.1,Bl.cell ((Bl.refl _).alloc _) ah.2.2.2.2.2.2⟩) (fun aX=>?_)
  try simp only [aS,aN,aT,a0,a1]
  refine bJ (i:=19) (by kernel_rfl) rfl fun K hK=>?_
  go_wp2_with fail
  refine hK.out _ _ (by first|exact ⟨Bl.cell ((Bl.refl _).alloc _) jv.out,Bl.cell ((Bl.refl _).alloc _) jw.out,Bl.cell ((Bl.refl _).alloc _) nX.out,Bl.cell ((Bl.refl _).alloc _) K3.out,Bl.cell ((Bl.refl _).alloc _) K4.out,Bl.cell ((Bl.refl _).alloc _) K5.out,Bl.cell ((Bl.refl _).alloc _) K6.out⟩|exact ⟨aO jv.out (by omega),aO jw.out (by omega),aO nX.out (by omega),aO K3.out (by omega),aO K4.out (by omega),aO K5.out (by omega),aO K6.out (by omega)⟩) (fun dg=>?_)
  try simp only [aS,aN,aT,a0,a1]
  refine wpAnyH_done (by kernel_rfl) ?_ _
  go_wp2
  first
   | (obtain ⟨W,b4,Y,H4,y1,y2,g1,g2,gW,gb⟩:=Od H1 bI (Xp.new (Nat.le_refl _) (cW w _)) (im v);rw [<-gb,<-gW])
   | (obtain ⟨W,b4,Y,H4,y1,y2,g1,g2,gW,gb⟩:=Oe (b:=w.heap.size+1) H1 bI (Xp.new (Nat.le_refl _) (dZ w _ _)) (Xp.new (Nat.le_succ _) (cz w _ _)) q9 (by omega) (im v);rw [<-gW,<-gb])
  clear gW gb
  have x0:=ab H4.hb
  have x1:=ab (aF g1).1
  have x2:=ab (aF g1).2
  have x3:=ab (aK g2)
  have x4:=ab (aI g2)
  replace H4:=ab H4
  replace g1:=ab g1
  replace g2:=ab g2
  refine wp_region_held_drew (S:=fun w'=>w'.cell? ⟨a.q,0,none⟩=some (.pointer (some ⟨g.hb,0,none⟩))/\w'.cell? ⟨w.heap.size,1,none⟩=some (int i64 (cc:Int))/\w'.cell? ⟨w.heap.size,2,none⟩=some (int i64 (k:Int))/\w'.cell? ⟨b4,0,none⟩=some (int i64 (im v).kind)/\w'.cell? ⟨b4,1,none⟩=some (int i64 (im v).n)) (by kernel_rfl) ?_ (fun ae=>?_)
  ·exact ⟨x0.out,x1.out,x2.out,x3.out,x4.out⟩
  iterate 12 (refine tn rfl rfl rfl (by kernel_rfl) (fun _ _ _ h=>h) (by rfl) (by intro _ h;(try dsimp only at h);go_split_ands;go_simp<;>with_reducible rfl) ae ?_;try simp only [aS,aN,aT,a0,a1])
  refine bJ (i:=7) (by kernel_rfl) rfl fun K hK=>?_
  go_simp
  go_at_call 200
  refine (eR (cc:Int) _).mono ?_
  rintro e w5 ⟨rfl,b5⟩
  have d0:=ab (b5.cell ae.1)
  have d1:=ab (b5.cell ae.2.1)
  have d2:=ab (b5.cell ae.2.2.1)
  have d3:=ab (b5.cell ae.2.2.2.1)
  have d4:=ab (b5.cell ae.2.2.2.2)
  have Kr:=ab (ai b5 g1.out)
  have Ks:=ab (ai b5 g2.out)
  replace b5:=ab b5
  go_wp2_with fail
  refine hK.out _ _ (⟨d0.out,d1.out,d2.out,d3.out,d4.out⟩) (fun ah=>?_)
  try simp only [aS,aN,aT,a0,a1]
  refine bJ (i:=8) (by kernel_rfl) rfl fun K hK=>?_
  go_simp
  go_at_call 156
  refine (H4.out.useY ((Bl.refl _).drew.trans b5.out) IY.out).mono ?_
  rintro e w6 ⟨rfl,H6,GW⟩
  have i1:=GW.at (Xp.old y1) Kr.out
  have i2:=GW.at (Xp.old y2) Ks.out
  have f0:=ab H6.hb
  have f1:=ab (aF i1).1
  have f2:=ab (aF i1).2
  have f3:=ab (aK i2)
  have f4:=ab (aI i2)
  replace i1:=ab i1
  replace i2:=ab i2
  replace H6:=ab H6
  go_wp2_with fail
  refine hK.out _ _ (⟨f0.out,f1.out,f2.out,f3.out,f4.out⟩) (fun aX=>?_)
  try simp only [aS,aN,aT,a0,a1]
  refine bJ (i:=14) (by kernel_rfl) rfl fun K hK=>?_
  go_simp
  go_at_call 199
  refine (H6.out.useY (Bl.refl _) NB.out).mono ?_
  rintro e w7 ⟨rfl,H7,K7⟩
  have i3:=K7.at (Xp.old (Xp.old y1)) i1.out
  have i4:=K7.at (Xp.old (Xp.old y2)) i2.out
  have e0:=ab H7.hb
  replace H7:=ab H7
  go_wp2_with fail
  refine hK.out _ _ (⟨e0.out,(aF i3).1,(aF i3).2,aK i4,aI i4⟩) (fun dg=>?_)
  try simp only [aS,aN,aT,a0,a1]
  refine wpAnyH_done (by kernel_rfl) ?_ _
  go_wp2
  go_end0
  exact qU Vv.out H7.out.x
 ·go_wp2_with fail
  refine hK.out _ _ (⟨Bl.cell ((Bl.refl _).alloc _) ae.1,Bl.cell ((Bl.refl _).alloc _) ae.2.1,Bl.cell ((Bl.refl _).alloc _) ae.2.2.1,Bl.cell ((Bl.refl _).alloc _) ae.2.2.2.1,Bl.cell ((Bl.refl _).alloc _) ae.2.2.2.2.1,Bl.cell ((Bl.refl _).alloc _) ae.2.2.2.2.2.1,Bl.cell ((Bl.refl _).alloc _) ae.2.2.2.2.2.2⟩) (fun dk=>?_)
  try simp only [aS,aN,aT,a0,a1]
  refine bJ (i:=17) (by kernel_rfl) rfl fun K hK=>?_
  go_simp
  go_at_call 156
  refine (HH.out.y.useY (by first|exact HB.out.drew|exact HB.out.drew.alloc _) vi.out).mono ?_
  rintro e w2 ⟨rfl,H1,K1⟩
  have bI:=K1.at (Xp.new (Nat.le_refl _) (by first|exact cW w _|exact dZ w _ _)) (by first|exact HL.out|exact (Below.heap_alloc _ _ _ (af HL.out)).trans HL.out)
  have jv:=ab H1.hb
  have jw:=ab (aF bI).1
  have nX:=ab (aF bI).2
  have hbl:=cJ.blw H1
  have K3:=ab (H1.hc0 HA.out)
  have K4:=ab (Bl.cell hbl vA.out)
  have K5:=ab (Bl.cell hbl rJ.out)
  have K6:=ab (Bl.cell hbl Dk.out)
  have hsz:=K1.size
  try (have q9:=K1.at (b:=w.heap.size+1) (Xp.new (Nat.le_succ _) (cz w _ _)) (bC w _ _ _ _).2;have p0:=aK q9;have p1:=aI q9;have pz:=ay q9;replace q9:=ab q9)
  replace bI:=ab bI
  replace H1:=ab H1
  clear K1 hbl
  go_wp2_with fail
  refine hK.out _ _ (⟨jv.out,jw.out,nX.out,K3.out,K4.out,K5.out,K6.out⟩) (fun eL=>?_)
  try simp only [aS,aN,aT,a0,a1]
  refine bJ (i:=19) (by kernel_rfl) rfl fun K hK=>?_
  go_wp2_with fail
  refine hK.out _ _ (by first|exact ⟨Bl.cell ((Bl.refl _).alloc _) jv.out,Bl.cell ((Bl.refl _).alloc _) jw.out,Bl.cell ((Bl.refl _).alloc _) nX.out,Bl.cell ((Bl.refl _).alloc _) K3.out,Bl.cell ((Bl.refl _).alloc _) K4.out,Bl.cell ((Bl.refl _).alloc _) K5.out,Bl.cell ((Bl.refl _).alloc _) K6.out⟩|exact ⟨aO jv.out (by omega),aO jw.out (by omega),aO nX.out (by omega),aO K3.out (by omega),aO K4.out (by omega),aO K5.out (by omega),aO K6.out (by omega)⟩) (fun fw=>?_)
  try simp only [aS,aN,aT,a0,a1]
  refine wpAnyH_done (by kernel_rfl) ?_ _
  go_wp2
  first
   | (obtain ⟨W,b4,Y,H4,y1,y2,g1,g2,gW,gb⟩:=Od H1 bI (Xp.new (Nat.le_refl _) (cW w _)) (im v);rw [<-gb,<-gW])
   | (obtain ⟨W,b4,Y,H4,y1,y2,g1,g2,gW,gb⟩:=Oe (b:=w.heap.size+1) H1 bI (Xp.new (Nat.le_refl _) (dZ w _ _)) (Xp.new (Nat.le_succ _) (cz w _ _)) q9 (by omega) (im v);rw [<-gW,<-gb])
  clear gW gb
  have x0:=ab H4.hb
  have x1:=ab (aF g1).1
  have x2:=ab (aF g1).2
  have x3:=ab (aK g2)
  have x4:=ab (aI g2)
  replace H4:=ab H4
  replace g1:=ab g1
  replace g2:=ab g2
  refine wp_region_held_drew (S:=fun w'=>w'.cell? ⟨a.q,0,none⟩=some (.pointer (some ⟨g.hb,0,none⟩))/\w'.cell? ⟨w.heap.size,1,none⟩=some (int i64 (cc:Int))/\w'.cell? ⟨w.heap.size,2,none⟩=some (int i64 (k:Int))/\w'.cell? ⟨b4,0,none⟩=some (int i64 (im v).kind)/\w'.cell? ⟨b4,1,none⟩=some (int i64 (im v).n)) (by kernel_rfl) ?_ (fun ae=>?_)
  ·exact ⟨x0.out,x1.out,x2.out,x3.out,x4.out⟩
  iterate 12 (refine tn rfl rfl rfl (by kernel_rfl) (fun _ _ _ h=>h) (by rfl) (by intro _ h;(try dsimp only at h);go_split_ands;go_simp<;>with_reducible rfl) ae ?_;try simp only [aS,aN,aT,a0,a1])
  refine bJ (i:=7) (by kernel_rfl) rfl fun K hK=>?_
  go_simp
  go_at_call 200
  refine (eR (cc:Int) _).mono ?_
  rintro e w5 ⟨rfl,b5⟩
  have d0:=ab (b5.cell ae.1)
  have d1:=ab (b5.cell ae.2.1)
  have d2:=ab (b5.cell ae.2.2.1)
  have d3:=ab (b5.cell ae.2.2.2.1)
  have d4:=ab (b5.cell ae.2.2.2.2)
  have Kr:=ab (ai b5 g1.out)
  have Ks:=ab (ai b5 g2.out)
  replace b5:=ab b5
  go_wp2_with fail
  refine hK.out _ _ (⟨d0.out,d1.out,d2.out,d3.out,d4.out⟩) (fun ah=>?_)
  try simp only [aS,aN,aT,a0,a1]
  refine bJ (i:=8) (by kernel_rfl) rfl fun K hK=>?_
  go_simp
  go_at_call 156
  refine (H4.out.useY ((Bl.refl _).drew.trans b5.out) IY.out).mono ?_
  rintro e w6 ⟨rfl,H6,GW⟩
  have i1:=GW.at (Xp.old y1) Kr.out
  have i2:=GW.at (Xp.old y2) Ks.out
  have f0:=ab H6.hb
  have f1:=ab (aF i1).1
  have f2:=ab (aF i1).2
  have f3:=ab (aK i2)
  have f4:=ab (aI i2)
  replace i1:=ab i1
  replace i2:=ab i2
  replace H6:=ab H6
  go_wp2_with fail
  refine hK.out _ _ (⟨f0.out,f1.out,f2.out,f3.out,f4.out⟩) (fun aX=>?_)
  try simp only [aS,aN,aT,a0,a1]
  refine bJ (i:=14) (by kernel_rfl) rfl fun K hK=>?_
  go_simp
  go_at_call 199
  refine (H6.out.useY (Bl.refl _) NB.out).mono ?_
  rintro e w7 ⟨rfl,H7,K7⟩
  have i3:=K7.at (Xp.old (Xp.old y1)) i1.out
  have i4:=K7.at (Xp.old (Xp.old y2)) i2.out
  have e0:=ab H7.hb
  replace H7:=ab H7
  go_wp2_with fail
  refine hK.out _ _ (⟨e0.out,(aF i3).1,(aF i3).2,aK i4,aI i4⟩) (fun dg=>?_)
  try simp only [aS,aN,aT,a0,a1]
  refine wpAnyH_done (by kernel_rfl) ?_ _
  go_wp2
  go_end0
  exact qU Vv.out H7.out.x
end
end
section
open Go.Maps (Keyed has)
theorem xL (X:Nat->Prop) (wx w0:World) (g:Mg) (h:Hp) (qs:List Nat) (a:Mc) (c:aH) (ia ib ic ii:Int) (args:List Int) (Q:Option Addr) (nl q:Nat) (w:World) (H:RX 1 X wx w0 g w h qs a c) (hs:h.stops=false) (hl:c.stk.length≤1000) (F:Fix w0 g h) (iz:h.objs.length≤100) (hst:∀v∈c.stk,v.kind=3->-1≤v.n/\v.n<h.objs.length) (jB:0≤ia/\ia<h.file.classes.length/\0≤ib/\ib<(nth cd h.file.classes ia.toNat).fields.length) (Oh:h.sh.steps≤100000) :
  Calls Tryz.prog 163 #[.pointer (some ⟨a.q,0,none⟩),.agg #[int i64 16,int i64 ia,int i64 ib,int i64 ic,int i64 ii,.slice Q nl q]] w fun e w'=>bS X wx w0 g qs a c (aM h c ⟨16,ia,ib,ic,ii,args⟩) e w':=by
 have ho:=a8 hs
 have hd:aM h c ⟨16,ia,ib,ic,ii,args⟩=jZ h c ⟨16,ia,ib,ic,ii,args⟩:=rfl
 rw [hd]
 have s6:=aY hs 6
 have mb:∀b,h.mustB b=b:=fun b=>by unfold Hp.mustB;rw [ho];simp
 have fa:=fun hn=>tW X wx w0 g h qs a c ia ib ic ii args Q nl q w H hs hl F iz hst jB hn
 have AK:(jZ h c ⟨16,ia,ib,ic,ii,args⟩).h=h.fin 6->∀{P:Ending->World->Prop},(Calls Tryz.prog 163 #[.pointer (some ⟨a.q,0,none⟩),.agg #[int i64 16,int i64 ia,int i64 ib,int i64 ic,int i64 ii,.slice Q nl q]] w fun e w'=>bS X wx w0 g qs a c ⟨h.fin 6,c,0⟩ e w')->Calls Tryz.prog 163 #[.pointer (some ⟨a.q,0,none⟩),.agg #[int i64 16,int i64 ia,int i64 ib,int i64 ic,int i64 ii,.slice Q nl q]] w fun e w'=>bS X wx w0 g qs a c (jZ h c ⟨16,ia,ib,ic,ii,args⟩) e w':=fun e1 P hc=>hc.mono fun e w' q=>dw (d:=⟨h.fin 6,c,0⟩) e1.symm s6 q
 rcases gD (c:=c) with h0|⟨l1,v,h0⟩
 ·refine AK ?_ (P:=fun _ _=>True) (fa (Or.inl h0))
  unfold jZ
  dsimp only
  have hn:c.has 2=false:=by unfold aH.has;rw [h0];rfl
  rw [cY hn,if_pos (kn ho 6).1]
 have NC:=hst v (by rw [h0];simp)
 have Vw:l1=[]->(jZ h c ⟨16,ia,ib,ic,ii,args⟩).h=h.fin 6:=fun e=>by
  unfold jZ
  dsimp only
  have hn:c.has 2=false:=by unfold aH.has;rw [h0,e];rfl
  rw [cY hn,if_pos (kn ho 6).1]
 have two:∀l u,l1=l++[u]->(jZ h c ⟨16,ia,ib,ic,ii,args⟩).h=(if isRef u=true then h.put u ia ib v else h.fin 6)/\(jZ h c ⟨16,ia,ib,ic,ii,args⟩).c={ c with stk:=l }/\(jZ h c ⟨16,ia,ib,ic,ii,args⟩).nx=c.pc+1:=fun l u e=>by
  have Yh:c.stk=l++[u,v]:=by rw [h0,e];simp
  obtain ⟨k1,k2,k3,k4⟩:=pI Yh
  unfold jZ
  dsimp only
  rw [dJ k1,k2,k3,k4,if_neg (by rw [ho];decide),mb]
  refine ⟨?_,rfl,rfl⟩
  split
  ·rfl
  ·rename_i hr
   exact cY (by simpa using hr)
 cases jz:h.of v (dW h.file.classes ia ib) with
 | false =>
  refine AK ?_ (P:=fun _ _=>True) (fa (Or.inr ⟨l1,v,h0,NC,jz⟩))
  rcases List.eq_nil_or_concat l1 with e|⟨l,u,e⟩
  ·exact Vw e
  ·rw [List.concat_eq_append] at e
   rw [(two l u e).1]
   split
   ·unfold Hp.put
    rw [jz,mb,if_neg (by decide),cY rfl]
   ·rfl
 | true =>
  have fb:=fun hn=>tX X wx w0 g h qs a c ia ib ic ii args Q nl q w H hs hl F iz hst jB l1 v h0 jz hn
  rcases List.eq_nil_or_concat l1 with e|⟨l,u,e⟩
  ·exact AK (Vw e) (P:=fun _ _=>True) (fb (Or.inl e))
  rw [List.concat_eq_append] at e
  obtain ⟨t1,t2,t3⟩:=two l u e
  have Hh:=hst u (by rw [h0,e];simp)
  cases tZ:h.of u ⟨3,ia⟩ with
  | false =>
   refine AK ?_ (P:=fun _ _=>True) (fb (Or.inr ⟨l,u,e,Hh,tZ⟩))
   rw [t1]
   split
   ·have e1:h.findN u ia ib=-1:=by unfold Hp.findN;rw [tZ,mb,if_neg (by decide)]
    have e2:h.findH u ia=h.fin 6:=by unfold Hp.findH;rw [tZ,mb,if_neg (by decide),cY rfl]
    unfold Hp.put
    rw [jz,mb,if_pos rfl,e1,if_pos (by decide),e2]
   ·rfl
  | true =>
   have Hi:u.kind=3:=mD tZ
   have Re:=Hh Hi
   have Yi:isRef u=true:=decide_eq_true Hi
   rw [Yi,if_pos rfl] at t1
   by_cases LK:u.n<0
   ·have e1:(jZ h c ⟨16,ia,ib,ic,ii,args⟩).h=h.raise 1:=by
     rw [t1]
     have e1:h.findN u ia ib=-1:=by unfold Hp.findN;rw [tZ,mb,if_pos rfl,if_pos LK]
     have e2:h.findH u ia=h.raise 1:=by unfold Hp.findH;rw [tZ,mb,if_pos rfl,if_pos LK]
     unfold Hp.put
     rw [jz,mb,if_pos rfl,e1,if_pos (by decide),e2]
    exact (tY X wx w0 g h qs a c ia ib ic ii args Q nl q w H hs hl F iz hst jB l1 v h0 jz l u e tZ LK).mono fun e w' q=>dw (d:=⟨h.raise 1,c,0⟩) e1.symm (il hs 1) q
   ·obtain ⟨o,Og⟩:∃o:Nat,u.n=o:=⟨u.n.toNat,by omega⟩
    have vW:o<h.objs.length:=by omega
    have zl:h.obj u.n=nth cA h.objs o:=by unfold Hp.obj;rw [Og,Int.toNat_natCast]
    have Kt:gj h.file.classes (nth cA h.objs o).cls ia=true:=by
     have Kv:=tZ
     unfold Hp.of at Kv
     rw [zl] at Kv
     simp [LK] at Kv
     exact Kv.2
    obtain ⟨cc,rfl⟩:∃cc:Nat,ia=cc:=⟨ia.toNat,by omega⟩
    obtain ⟨k,rfl⟩:∃k:Nat,ib=k:=⟨ib.toNat,by omega⟩
    have sj:k<(nth cd h.file.classes cc).fields.length:=by have:=jB.2.2.2;rw [Int.toNat_natCast] at this;omega
    obtain ⟨j,j1,j2,j3,j4,j5⟩:=H.find vW Kt sj
    have Di:h.findN u cc k=j:=by
     unfold Hp.findN
     rw [tZ,mb,if_pos rfl,if_neg LK,zl]
     exact j2
    have e1:jZ h c ⟨16,(cc:Int),(k:Int),ic,ii,args⟩=⟨h.setV o j v,{ c with stk:=l },c.pc+1⟩:=by
     have Qs:(jZ h c ⟨16,(cc:Int),(k:Int),ic,ii,args⟩).h=h.setV o j v:=by
      rw [t1]
      unfold Hp.put
      rw [jz,mb,if_pos rfl,Di,if_neg (by omega)]
      have Yj:h.findH u cc=h:=by unfold Hp.findH;rw [tZ,mb,if_pos rfl,if_neg LK]
      rw [Yj,Og,Int.toNat_natCast,Int.toNat_natCast]
     generalize jZ h c ⟨16,(cc:Int),(k:Int),ic,ii,args⟩=d at Qs t2 t3
     obtain ⟨d1,d2,d3⟩:=d
     dsimp only at Qs t2 t3
     rw [Qs,t2,t3]
    rw [e1]
    exact tu X wx w0 g h qs a c cc k ic ii args Q nl q w H hs hl F iz hst jB l1 v h0 jz l u e tZ o j Og vW j1 j3 j4 Oh
end
end Go.Proofs.YtimjmdfokicbkaaGreat
