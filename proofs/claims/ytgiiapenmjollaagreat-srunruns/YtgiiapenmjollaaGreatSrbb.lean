import Derived.Test.YtgiiapenmjollaaGreatSraj
import Derived.Test.YtgiiapenmjollaaGreatSrba
namespace Go.Proofs.YtgiiapenmjollaaGreat
set_option linter.all false
set_option maxHeartbeats 40000000
set_option maxRecDepth 100000
open Go.RowKit
open Go.Value (int)
open Go.IntKind (i64)
variable {args:List Int}
section
open Go.Maps (Keyed has)
section
variable {s:Nat} {X Y:Nat->Prop} {wx w0 w:World} {g:Mg} {h:Hp} {qs:List Nat} {a:Mc} {c:aH}
theorem cK.blw (H:cK s X Y wx w0 g w h qs a c):Bl w0 w:=by
 obtain ⟨vc,vo,vx,vs,l,H,-⟩:=H
 exact H.rh.bl
theorem cK.hc0 (H:cK s X Y wx w0 g w h qs a c) {A:Option Addr} (hA:g.A=A):w.cell? ⟨g.hb,0,none⟩=some (.slice A h.file.classes.length g.a):=by
 obtain ⟨vc,vo,vx,vs,l,H,-⟩:=H
 rw [<-hA]
 exact H.rh.heapCells.1
end
theorem aO {w:World} {b b' i:Nat} {k n x:Value} (h:w.cell? ⟨b,i,none⟩=some x) (hb:b≠b'):((w.setCell ⟨b',0,none⟩ k).setCell ⟨b',1,none⟩ n).cell? ⟨b,i,none⟩=some x:=gT h hb
section
variable {X Y1:Nat->Prop} {wx w0 w2:World} {g:Mg} {h:Hp} {qs:List Nat} {a:Mc} {c:aH} {n:Nat}
theorem NX {o:Obj} (H1:Hid (cK 1 X Y1 wx w0 g w2 h qs a c)) (bx:Hid (w2.heap[n]?=some o)) (hy:Y1 n) (v:Va) :
  ∃W b4 Y,cK 1 X Y wx w0 g W h qs a c/\Y n/\Y b4/\W.heap[n]?=some o/\W.heap[b4]?=some (.cells #[int i64 v.kind,int i64 v.n] 100 (0,0))/\W=w2.alloc (dL v)/\b4=w2.heap.size :=
 ⟨_,_,_,H1.out.bl ((Bl.refl w2).alloc (dL v)),Xp.old hy,Xp.new (Nat.le_refl _) (cX w2 _),(Below.heap_alloc _ _ _ (af bx.out)).trans bx.out,aD _ _ _,rfl,rfl⟩
theorem NY {b:Nat} {cs:Array Value} {t:TypeId} {k0 n0:Value} (H1:Hid (cK 1 X Y1 wx w0 g w2 h qs a c)) (bx:Hid (w2.heap[n]?=some (.cells cs t (0,0)))) (hy:Y1 n) (hz:Y1 b) (q9:Hid (w2.heap[b]?=some (.cells #[k0,n0] 100 (0,0)))) (hne:n≠b) (v:Va) :
  ∃W b4 Y,cK 1 X Y wx w0 g W h qs a c/\Y n/\Y b4/\W.heap[n]?=some (.cells cs t (0,0))/\W.heap[b4]?=some (.cells #[int i64 v.kind,int i64 v.n] 100 (0,0))/\W=((w2.setCell ⟨b,0,none⟩ (int i64 v.kind)).setCell ⟨b,1,none⟩ (int i64 v.n))/\b4=b :=
 ⟨_,_,_,cK.set (b:=b) (cK.set (b:=b) H1.out hz 0 (int i64 v.kind)) hz 1 (int i64 v.n),hy,hz,dC bx.out hne _ _,bQ q9.out,rfl,rfl⟩
end
section
variable (X:Nat->Prop) (wx w0:World) (g:Mg) (h:Hp) (qs:List Nat) (a:Mc) (c:aH) (ia ib ic ii:Int)
theorem tZ (args:List Int) (Q:Option Addr) (nl q:Nat) (w:World) (H:RX 1 X wx w0 g w h qs a c) (hs:h.stops=false) (hl:c.stk.length<=1000) (F:Fix w0 g h) (iD:h.objs.length<=100) (hst:∀v∈c.stk,v.kind=3->-1<=v.n/\v.n<h.objs.length) (jC:0<=ia/\ia<h.file.classes.length/\0<=ib/\ib<(nth cg h.file.classes ia.toNat).fields.length) (l1:List Va) (v:Va) (h0:c.stk=l1++[v]) (jz:h.of v (dW h.file.classes ia ib)=true) (hn:l1=[]∨∃(l:List Va) (u:Va),l1=l++[u]/\(u.kind=3->-1<=u.n/\u.n<h.objs.length)/\h.of u ⟨3,ia⟩=false) :
  Calls Tryz.prog 153 #[.pointer (some ⟨a.q,0,none⟩),.agg #[int i64 16,int i64 ia,int i64 ib,int i64 ic,int i64 ii,.slice Q nl q]] w fun e w'=>bT X wx w0 g qs a c ⟨h.fin 6,c,0⟩ e w':=by
 obtain ⟨cc,rfl⟩:∃cc:Nat,ia=cc:=⟨ia.toNat,by omega⟩
 obtain ⟨k,rfl⟩:∃k:Nat,ib=k:=⟨ib.toNat,by omega⟩
 rw [Int.toNat_natCast] at jC
 have hc:cc<h.file.classes.length:=by omega
 have sx:k<(nth cg h.file.classes cc).fields.length:=by omega
 have pA:=jz
 rw [gP] at jz
 have ho:=ba hs
 have HH:=ab H
 have HS:=ab hs
 have HB:Hid (Bl w (w.alloc (.cells #[int i64 16,int i64 (cc:Int),int i64 (k:Int),int i64 ic,int i64 ii,.slice Q nl q] 55))):=(Bl.refl w).alloc _
 have HL:=ab (aD w #[int i64 16,int i64 (cc:Int),int i64 (k:Int),int i64 ic,int i64 ii,.slice Q nl q] 55)
 have z0:=ab ((H.y.bl HB.out).hb)
 have z1:=ab (aF HL.out).1
 have z2:=ab (aF HL.out).2
 obtain ⟨fb,fo,FB,ff,uc,hA,y0,m1,m2,y1,y2⟩:=iu F.cls hc sx
 have lE:Bl w0 w:=by
  obtain ⟨vc,vo,vx,vs,l,H⟩:=H
  exact H.rh.bl
 have HA:=ab hA
 have z3:Hid ((w.alloc (.cells #[int i64 16,int i64 (cc:Int),int i64 (k:Int),int i64 ic,int i64 ii,.slice Q nl q] 55)).cell? ⟨g.hb,0,none⟩=some (.slice (some ⟨fb,fo,none⟩) h.file.classes.length g.a)):=by
  obtain ⟨vc,vo,vx,vs,l,H⟩:=H
  rw [<-hA]
  exact Bl.cell HB.out H.rh.heapCells.1
 have UQ:g.hb<w.heap.size:=by
  obtain ⟨vc,vo,vx,vs,l,H⟩:=H
  exact af H.rh.hp
 have Ng:=H.qlt
 have G6:=bC (Bl.cell lE y0)
 have QK:=bC (Bl.cell lE y1)
 have z4:=ab (Bl.cell HB.out (Bl.cell lE y0))
 have z5:=ab (Bl.cell HB.out (Bl.cell lE y1))
 have z6:=ab (Bl.cell HB.out (Bl.cell lE y2))
 have rA:Hid (∀X wx w,RX 1 X wx w0 g w h qs a c->Calls Tryz.prog 146 #[.pointer (some ⟨a.q,0,none⟩),jD (nth cN (nth cg h.file.classes cc).fields k)] w fun e w'=>e=.returned (cn (im v))/\RX 1 X wx w0 g w' h qs a { c with stk:=l1 }):=fun X wx w H=>dV 1 X wx w0 g h qs a c l1 v _ w H F iD h0 (hst v (by rw [h0];simp)) jz
 obtain ⟨t,ht⟩:∃t,nth cN (nth cg h.file.classes cc).fields k=t:=⟨_,rfl⟩
 rw [ht] at rA z5 z6 y1 y2
 have vm:=rA
 have vC:=ab y0
 have rM:=ab y1
 have Dj:=ab y2
 have hc0:(0:Int)<=(cc:Int):=by omega
 have Ey:(cc:Int)<(h.file.classes.length:Int):=by omega
 have zB:(0:Int)<=(k:Int):=by omega
 have Mj:(k:Int)<((nth cg h.file.classes cc).fields.length:Int):=by omega
 have UR:Hid (∀X wx w,RX 1 X wx w0 g w h qs a { c with stk:=l1 }->Calls Tryz.prog 146 #[.pointer (some ⟨a.q,0,none⟩),jD ⟨3,(cc:Int)⟩] w fun e w'=>e=aV 6 0 0/\RS 1 X wx w0 g w' h qs a { c with stk:=l1 }):=fun X wx w H=>jN 1 X wx w0 g h qs a { c with stk:=l1 } ⟨3,(cc:Int)⟩ w H F iD hn
 clear H hs F hst jC hA y0 y1 y2 m1 m2 lE jz pA rA ht h0 hn
 go_enter Tryz.func153,Tryz.ntmps153
 go_wp2
 refine wp_region_held_drew (S:=fun w'=>w'.cell? ⟨a.q,0,none⟩=some (.pointer (some ⟨g.hb,0,none⟩))/\w'.cell? ⟨w.heap.size,1,none⟩=some (int i64 (cc:Int))/\w'.cell? ⟨w.heap.size,2,none⟩=some (int i64 (k:Int))/\w'.cell? ⟨g.hb,0,none⟩=some (.slice (some ⟨fb,fo,none⟩) h.file.classes.length g.a)/\w'.cell? ⟨fb,fo+cc*2+1,none⟩=some (.slice (some ⟨FB,ff,none⟩) (nth cg h.file.classes cc).fields.length uc)/\w'.cell? ⟨FB,ff+k*2,none⟩=some (int i64 t.kind)/\w'.cell? ⟨FB,ff+k*2+1,none⟩=some (int i64 t.cls)) (by kernel_rfl) ?_ (fun ae=>?_)
 ·exact ⟨z0.out,z1.out,z2.out,z3.out,z4.out,z5.out,z6.out⟩
 iterate 17 (refine tn rfl (by kernel_rfl) (fun _ _ _ h=>h) (by intro _ h;go_split_ands;go_simp<;>with_reducible rfl) ae ?_;try simp only [aS,aN,aT,a0,a1])
 refine wpAnyH_ready (rs:=[17,18]) (by kernel_rfl) (by simp) ?_
 refine AllReadyH.cons rfl (fun K hK=>?_) (AllReadyH.cons rfl (fun K hK=>?_) (AllReadyH.nil))
 ·go_simp
  go_at_call 146
  refine (HH.out.y.useY (by first|exact HB.out.drew|exact HB.out.drew.alloc _) vm.out).mono ?_
  rintro e w2 ⟨rfl,H1,K1⟩
  have bH:=K1.at (Xp.new (Nat.le_refl _) (by first|exact cX w _|exact dZ w _ _)) (by first|exact HL.out|exact (Below.heap_alloc _ _ _ (af HL.out)).trans HL.out)
  have jx:=ab H1.hb
  have jy:=ab (aF bH).1
  have nZ:=ab (aF bH).2
  have hbl:=cK.blw H1
  have K3:=ab (H1.hc0 HA.out)
  have K4:=ab (Bl.cell hbl vC.out)
  have K5:=ab (Bl.cell hbl rM.out)
  have K6:=ab (Bl.cell hbl Dj.out)
  have hsz:=K1.size
  try (have q9:=K1.at (b:=w.heap.size+1) (Xp.new (Nat.le_succ _) (cA w _ _)) (bD w _ _ _ _).2;have p0:=aK q9;have p1:=aI q9;have pz:=ay q9;replace q9:=ab q9)
  replace bH:=ab bH
  replace H1:=ab H1
  clear K1 hbl
  go_wp2_with fail
  refine hK.out _ _ (⟨jx.out,jy.out,nZ.out,K3.out,K4.out,K5.out,K6.out⟩) (fun ah=>?_)
  try simp only [aS,aN,aT,a0,a1]
  refine bI (i:=18) (by kernel_rfl) rfl fun K hK=>?_
  go_wp2_with fail
  refine hK.out _ _ (⟨Bl.cell ((Bl.refl _).alloc _) ah.1,Bl.cell ((Bl.refl _).alloc _) ah.2.1,Bl.cell ((Bl.refl _).alloc _) ah.2.2.1,Bl.cell ((Bl.refl _).alloc _) ah.2.2.2.1,Bl.cell ((Bl.refl _).alloc _) ah.2.2.2.2.1,Bl.cell ((Bl.refl _).alloc _) ah.2.2.2.2.2.1,Bl.cell ((Bl.refl _).alloc _) ah.2.2.2.2.2.2⟩) (fun aX=>?_)
  try simp only [aS,aN,aT,a0,a1]
  refine bI (i:=19) (by kernel_rfl) rfl fun K hK=>?_
  go_wp2_with fail
  refine hK.out _ _ (by first|exact ⟨Bl.cell ((Bl.refl _).alloc _) jx.out,Bl.cell ((Bl.refl _).alloc _) jy.out,Bl.cell ((Bl.refl _).alloc _) nZ.out,Bl.cell ((Bl.refl _).alloc _) K3.out,Bl.cell ((Bl.refl _).alloc _) K4.out,Bl.cell ((Bl.refl _).alloc _) K5.out,Bl.cell ((Bl.refl _).alloc _) K6.out⟩|exact ⟨aO jx.out (by omega),aO jy.out (by omega),aO nZ.out (by omega),aO K3.out (by omega),aO K4.out (by omega),aO K5.out (by omega),aO K6.out (by omega)⟩) (fun dh=>?_)
  try simp only [aS,aN,aT,a0,a1]
  refine wpAnyH_done (by kernel_rfl) ?_ _
  go_wp2
  first
   | (obtain ⟨W,b4,Y,H4,y1,y2,g1,g2,gW,gb⟩:=NX H1 bH (Xp.new (Nat.le_refl _) (cX w _)) (im v);rw [<-gb,<-gW])
   | (obtain ⟨W,b4,Y,H4,y1,y2,g1,g2,gW,gb⟩:=NY (b:=w.heap.size+1) H1 bH (Xp.new (Nat.le_refl _) (dZ w _ _)) (Xp.new (Nat.le_succ _) (cA w _ _)) q9 (by omega) (im v);rw [<-gW,<-gb])
  clear gW gb
  have x0:=ab H4.hb
  have x1:=ab (aF g1).1
  have x2:=ab (aF g1).2
  have x3:=ab (aK g2)
  have x4:=ab (aI g2)
  replace H4:=ab H4
  replace g1:=ab g1
  replace g2:=ab g2
  refine wp_region_held_drew (S:=fun w'=>w'.cell? ⟨a.q,0,none⟩=some (.pointer (some ⟨g.hb,0,none⟩))/\w'.cell? ⟨w.heap.size,1,none⟩=some (int i64 (cc:Int))/\w'.cell? ⟨w.heap.size,2,none⟩=some (int i64 (k:Int))/\w'.cell? ⟨b4,0,none⟩=some (int i64 (im v).kind)/\w'.cell? ⟨b4,1,none⟩=some (int i64 (im v).n)) (by kernel_rfl) ?_ (fun ae=>?_)
  ·exact ⟨x0.out,x1.out,x2.out,x3.out,x4.out⟩
  iterate 12 (refine tn rfl (by kernel_rfl) (fun _ _ _ h=>h) (by intro _ h;go_split_ands;go_simp<;>with_reducible rfl) ae ?_;try simp only [aS,aN,aT,a0,a1])
  refine bI (i:=7) (by kernel_rfl) rfl fun K hK=>?_
  go_simp
  go_at_call 185
  refine (eS (cc:Int) _).mono ?_
  rintro e w5 ⟨rfl,b5⟩
  have d0:=ab (b5.cell ae.1)
  have d1:=ab (b5.cell ae.2.1)
  have d2:=ab (b5.cell ae.2.2.1)
  have d3:=ab (b5.cell ae.2.2.2.1)
  have d4:=ab (b5.cell ae.2.2.2.2)
  have Kj:=ab (ai b5 g1.out)
  have Kk:=ab (ai b5 g2.out)
  replace b5:=ab b5
  go_wp2_with fail
  refine hK.out _ _ (⟨d0.out,d1.out,d2.out,d3.out,d4.out⟩) (fun ah=>?_)
  try simp only [aS,aN,aT,a0,a1]
  refine bI (i:=8) (by kernel_rfl) rfl fun K hK=>?_
  go_simp
  go_at_call 146
  refine (H4.out.useN ((Bl.refl _).drew.trans b5.out) UR.out).mono ?_
  rintro e w6 ⟨rfl,H6⟩
  exact ⟨rfl,cY (s:=0) (ba HS.out) rfl (H6.less.of rfl ⟨rfl,rfl⟩)⟩
 ·go_wp2_with fail
  refine hK.out _ _ (⟨Bl.cell ((Bl.refl _).alloc _) ae.1,Bl.cell ((Bl.refl _).alloc _) ae.2.1,Bl.cell ((Bl.refl _).alloc _) ae.2.2.1,Bl.cell ((Bl.refl _).alloc _) ae.2.2.2.1,Bl.cell ((Bl.refl _).alloc _) ae.2.2.2.2.1,Bl.cell ((Bl.refl _).alloc _) ae.2.2.2.2.2.1,Bl.cell ((Bl.refl _).alloc _) ae.2.2.2.2.2.2⟩) (fun dm=>?_)
  try simp only [aS,aN,aT,a0,a1]
  refine bI (i:=17) (by kernel_rfl) rfl fun K hK=>?_
  go_simp
  go_at_call 146
  refine (HH.out.y.useY (by first|exact HB.out.drew|exact HB.out.drew.alloc _) vm.out).mono ?_
  rintro e w2 ⟨rfl,H1,K1⟩
  have bH:=K1.at (Xp.new (Nat.le_refl _) (by first|exact cX w _|exact dZ w _ _)) (by first|exact HL.out|exact (Below.heap_alloc _ _ _ (af HL.out)).trans HL.out)
  have jx:=ab H1.hb
  have jy:=ab (aF bH).1
  have nZ:=ab (aF bH).2
  have hbl:=cK.blw H1
  have K3:=ab (H1.hc0 HA.out)
  have K4:=ab (Bl.cell hbl vC.out)
  have K5:=ab (Bl.cell hbl rM.out)
  have K6:=ab (Bl.cell hbl Dj.out)
  have hsz:=K1.size
  try (have q9:=K1.at (b:=w.heap.size+1) (Xp.new (Nat.le_succ _) (cA w _ _)) (bD w _ _ _ _).2;have p0:=aK q9;have p1:=aI q9;have pz:=ay q9;replace q9:=ab q9)
  replace bH:=ab bH
  replace H1:=ab H1
  clear K1 hbl
  go_wp2_with fail
  refine hK.out _ _ (⟨jx.out,jy.out,nZ.out,K3.out,K4.out,K5.out,K6.out⟩) (fun eL=>?_)
  try simp only [aS,aN,aT,a0,a1]
  refine bI (i:=19) (by kernel_rfl) rfl fun K hK=>?_
  go_wp2_with fail
  refine hK.out _ _ (by first|exact ⟨Bl.cell ((Bl.refl _).alloc _) jx.out,Bl.cell ((Bl.refl _).alloc _) jy.out,Bl.cell ((Bl.refl _).alloc _) nZ.out,Bl.cell ((Bl.refl _).alloc _) K3.out,Bl.cell ((Bl.refl _).alloc _) K4.out,Bl.cell ((Bl.refl _).alloc _) K5.out,Bl.cell ((Bl.refl _).alloc _) K6.out⟩|exact ⟨aO jx.out (by omega),aO jy.out (by omega),aO nZ.out (by omega),aO K3.out (by omega),aO K4.out (by omega),aO K5.out (by omega),aO K6.out (by omega)⟩) (fun fp=>?_)
  try simp only [aS,aN,aT,a0,a1]
  refine wpAnyH_done (by kernel_rfl) ?_ _
  go_wp2
  first
   | (obtain ⟨W,b4,Y,H4,y1,y2,g1,g2,gW,gb⟩:=NX H1 bH (Xp.new (Nat.le_refl _) (cX w _)) (im v);rw [<-gb,<-gW])
   | (obtain ⟨W,b4,Y,H4,y1,y2,g1,g2,gW,gb⟩:=NY (b:=w.heap.size+1) H1 bH (Xp.new (Nat.le_refl _) (dZ w _ _)) (Xp.new (Nat.le_succ _) (cA w _ _)) q9 (by omega) (im v);rw [<-gW,<-gb])
  clear gW gb
  have x0:=ab H4.hb
  have x1:=ab (aF g1).1
  have x2:=ab (aF g1).2
  have x3:=ab (aK g2)
  have x4:=ab (aI g2)
  replace H4:=ab H4
  replace g1:=ab g1
  replace g2:=ab g2
  refine wp_region_held_drew (S:=fun w'=>w'.cell? ⟨a.q,0,none⟩=some (.pointer (some ⟨g.hb,0,none⟩))/\w'.cell? ⟨w.heap.size,1,none⟩=some (int i64 (cc:Int))/\w'.cell? ⟨w.heap.size,2,none⟩=some (int i64 (k:Int))/\w'.cell? ⟨b4,0,none⟩=some (int i64 (im v).kind)/\w'.cell? ⟨b4,1,none⟩=some (int i64 (im v).n)) (by kernel_rfl) ?_ (fun ae=>?_)
  ·exact ⟨x0.out,x1.out,x2.out,x3.out,x4.out⟩
  iterate 12 (refine tn rfl (by kernel_rfl) (fun _ _ _ h=>h) (by intro _ h;go_split_ands;go_simp<;>with_reducible rfl) ae ?_;try simp only [aS,aN,aT,a0,a1])
  refine bI (i:=7) (by kernel_rfl) rfl fun K hK=>?_
  go_simp
  go_at_call 185
  refine (eS (cc:Int) _).mono ?_
  rintro e w5 ⟨rfl,b5⟩
  have d0:=ab (b5.cell ae.1)
  have d1:=ab (b5.cell ae.2.1)
  have d2:=ab (b5.cell ae.2.2.1)
  have d3:=ab (b5.cell ae.2.2.2.1)
  have d4:=ab (b5.cell ae.2.2.2.2)
  have Kj:=ab (ai b5 g1.out)
  have Kk:=ab (ai b5 g2.out)
  replace b5:=ab b5
  go_wp2_with fail
  refine hK.out _ _ (⟨d0.out,d1.out,d2.out,d3.out,d4.out⟩) (fun ah=>?_)
  try simp only [aS,aN,aT,a0,a1]
  refine bI (i:=8) (by kernel_rfl) rfl fun K hK=>?_
  go_simp
  go_at_call 146
  refine (H4.out.useN ((Bl.refl _).drew.trans b5.out) UR.out).mono ?_
  rintro e w6 ⟨rfl,H6⟩
  exact ⟨rfl,cY (s:=0) (ba HS.out) rfl (H6.less.of rfl ⟨rfl,rfl⟩)⟩
theorem tu (args:List Int) (Q:Option Addr) (nl q:Nat) (w:World) (H:RX 1 X wx w0 g w h qs a c) (hs:h.stops=false) (hl:c.stk.length<=1000) (F:Fix w0 g h) (iD:h.objs.length<=100) (hst:∀v∈c.stk,v.kind=3->-1<=v.n/\v.n<h.objs.length) (jC:0<=ia/\ia<h.file.classes.length/\0<=ib/\ib<(nth cg h.file.classes ia.toNat).fields.length) (l1:List Va) (v:Va) (h0:c.stk=l1++[v]) (jz:h.of v (dW h.file.classes ia ib)=true) (l:List Va) (u:Va) (mZ:l1=l++[u]) (ve:h.of u ⟨3,ia⟩=true) (LA:u.n<0) :
  Calls Tryz.prog 153 #[.pointer (some ⟨a.q,0,none⟩),.agg #[int i64 16,int i64 ia,int i64 ib,int i64 ic,int i64 ii,.slice Q nl q]] w fun e w'=>bT X wx w0 g qs a c ⟨h.raise 1,c,0⟩ e w':=by
 obtain ⟨cc,rfl⟩:∃cc:Nat,ia=cc:=⟨ia.toNat,by omega⟩
 obtain ⟨k,rfl⟩:∃k:Nat,ib=k:=⟨ib.toNat,by omega⟩
 rw [Int.toNat_natCast] at jC
 have hc:cc<h.file.classes.length:=by omega
 have sx:k<(nth cg h.file.classes cc).fields.length:=by omega
 have pA:=jz
 rw [gP] at jz
 have ho:=ba hs
 have HH:=ab H
 have HS:=ab hs
 have HB:Hid (Bl w (w.alloc (.cells #[int i64 16,int i64 (cc:Int),int i64 (k:Int),int i64 ic,int i64 ii,.slice Q nl q] 55))):=(Bl.refl w).alloc _
 have HL:=ab (aD w #[int i64 16,int i64 (cc:Int),int i64 (k:Int),int i64 ic,int i64 ii,.slice Q nl q] 55)
 have z0:=ab ((H.y.bl HB.out).hb)
 have z1:=ab (aF HL.out).1
 have z2:=ab (aF HL.out).2
 obtain ⟨fb,fo,FB,ff,uc,hA,y0,m1,m2,y1,y2⟩:=iu F.cls hc sx
 have lE:Bl w0 w:=by
  obtain ⟨vc,vo,vx,vs,l,H⟩:=H
  exact H.rh.bl
 have HA:=ab hA
 have z3:Hid ((w.alloc (.cells #[int i64 16,int i64 (cc:Int),int i64 (k:Int),int i64 ic,int i64 ii,.slice Q nl q] 55)).cell? ⟨g.hb,0,none⟩=some (.slice (some ⟨fb,fo,none⟩) h.file.classes.length g.a)):=by
  obtain ⟨vc,vo,vx,vs,l,H⟩:=H
  rw [<-hA]
  exact Bl.cell HB.out H.rh.heapCells.1
 have UQ:g.hb<w.heap.size:=by
  obtain ⟨vc,vo,vx,vs,l,H⟩:=H
  exact af H.rh.hp
 have Ng:=H.qlt
 have G6:=bC (Bl.cell lE y0)
 have QK:=bC (Bl.cell lE y1)
 have z4:=ab (Bl.cell HB.out (Bl.cell lE y0))
 have z5:=ab (Bl.cell HB.out (Bl.cell lE y1))
 have z6:=ab (Bl.cell HB.out (Bl.cell lE y2))
 have rA:Hid (∀X wx w,RX 1 X wx w0 g w h qs a c->Calls Tryz.prog 146 #[.pointer (some ⟨a.q,0,none⟩),jD (nth cN (nth cg h.file.classes cc).fields k)] w fun e w'=>e=.returned (cn (im v))/\RX 1 X wx w0 g w' h qs a { c with stk:=l1 }):=fun X wx w H=>dV 1 X wx w0 g h qs a c l1 v _ w H F iD h0 (hst v (by rw [h0];simp)) jz
 obtain ⟨t,ht⟩:∃t,nth cN (nth cg h.file.classes cc).fields k=t:=⟨_,rfl⟩
 rw [ht] at rA z5 z6 y1 y2
 have vm:=rA
 have vC:=ab y0
 have rM:=ab y1
 have Dj:=ab y2
 have hc0:(0:Int)<=(cc:Int):=by omega
 have Ey:(cc:Int)<(h.file.classes.length:Int):=by omega
 have zB:(0:Int)<=(k:Int):=by omega
 have Mj:(k:Int)<((nth cg h.file.classes cc).fields.length:Int):=by omega
 have Hb:=hst u (by rw [h0,mZ];simp)
 have Hc:u.kind=3:=mF ve
 have QL:=Hb Hc
 have IP:Hid (∀X wx w,RX 1 X wx w0 g w h qs a { c with stk:=l1 }->Calls Tryz.prog 146 #[.pointer (some ⟨a.q,0,none⟩),jD ⟨3,(cc:Int)⟩] w fun e w'=>e=.returned (cn (im u))/\RX 1 X wx w0 g w' h qs a { c with stk:=l }):=fun X wx w H=>dV 1 X wx w0 g h qs a { c with stk:=l1 } l u ⟨3,(cc:Int)⟩ w H F iD mZ Hb ve
 obtain ⟨E,hE⟩:∃E,bM h=E:=⟨_,rfl⟩
 have IQ:Hid (∃ch,E=.panicked ch):=by
  rw [<-hE];unfold bM;split<;>exact ⟨_,rfl⟩
 have Np:Hid (∀X wx w,RX 1 X wx w0 g w h qs a { c with stk:=l }->Calls Tryz.prog 184 #[.pointer (some ⟨g.hb,0,none⟩),cn (im u),int i64 (cc:Int),int i64 (k:Int),cn (im v)] w fun e w'=>e=E/\RX 1 X wx w0 g w' (h.raise 1) qs a { c with stk:=l }):=fun X wx w H=>hE▸BP 1 X wx w0 g h qs a { c with stk:=l } u (im v) cc k w H iD ho Hc (by omega)
 have HD:Hid (∀w',RS 0 X wx w0 g w' (h.raise 1) qs a c->bT X wx w0 g qs a c ⟨h.raise 1,c,0⟩ E w'):=fun w' H=>hE▸jb hs rfl H
 generalize im u=UI at IP Np
 clear H hs F hst jC hA y0 y1 y2 m1 m2 lE jz pA rA ht h0 mZ ve LA Hb Hc QL hE
 obtain ⟨ch,rfl⟩:=IQ.out
 go_enter Tryz.func153,Tryz.ntmps153
 go_wp2
 refine wp_region_held_drew (S:=fun w'=>w'.cell? ⟨a.q,0,none⟩=some (.pointer (some ⟨g.hb,0,none⟩))/\w'.cell? ⟨w.heap.size,1,none⟩=some (int i64 (cc:Int))/\w'.cell? ⟨w.heap.size,2,none⟩=some (int i64 (k:Int))/\w'.cell? ⟨g.hb,0,none⟩=some (.slice (some ⟨fb,fo,none⟩) h.file.classes.length g.a)/\w'.cell? ⟨fb,fo+cc*2+1,none⟩=some (.slice (some ⟨FB,ff,none⟩) (nth cg h.file.classes cc).fields.length uc)/\w'.cell? ⟨FB,ff+k*2,none⟩=some (int i64 t.kind)/\w'.cell? ⟨FB,ff+k*2+1,none⟩=some (int i64 t.cls)) (by kernel_rfl) ?_ (fun ae=>?_)
 ·exact ⟨z0.out,z1.out,z2.out,z3.out,z4.out,z5.out,z6.out⟩
 iterate 17 (refine tn rfl (by kernel_rfl) (fun _ _ _ h=>h) (by intro _ h;go_split_ands;go_simp<;>with_reducible rfl) ae ?_;try simp only [aS,aN,aT,a0,a1])
 refine wpAnyH_ready (rs:=[17,18]) (by kernel_rfl) (by simp) ?_
 refine AllReadyH.cons rfl (fun K hK=>?_) (AllReadyH.cons rfl (fun K hK=>?_) (AllReadyH.nil))
 ·go_simp
  go_at_call 146
  refine (HH.out.y.useY (by first|exact HB.out.drew|exact HB.out.drew.alloc _) vm.out).mono ?_
  rintro e w2 ⟨rfl,H1,K1⟩
  have bH:=K1.at (Xp.new (Nat.le_refl _) (by first|exact cX w _|exact dZ w _ _)) (by first|exact HL.out|exact (Below.heap_alloc _ _ _ (af HL.out)).trans HL.out)
  have jx:=ab H1.hb
  have jy:=ab (aF bH).1
  have nZ:=ab (aF bH).2
  have hbl:=cK.blw H1
  have K3:=ab (H1.hc0 HA.out)
  have K4:=ab (Bl.cell hbl vC.out)
  have K5:=ab (Bl.cell hbl rM.out)
  have K6:=ab (Bl.cell hbl Dj.out)
  have hsz:=K1.size
  try (have q9:=K1.at (b:=w.heap.size+1) (Xp.new (Nat.le_succ _) (cA w _ _)) (bD w _ _ _ _).2;have p0:=aK q9;have p1:=aI q9;have pz:=ay q9;replace q9:=ab q9)
  replace bH:=ab bH
  replace H1:=ab H1
  clear K1 hbl
  go_wp2_with fail
  refine hK.out _ _ (⟨jx.out,jy.out,nZ.out,K3.out,K4.out,K5.out,K6.out⟩) (fun ah=>?_)
  try simp only [aS,aN,aT,a0,a1]
  refine bI (i:=18) (by kernel_rfl) rfl fun K hK=>?_
  go_wp2_with fail
  refine hK.out _ _ (⟨Bl.cell ((Bl.refl _).alloc _) ah.1,Bl.cell ((Bl.refl _).alloc _) ah.2.1,Bl.cell ((Bl.refl _).alloc _) ah.2.2.1,Bl.cell ((Bl.refl _).alloc _) ah.2.2.2.1,Bl.cell ((Bl.refl _).alloc _) ah.2.2.2.2.1,Bl.cell ((Bl.refl _).alloc _) ah.2.2.2.2.2.1,Bl.cell ((Bl.refl _).alloc _) ah.2.2.2.2.2.2⟩) (fun aX=>?_)
  try simp only [aS,aN,aT,a0,a1]
  refine bI (i:=19) (by kernel_rfl) rfl fun K hK=>?_
  go_wp2_with fail
  refine hK.out _ _ (by first|exact ⟨Bl.cell ((Bl.refl _).alloc _) jx.out,Bl.cell ((Bl.refl _).alloc _) jy.out,Bl.cell ((Bl.refl _).alloc _) nZ.out,Bl.cell ((Bl.refl _).alloc _) K3.out,Bl.cell ((Bl.refl _).alloc _) K4.out,Bl.cell ((Bl.refl _).alloc _) K5.out,Bl.cell ((Bl.refl _).alloc _) K6.out⟩|exact ⟨aO jx.out (by omega),aO jy.out (by omega),aO nZ.out (by omega),aO K3.out (by omega),aO K4.out (by omega),aO K5.out (by omega),aO K6.out (by omega)⟩) (fun dh=>?_)
  try simp only [aS,aN,aT,a0,a1]
  refine wpAnyH_done (by kernel_rfl) ?_ _
  go_wp2
  first
   | (obtain ⟨W,b4,Y,H4,y1,y2,g1,g2,gW,gb⟩:=NX H1 bH (Xp.new (Nat.le_refl _) (cX w _)) (im v);rw [<-gb,<-gW])
   | (obtain ⟨W,b4,Y,H4,y1,y2,g1,g2,gW,gb⟩:=NY (b:=w.heap.size+1) H1 bH (Xp.new (Nat.le_refl _) (dZ w _ _)) (Xp.new (Nat.le_succ _) (cA w _ _)) q9 (by omega) (im v);rw [<-gW,<-gb])
  clear gW gb
  have x0:=ab H4.hb
  have x1:=ab (aF g1).1
  have x2:=ab (aF g1).2
  have x3:=ab (aK g2)
  have x4:=ab (aI g2)
  replace H4:=ab H4
  replace g1:=ab g1
  replace g2:=ab g2
  refine wp_region_held_drew (S:=fun w'=>w'.cell? ⟨a.q,0,none⟩=some (.pointer (some ⟨g.hb,0,none⟩))/\w'.cell? ⟨w.heap.size,1,none⟩=some (int i64 (cc:Int))/\w'.cell? ⟨w.heap.size,2,none⟩=some (int i64 (k:Int))/\w'.cell? ⟨b4,0,none⟩=some (int i64 (im v).kind)/\w'.cell? ⟨b4,1,none⟩=some (int i64 (im v).n)) (by kernel_rfl) ?_ (fun ae=>?_)
  ·exact ⟨x0.out,x1.out,x2.out,x3.out,x4.out⟩
  iterate 12 (refine tn rfl (by kernel_rfl) (fun _ _ _ h=>h) (by intro _ h;go_split_ands;go_simp<;>with_reducible rfl) ae ?_;try simp only [aS,aN,aT,a0,a1])
  refine bI (i:=7) (by kernel_rfl) rfl fun K hK=>?_
  go_simp
  go_at_call 185
  refine (eS (cc:Int) _).mono ?_
  rintro e w5 ⟨rfl,b5⟩
  have d0:=ab (b5.cell ae.1)
  have d1:=ab (b5.cell ae.2.1)
  have d2:=ab (b5.cell ae.2.2.1)
  have d3:=ab (b5.cell ae.2.2.2.1)
  have d4:=ab (b5.cell ae.2.2.2.2)
  have Kj:=ab (ai b5 g1.out)
  have Kk:=ab (ai b5 g2.out)
  replace b5:=ab b5
  go_wp2_with fail
  refine hK.out _ _ (⟨d0.out,d1.out,d2.out,d3.out,d4.out⟩) (fun ah=>?_)
  try simp only [aS,aN,aT,a0,a1]
  refine bI (i:=8) (by kernel_rfl) rfl fun K hK=>?_
  go_simp
  go_at_call 146
  refine (H4.out.useY ((Bl.refl _).drew.trans b5.out) IP.out).mono ?_
  rintro e w6 ⟨rfl,H6,GO⟩
  have i1:=GO.at (Xp.old y1) Kj.out
  have i2:=GO.at (Xp.old y2) Kk.out
  have f0:=ab H6.hb
  have f1:=ab (aF i1).1
  have f2:=ab (aF i1).2
  have f3:=ab (aK i2)
  have f4:=ab (aI i2)
  replace i1:=ab i1
  replace i2:=ab i2
  replace H6:=ab H6
  go_wp2_with fail
  refine hK.out _ _ (⟨f0.out,f1.out,f2.out,f3.out,f4.out⟩) (fun aX=>?_)
  try simp only [aS,aN,aT,a0,a1]
  refine bI (i:=14) (by kernel_rfl) rfl fun K hK=>?_
  go_simp
  go_at_call 184
  refine (H6.out.useY (Bl.refl _) Np.out).mono ?_
  rintro e w7 ⟨rfl,H7,K7⟩
  exact ⟨rfl,HD.out _ (H7.x.less.rs.of rfl ⟨rfl,rfl⟩)⟩
 ·go_wp2_with fail
  refine hK.out _ _ (⟨Bl.cell ((Bl.refl _).alloc _) ae.1,Bl.cell ((Bl.refl _).alloc _) ae.2.1,Bl.cell ((Bl.refl _).alloc _) ae.2.2.1,Bl.cell ((Bl.refl _).alloc _) ae.2.2.2.1,Bl.cell ((Bl.refl _).alloc _) ae.2.2.2.2.1,Bl.cell ((Bl.refl _).alloc _) ae.2.2.2.2.2.1,Bl.cell ((Bl.refl _).alloc _) ae.2.2.2.2.2.2⟩) (fun dm=>?_)
  try simp only [aS,aN,aT,a0,a1]
  refine bI (i:=17) (by kernel_rfl) rfl fun K hK=>?_
  go_simp
  go_at_call 146
  refine (HH.out.y.useY (by first|exact HB.out.drew|exact HB.out.drew.alloc _) vm.out).mono ?_
  rintro e w2 ⟨rfl,H1,K1⟩
  have bH:=K1.at (Xp.new (Nat.le_refl _) (by first|exact cX w _|exact dZ w _ _)) (by first|exact HL.out|exact (Below.heap_alloc _ _ _ (af HL.out)).trans HL.out)
  have jx:=ab H1.hb
  have jy:=ab (aF bH).1
  have nZ:=ab (aF bH).2
  have hbl:=cK.blw H1
  have K3:=ab (H1.hc0 HA.out)
  have K4:=ab (Bl.cell hbl vC.out)
  have K5:=ab (Bl.cell hbl rM.out)
  have K6:=ab (Bl.cell hbl Dj.out)
  have hsz:=K1.size
  try (have q9:=K1.at (b:=w.heap.size+1) (Xp.new (Nat.le_succ _) (cA w _ _)) (bD w _ _ _ _).2;have p0:=aK q9;have p1:=aI q9;have pz:=ay q9;replace q9:=ab q9)
  replace bH:=ab bH
  replace H1:=ab H1
  clear K1 hbl
  go_wp2_with fail
  refine hK.out _ _ (⟨jx.out,jy.out,nZ.out,K3.out,K4.out,K5.out,K6.out⟩) (fun eL=>?_)
  try simp only [aS,aN,aT,a0,a1]
  refine bI (i:=19) (by kernel_rfl) rfl fun K hK=>?_
  go_wp2_with fail
  refine hK.out _ _ (by first|exact ⟨Bl.cell ((Bl.refl _).alloc _) jx.out,Bl.cell ((Bl.refl _).alloc _) jy.out,Bl.cell ((Bl.refl _).alloc _) nZ.out,Bl.cell ((Bl.refl _).alloc _) K3.out,Bl.cell ((Bl.refl _).alloc _) K4.out,Bl.cell ((Bl.refl _).alloc _) K5.out,Bl.cell ((Bl.refl _).alloc _) K6.out⟩|exact ⟨aO jx.out (by omega),aO jy.out (by omega),aO nZ.out (by omega),aO K3.out (by omega),aO K4.out (by omega),aO K5.out (by omega),aO K6.out (by omega)⟩) (fun fp=>?_)
  try simp only [aS,aN,aT,a0,a1]
  refine wpAnyH_done (by kernel_rfl) ?_ _
  go_wp2
  first
   | (obtain ⟨W,b4,Y,H4,y1,y2,g1,g2,gW,gb⟩:=NX H1 bH (Xp.new (Nat.le_refl _) (cX w _)) (im v);rw [<-gb,<-gW])
   | (obtain ⟨W,b4,Y,H4,y1,y2,g1,g2,gW,gb⟩:=NY (b:=w.heap.size+1) H1 bH (Xp.new (Nat.le_refl _) (dZ w _ _)) (Xp.new (Nat.le_succ _) (cA w _ _)) q9 (by omega) (im v);rw [<-gW,<-gb])
  clear gW gb
  have x0:=ab H4.hb
  have x1:=ab (aF g1).1
  have x2:=ab (aF g1).2
  have x3:=ab (aK g2)
  have x4:=ab (aI g2)
  replace H4:=ab H4
  replace g1:=ab g1
  replace g2:=ab g2
  refine wp_region_held_drew (S:=fun w'=>w'.cell? ⟨a.q,0,none⟩=some (.pointer (some ⟨g.hb,0,none⟩))/\w'.cell? ⟨w.heap.size,1,none⟩=some (int i64 (cc:Int))/\w'.cell? ⟨w.heap.size,2,none⟩=some (int i64 (k:Int))/\w'.cell? ⟨b4,0,none⟩=some (int i64 (im v).kind)/\w'.cell? ⟨b4,1,none⟩=some (int i64 (im v).n)) (by kernel_rfl) ?_ (fun ae=>?_)
  ·exact ⟨x0.out,x1.out,x2.out,x3.out,x4.out⟩
  iterate 12 (refine tn rfl (by kernel_rfl) (fun _ _ _ h=>h) (by intro _ h;go_split_ands;go_simp<;>with_reducible rfl) ae ?_;try simp only [aS,aN,aT,a0,a1])
  refine bI (i:=7) (by kernel_rfl) rfl fun K hK=>?_
  go_simp
  go_at_call 185
  refine (eS (cc:Int) _).mono ?_
  rintro e w5 ⟨rfl,b5⟩
  have d0:=ab (b5.cell ae.1)
  have d1:=ab (b5.cell ae.2.1)
  have d2:=ab (b5.cell ae.2.2.1)
  have d3:=ab (b5.cell ae.2.2.2.1)
  have d4:=ab (b5.cell ae.2.2.2.2)
  have Kj:=ab (ai b5 g1.out)
  have Kk:=ab (ai b5 g2.out)
  replace b5:=ab b5
  go_wp2_with fail
  refine hK.out _ _ (⟨d0.out,d1.out,d2.out,d3.out,d4.out⟩) (fun ah=>?_)
  try simp only [aS,aN,aT,a0,a1]
  refine bI (i:=8) (by kernel_rfl) rfl fun K hK=>?_
  go_simp
  go_at_call 146
  refine (H4.out.useY ((Bl.refl _).drew.trans b5.out) IP.out).mono ?_
  rintro e w6 ⟨rfl,H6,GO⟩
  have i1:=GO.at (Xp.old y1) Kj.out
  have i2:=GO.at (Xp.old y2) Kk.out
  have f0:=ab H6.hb
  have f1:=ab (aF i1).1
  have f2:=ab (aF i1).2
  have f3:=ab (aK i2)
  have f4:=ab (aI i2)
  replace i1:=ab i1
  replace i2:=ab i2
  replace H6:=ab H6
  go_wp2_with fail
  refine hK.out _ _ (⟨f0.out,f1.out,f2.out,f3.out,f4.out⟩) (fun aX=>?_)
  try simp only [aS,aN,aT,a0,a1]
  refine bI (i:=14) (by kernel_rfl) rfl fun K hK=>?_
  go_simp
  go_at_call 184
  refine (H6.out.useY (Bl.refl _) Np.out).mono ?_
  rintro e w7 ⟨rfl,H7,K7⟩
  exact ⟨rfl,HD.out _ (H7.x.less.rs.of rfl ⟨rfl,rfl⟩)⟩
theorem vf (args:List Int) (Q:Option Addr) (nl q:Nat) (w:World) (H:RX 1 X wx w0 g w h qs a c) (hs:h.stops=false) (hl:c.stk.length<=1000) (F:Fix w0 g h) (iD:h.objs.length<=100) (hst:∀v∈c.stk,v.kind=3->-1<=v.n/\v.n<h.objs.length) (jC:0<=ia/\ia<h.file.classes.length/\0<=ib/\ib<(nth cg h.file.classes ia.toNat).fields.length) (l1:List Va) (v:Va) (h0:c.stk=l1++[v]) (jz:h.of v (dW h.file.classes ia ib)=true) (l:List Va) (u:Va) (mZ:l1=l++[u]) (ve:h.of u ⟨3,ia⟩=true) (o j:Nat) (NZ:u.n=o) (vX:o<h.objs.length) (hj:j<(nth cB h.objs o).held.length) (US:(nth cH (nth cB h.objs o).held j).cls=ia) (UT:(nth cH (nth cB h.objs o).held j).fld=ib) (Nu:h.sh.steps<=100000) :
  Calls Tryz.prog 153 #[.pointer (some ⟨a.q,0,none⟩),.agg #[int i64 16,int i64 ia,int i64 ib,int i64 ic,int i64 ii,.slice Q nl q]] w fun e w'=>bT X wx w0 g qs a c ⟨h.setV o j v,{ c with stk:=l },c.pc+1⟩ e w':=by
 obtain ⟨cc,rfl⟩:∃cc:Nat,ia=cc:=⟨ia.toNat,by omega⟩
 obtain ⟨k,rfl⟩:∃k:Nat,ib=k:=⟨ib.toNat,by omega⟩
 rw [Int.toNat_natCast] at jC
 have hc:cc<h.file.classes.length:=by omega
 have sx:k<(nth cg h.file.classes cc).fields.length:=by omega
 have pA:=jz
 rw [gP] at jz
 have ho:=ba hs
 have HH:=ab H
 have HS:=ab hs
 have HB:Hid (Bl w (w.alloc (.cells #[int i64 16,int i64 (cc:Int),int i64 (k:Int),int i64 ic,int i64 ii,.slice Q nl q] 55))):=(Bl.refl w).alloc _
 have HL:=ab (aD w #[int i64 16,int i64 (cc:Int),int i64 (k:Int),int i64 ic,int i64 ii,.slice Q nl q] 55)
 have z0:=ab ((H.y.bl HB.out).hb)
 have z1:=ab (aF HL.out).1
 have z2:=ab (aF HL.out).2
 obtain ⟨fb,fo,FB,ff,uc,hA,y0,m1,m2,y1,y2⟩:=iu F.cls hc sx
 have lE:Bl w0 w:=by
  obtain ⟨vc,vo,vx,vs,l,H⟩:=H
  exact H.rh.bl
 have HA:=ab hA
 have z3:Hid ((w.alloc (.cells #[int i64 16,int i64 (cc:Int),int i64 (k:Int),int i64 ic,int i64 ii,.slice Q nl q] 55)).cell? ⟨g.hb,0,none⟩=some (.slice (some ⟨fb,fo,none⟩) h.file.classes.length g.a)):=by
  obtain ⟨vc,vo,vx,vs,l,H⟩:=H
  rw [<-hA]
  exact Bl.cell HB.out H.rh.heapCells.1
 have UQ:g.hb<w.heap.size:=by
  obtain ⟨vc,vo,vx,vs,l,H⟩:=H
  exact af H.rh.hp
 have Ng:=H.qlt
 have G6:=bC (Bl.cell lE y0)
 have QK:=bC (Bl.cell lE y1)
 have z4:=ab (Bl.cell HB.out (Bl.cell lE y0))
 have z5:=ab (Bl.cell HB.out (Bl.cell lE y1))
 have z6:=ab (Bl.cell HB.out (Bl.cell lE y2))
 have rA:Hid (∀X wx w,RX 1 X wx w0 g w h qs a c->Calls Tryz.prog 146 #[.pointer (some ⟨a.q,0,none⟩),jD (nth cN (nth cg h.file.classes cc).fields k)] w fun e w'=>e=.returned (cn (im v))/\RX 1 X wx w0 g w' h qs a { c with stk:=l1 }):=fun X wx w H=>dV 1 X wx w0 g h qs a c l1 v _ w H F iD h0 (hst v (by rw [h0];simp)) jz
 obtain ⟨t,ht⟩:∃t,nth cN (nth cg h.file.classes cc).fields k=t:=⟨_,rfl⟩
 rw [ht] at rA z5 z6 y1 y2
 have vm:=rA
 have vC:=ab y0
 have rM:=ab y1
 have Dj:=ab y2
 have hc0:(0:Int)<=(cc:Int):=by omega
 have Ey:(cc:Int)<(h.file.classes.length:Int):=by omega
 have zB:(0:Int)<=(k:Int):=by omega
 have Mj:(k:Int)<((nth cg h.file.classes cc).fields.length:Int):=by omega
 have Hb:=hst u (by rw [h0,mZ];simp)
 have Hc:u.kind=3:=mF ve
 have QL:=Hb Hc
 have IP:Hid (∀X wx w,RX 1 X wx w0 g w h qs a { c with stk:=l1 }->Calls Tryz.prog 146 #[.pointer (some ⟨a.q,0,none⟩),jD ⟨3,(cc:Int)⟩] w fun e w'=>e=.returned (cn (im u))/\RX 1 X wx w0 g w' h qs a { c with stk:=l }):=fun X wx w H=>dV 1 X wx w0 g h qs a { c with stk:=l1 } l u ⟨3,(cc:Int)⟩ w H F iD mZ Hb ve
 obtain ⟨n1,n2,n3⟩:=tA F.may hc
 have QM:v.kind=(dW h.file.classes (cc:Int) (k:Int)).kind:=by
  unfold Hp.of at pA
  rw [Bool.and_eq_true] at pA
  exact of_decide_eq_true pA.1
 have Ls:im u=⟨3,(o:Int)+1⟩:=by rw [gp Hc,NZ]
 have Np:Hid (∀X wx w,RX 1 X wx w0 g w h qs a { c with stk:=l }->Calls Tryz.prog 184 #[.pointer (some ⟨g.hb,0,none⟩),cn (im u),int i64 (cc:Int),int i64 (k:Int),cn (im v)] w fun e w'=>e=.returned (.tuple #[])/\RX 0 X wx w0 g w' (h.setV o j v) qs a { c with stk:=l }):=fun X wx w H=>Ls.symm▸BO X wx w0 g h qs a { c with stk:=l } o j cc k v w H vX iD Nu hj US UT (by omega) (by omega) QM
 have UU:Hid ((h.setV o j v).stops=false):=hs
 generalize im u=UI at IP Np
 clear H hs F hst jC hA y0 y1 y2 m1 m2 lE jz pA rA ht h0 mZ ve Hb Hc QL n1 n2 n3 QM Ls NZ vX hj US UT Nu
 go_enter Tryz.func153,Tryz.ntmps153
 go_wp2
 refine wp_region_held_drew (S:=fun w'=>w'.cell? ⟨a.q,0,none⟩=some (.pointer (some ⟨g.hb,0,none⟩))/\w'.cell? ⟨w.heap.size,1,none⟩=some (int i64 (cc:Int))/\w'.cell? ⟨w.heap.size,2,none⟩=some (int i64 (k:Int))/\w'.cell? ⟨g.hb,0,none⟩=some (.slice (some ⟨fb,fo,none⟩) h.file.classes.length g.a)/\w'.cell? ⟨fb,fo+cc*2+1,none⟩=some (.slice (some ⟨FB,ff,none⟩) (nth cg h.file.classes cc).fields.length uc)/\w'.cell? ⟨FB,ff+k*2,none⟩=some (int i64 t.kind)/\w'.cell? ⟨FB,ff+k*2+1,none⟩=some (int i64 t.cls)) (by kernel_rfl) ?_ (fun ae=>?_)
 ·exact ⟨z0.out,z1.out,z2.out,z3.out,z4.out,z5.out,z6.out⟩
 iterate 17 (refine tn rfl (by kernel_rfl) (fun _ _ _ h=>h) (by intro _ h;go_split_ands;go_simp<;>with_reducible rfl) ae ?_;try simp only [aS,aN,aT,a0,a1])
 refine wpAnyH_ready (rs:=[17,18]) (by kernel_rfl) (by simp) ?_
 refine AllReadyH.cons rfl (fun K hK=>?_) (AllReadyH.cons rfl (fun K hK=>?_) (AllReadyH.nil))
 ·go_simp
  go_at_call 146
  refine (HH.out.y.useY (by first|exact HB.out.drew|exact HB.out.drew.alloc _) vm.out).mono ?_
  rintro e w2 ⟨rfl,H1,K1⟩
  have bH:=K1.at (Xp.new (Nat.le_refl _) (by first|exact cX w _|exact dZ w _ _)) (by first|exact HL.out|exact (Below.heap_alloc _ _ _ (af HL.out)).trans HL.out)
  have jx:=ab H1.hb
  have jy:=ab (aF bH).1
  have nZ:=ab (aF bH).2
  have hbl:=cK.blw H1
  have K3:=ab (H1.hc0 HA.out)
  have K4:=ab (Bl.cell hbl vC.out)
  have K5:=ab (Bl.cell hbl rM.out)
  have K6:=ab (Bl.cell hbl Dj.out)
  have hsz:=K1.size
  try (have q9:=K1.at (b:=w.heap.size+1) (Xp.new (Nat.le_succ _) (cA w _ _)) (bD w _ _ _ _).2;have p0:=aK q9;have p1:=aI q9;have pz:=ay q9;replace q9:=ab q9)
  replace bH:=ab bH
  replace H1:=ab H1
  clear K1 hbl
  go_wp2_with fail
  refine hK.out _ _ (⟨jx.out,jy.out,nZ.out,K3.out,K4.out,K5.out,K6.out⟩) (fun ah=>?_)
  try simp only [aS,aN,aT,a0,a1]
  refine bI (i:=18) (by kernel_rfl) rfl fun K hK=>?_
  go_wp2_with fail
  refine hK.out _ _ (⟨Bl.cell ((Bl.refl _).alloc _) ah.1,Bl.cell ((Bl.refl _).alloc _) ah.2.1,Bl.cell ((Bl.refl _).alloc _) ah.2.2.1,Bl.cell ((Bl.refl _).alloc _) ah.2.2.2.1,Bl.cell ((Bl.refl _).alloc _) ah.2.2.2.2.1,Bl.cell ((Bl.refl _).alloc _) ah.2.2.2.2.2.1,Bl.cell ((Bl.refl _).alloc _) ah.2.2.2.2.2.2⟩) (fun aX=>?_)
  try simp only [aS,aN,aT,a0,a1]
  refine bI (i:=19) (by kernel_rfl) rfl fun K hK=>?_
  go_wp2_with fail
  refine hK.out _ _ (by first|exact ⟨Bl.cell ((Bl.refl _).alloc _) jx.out,Bl.cell ((Bl.refl _).alloc _) jy.out,Bl.cell ((Bl.refl _).alloc _) nZ.out,Bl.cell ((Bl.refl _).alloc _) K3.out,Bl.cell ((Bl.refl _).alloc _) K4.out,Bl.cell ((Bl.refl _).alloc _) K5.out,Bl.cell ((Bl.refl _).alloc _) K6.out⟩|exact ⟨aO jx.out (by omega),aO jy.out (by omega),aO nZ.out (by omega),aO K3.out (by omega),aO K4.out (by omega),aO K5.out (by omega),aO K6.out (by omega)⟩) (fun dh=>?_)
  try simp only [aS,aN,aT,a0,a1]
  refine wpAnyH_done (by kernel_rfl) ?_ _
  go_wp2
  first
   | (obtain ⟨W,b4,Y,H4,y1,y2,g1,g2,gW,gb⟩:=NX H1 bH (Xp.new (Nat.le_refl _) (cX w _)) (im v);rw [<-gb,<-gW])
   | (obtain ⟨W,b4,Y,H4,y1,y2,g1,g2,gW,gb⟩:=NY (b:=w.heap.size+1) H1 bH (Xp.new (Nat.le_refl _) (dZ w _ _)) (Xp.new (Nat.le_succ _) (cA w _ _)) q9 (by omega) (im v);rw [<-gW,<-gb])
  clear gW gb
  have x0:=ab H4.hb
  have x1:=ab (aF g1).1
  have x2:=ab (aF g1).2
  have x3:=ab (aK g2)
  have x4:=ab (aI g2)
  replace H4:=ab H4
  replace g1:=ab g1
  replace g2:=ab g2
  refine wp_region_held_drew (S:=fun w'=>w'.cell? ⟨a.q,0,none⟩=some (.pointer (some ⟨g.hb,0,none⟩))/\w'.cell? ⟨w.heap.size,1,none⟩=some (int i64 (cc:Int))/\w'.cell? ⟨w.heap.size,2,none⟩=some (int i64 (k:Int))/\w'.cell? ⟨b4,0,none⟩=some (int i64 (im v).kind)/\w'.cell? ⟨b4,1,none⟩=some (int i64 (im v).n)) (by kernel_rfl) ?_ (fun ae=>?_)
  ·exact ⟨x0.out,x1.out,x2.out,x3.out,x4.out⟩
  iterate 12 (refine tn rfl (by kernel_rfl) (fun _ _ _ h=>h) (by intro _ h;go_split_ands;go_simp<;>with_reducible rfl) ae ?_;try simp only [aS,aN,aT,a0,a1])
  refine bI (i:=7) (by kernel_rfl) rfl fun K hK=>?_
  go_simp
  go_at_call 185
  refine (eS (cc:Int) _).mono ?_
  rintro e w5 ⟨rfl,b5⟩
  have d0:=ab (b5.cell ae.1)
  have d1:=ab (b5.cell ae.2.1)
  have d2:=ab (b5.cell ae.2.2.1)
  have d3:=ab (b5.cell ae.2.2.2.1)
  have d4:=ab (b5.cell ae.2.2.2.2)
  have Kj:=ab (ai b5 g1.out)
  have Kk:=ab (ai b5 g2.out)
  replace b5:=ab b5
  go_wp2_with fail
  refine hK.out _ _ (⟨d0.out,d1.out,d2.out,d3.out,d4.out⟩) (fun ah=>?_)
  try simp only [aS,aN,aT,a0,a1]
  refine bI (i:=8) (by kernel_rfl) rfl fun K hK=>?_
  go_simp
  go_at_call 146
  refine (H4.out.useY ((Bl.refl _).drew.trans b5.out) IP.out).mono ?_
  rintro e w6 ⟨rfl,H6,GO⟩
  have i1:=GO.at (Xp.old y1) Kj.out
  have i2:=GO.at (Xp.old y2) Kk.out
  have f0:=ab H6.hb
  have f1:=ab (aF i1).1
  have f2:=ab (aF i1).2
  have f3:=ab (aK i2)
  have f4:=ab (aI i2)
  replace i1:=ab i1
  replace i2:=ab i2
  replace H6:=ab H6
  go_wp2_with fail
  refine hK.out _ _ (⟨f0.out,f1.out,f2.out,f3.out,f4.out⟩) (fun aX=>?_)
  try simp only [aS,aN,aT,a0,a1]
  refine bI (i:=14) (by kernel_rfl) rfl fun K hK=>?_
  go_simp
  go_at_call 184
  refine (H6.out.useY (Bl.refl _) Np.out).mono ?_
  rintro e w7 ⟨rfl,H7,K7⟩
  have i3:=K7.at (Xp.old (Xp.old y1)) i1.out
  have i4:=K7.at (Xp.old (Xp.old y2)) i2.out
  have e0:=ab H7.hb
  replace H7:=ab H7
  go_wp2_with fail
  refine hK.out _ _ (⟨e0.out,(aF i3).1,(aF i3).2,aK i4,aI i4⟩) (fun dh=>?_)
  try simp only [aS,aN,aT,a0,a1]
  refine wpAnyH_done (by kernel_rfl) ?_ _
  go_wp2
  go_end0
  exact qX UU.out H7.out.x
 ·go_wp2_with fail
  refine hK.out _ _ (⟨Bl.cell ((Bl.refl _).alloc _) ae.1,Bl.cell ((Bl.refl _).alloc _) ae.2.1,Bl.cell ((Bl.refl _).alloc _) ae.2.2.1,Bl.cell ((Bl.refl _).alloc _) ae.2.2.2.1,Bl.cell ((Bl.refl _).alloc _) ae.2.2.2.2.1,Bl.cell ((Bl.refl _).alloc _) ae.2.2.2.2.2.1,Bl.cell ((Bl.refl _).alloc _) ae.2.2.2.2.2.2⟩) (fun dm=>?_)
  try simp only [aS,aN,aT,a0,a1]
  refine bI (i:=17) (by kernel_rfl) rfl fun K hK=>?_
  go_simp
  go_at_call 146
  refine (HH.out.y.useY (by first|exact HB.out.drew|exact HB.out.drew.alloc _) vm.out).mono ?_
  rintro e w2 ⟨rfl,H1,K1⟩
  have bH:=K1.at (Xp.new (Nat.le_refl _) (by first|exact cX w _|exact dZ w _ _)) (by first|exact HL.out|exact (Below.heap_alloc _ _ _ (af HL.out)).trans HL.out)
  have jx:=ab H1.hb
  have jy:=ab (aF bH).1
  have nZ:=ab (aF bH).2
  have hbl:=cK.blw H1
  have K3:=ab (H1.hc0 HA.out)
  have K4:=ab (Bl.cell hbl vC.out)
  have K5:=ab (Bl.cell hbl rM.out)
  have K6:=ab (Bl.cell hbl Dj.out)
  have hsz:=K1.size
  try (have q9:=K1.at (b:=w.heap.size+1) (Xp.new (Nat.le_succ _) (cA w _ _)) (bD w _ _ _ _).2;have p0:=aK q9;have p1:=aI q9;have pz:=ay q9;replace q9:=ab q9)
  replace bH:=ab bH
  replace H1:=ab H1
  clear K1 hbl
  go_wp2_with fail
  refine hK.out _ _ (⟨jx.out,jy.out,nZ.out,K3.out,K4.out,K5.out,K6.out⟩) (fun eL=>?_)
  try simp only [aS,aN,aT,a0,a1]
  refine bI (i:=19) (by kernel_rfl) rfl fun K hK=>?_
  go_wp2_with fail
  refine hK.out _ _ (by first|exact ⟨Bl.cell ((Bl.refl _).alloc _) jx.out,Bl.cell ((Bl.refl _).alloc _) jy.out,Bl.cell ((Bl.refl _).alloc _) nZ.out,Bl.cell ((Bl.refl _).alloc _) K3.out,Bl.cell ((Bl.refl _).alloc _) K4.out,Bl.cell ((Bl.refl _).alloc _) K5.out,Bl.cell ((Bl.refl _).alloc _) K6.out⟩|exact ⟨aO jx.out (by omega),aO jy.out (by omega),aO nZ.out (by omega),aO K3.out (by omega),aO K4.out (by omega),aO K5.out (by omega),aO K6.out (by omega)⟩) (fun fp=>?_)
  try simp only [aS,aN,aT,a0,a1]
  refine wpAnyH_done (by kernel_rfl) ?_ _
  go_wp2
  first
   | (obtain ⟨W,b4,Y,H4,y1,y2,g1,g2,gW,gb⟩:=NX H1 bH (Xp.new (Nat.le_refl _) (cX w _)) (im v);rw [<-gb,<-gW])
   | (obtain ⟨W,b4,Y,H4,y1,y2,g1,g2,gW,gb⟩:=NY (b:=w.heap.size+1) H1 bH (Xp.new (Nat.le_refl _) (dZ w _ _)) (Xp.new (Nat.le_succ _) (cA w _ _)) q9 (by omega) (im v);rw [<-gW,<-gb])
  clear gW gb
  have x0:=ab H4.hb
  have x1:=ab (aF g1).1
  have x2:=ab (aF g1).2
  have x3:=ab (aK g2)
  have x4:=ab (aI g2)
  replace H4:=ab H4
  replace g1:=ab g1
  replace g2:=ab g2
  refine wp_region_held_drew (S:=fun w'=>w'.cell? ⟨a.q,0,none⟩=some (.pointer (some ⟨g.hb,0,none⟩))/\w'.cell? ⟨w.heap.size,1,none⟩=some (int i64 (cc:Int))/\w'.cell? ⟨w.heap.size,2,none⟩=some (int i64 (k:Int))/\w'.cell? ⟨b4,0,none⟩=some (int i64 (im v).kind)/\w'.cell? ⟨b4,1,none⟩=some (int i64 (im v).n)) (by kernel_rfl) ?_ (fun ae=>?_)
  ·exact ⟨x0.out,x1.out,x2.out,x3.out,x4.out⟩
  iterate 12 (refine tn rfl (by kernel_rfl) (fun _ _ _ h=>h) (by intro _ h;go_split_ands;go_simp<;>with_reducible rfl) ae ?_;try simp only [aS,aN,aT,a0,a1])
  refine bI (i:=7) (by kernel_rfl) rfl fun K hK=>?_
  go_simp
  go_at_call 185
  refine (eS (cc:Int) _).mono ?_
  rintro e w5 ⟨rfl,b5⟩
  have d0:=ab (b5.cell ae.1)
  have d1:=ab (b5.cell ae.2.1)
  have d2:=ab (b5.cell ae.2.2.1)
  have d3:=ab (b5.cell ae.2.2.2.1)
  have d4:=ab (b5.cell ae.2.2.2.2)
  have Kj:=ab (ai b5 g1.out)
  have Kk:=ab (ai b5 g2.out)
  replace b5:=ab b5
  go_wp2_with fail
  refine hK.out _ _ (⟨d0.out,d1.out,d2.out,d3.out,d4.out⟩) (fun ah=>?_)
  try simp only [aS,aN,aT,a0,a1]
  refine bI (i:=8) (by kernel_rfl) rfl fun K hK=>?_
  go_simp
  go_at_call 146
  refine (H4.out.useY ((Bl.refl _).drew.trans b5.out) IP.out).mono ?_
  rintro e w6 ⟨rfl,H6,GO⟩
  have i1:=GO.at (Xp.old y1) Kj.out
  have i2:=GO.at (Xp.old y2) Kk.out
  have f0:=ab H6.hb
  have f1:=ab (aF i1).1
  have f2:=ab (aF i1).2
  have f3:=ab (aK i2)
  have f4:=ab (aI i2)
  replace i1:=ab i1
  replace i2:=ab i2
  replace H6:=ab H6
  go_wp2_with fail
  refine hK.out _ _ (⟨f0.out,f1.out,f2.out,f3.out,f4.out⟩) (fun aX=>?_)
  try simp only [aS,aN,aT,a0,a1]
  refine bI (i:=14) (by kernel_rfl) rfl fun K hK=>?_
  go_simp
  go_at_call 184
  refine (H6.out.useY (Bl.refl _) Np.out).mono ?_
  rintro e w7 ⟨rfl,H7,K7⟩
  have i3:=K7.at (Xp.old (Xp.old y1)) i1.out
  have i4:=K7.at (Xp.old (Xp.old y2)) i2.out
  have e0:=ab H7.hb
  replace H7:=ab H7
  go_wp2_with fail
  refine hK.out _ _ (⟨e0.out,(aF i3).1,(aF i3).2,aK i4,aI i4⟩) (fun dh=>?_)
  try simp only [aS,aN,aT,a0,a1]
  refine wpAnyH_done (by kernel_rfl) ?_ _
  go_wp2
  go_end0
  exact qX UU.out H7.out.x
end
end
section
open Go.Maps (Keyed has)
theorem xN (X:Nat->Prop) (wx w0:World) (g:Mg) (h:Hp) (qs:List Nat) (a:Mc) (c:aH) (ia ib ic ii:Int) (args:List Int) (Q:Option Addr) (nl q:Nat) (w:World) (H:RX 1 X wx w0 g w h qs a c) (hs:h.stops=false) (hl:c.stk.length<=1000) (F:Fix w0 g h) (iD:h.objs.length<=100) (hst:∀v∈c.stk,v.kind=3->-1<=v.n/\v.n<h.objs.length) (jC:0<=ia/\ia<h.file.classes.length/\0<=ib/\ib<(nth cg h.file.classes ia.toNat).fields.length) (Nu:h.sh.steps<=100000) :
  Calls Tryz.prog 153 #[.pointer (some ⟨a.q,0,none⟩),.agg #[int i64 16,int i64 ia,int i64 ib,int i64 ic,int i64 ii,.slice Q nl q]] w fun e w'=>bT X wx w0 g qs a c (aM h c ⟨16,ia,ib,ic,ii,args⟩) e w':=by
 have ho:=ba hs
 have hd:aM h c ⟨16,ia,ib,ic,ii,args⟩=j8 h c ⟨16,ia,ib,ic,ii,args⟩:=rfl
 rw [hd]
 have s6:=aY hs 6
 have mb:∀b,h.mustB b=b:=fun b=>by unfold Hp.mustB;rw [ho];simp
 have fa:=fun hn=>tY X wx w0 g h qs a c ia ib ic ii args Q nl q w H hs hl F iD hst jC hn
 have AJ:(j8 h c ⟨16,ia,ib,ic,ii,args⟩).h=h.fin 6->∀{P:Ending->World->Prop},(Calls Tryz.prog 153 #[.pointer (some ⟨a.q,0,none⟩),.agg #[int i64 16,int i64 ia,int i64 ib,int i64 ic,int i64 ii,.slice Q nl q]] w fun e w'=>bT X wx w0 g qs a c ⟨h.fin 6,c,0⟩ e w')->Calls Tryz.prog 153 #[.pointer (some ⟨a.q,0,none⟩),.agg #[int i64 16,int i64 ia,int i64 ib,int i64 ic,int i64 ii,.slice Q nl q]] w fun e w'=>bT X wx w0 g qs a c (j8 h c ⟨16,ia,ib,ic,ii,args⟩) e w':=fun e1 P hc=>hc.mono fun e w' q=>dx (d:=⟨h.fin 6,c,0⟩) e1.symm s6 q
 rcases gB (c:=c) with h0|⟨l1,v,h0⟩
 ·refine AJ ?_ (P:=fun _ _=>True) (fa (Or.inl h0))
  unfold j8
  dsimp only
  have hn:c.has 2=false:=by unfold aH.has;rw [h0];rfl
  rw [cZ hn,if_pos (kq ho 6).1]
 have Nq:=hst v (by rw [h0];simp)
 have UW:l1=[]->(j8 h c ⟨16,ia,ib,ic,ii,args⟩).h=h.fin 6:=fun e=>by
  unfold j8
  dsimp only
  have hn:c.has 2=false:=by unfold aH.has;rw [h0,e];rfl
  rw [cZ hn,if_pos (kq ho 6).1]
 have two:∀l u,l1=l++[u]->(j8 h c ⟨16,ia,ib,ic,ii,args⟩).h=(if isRef u=true then h.put u ia ib v else h.fin 6)/\(j8 h c ⟨16,ia,ib,ic,ii,args⟩).c={ c with stk:=l }/\(j8 h c ⟨16,ia,ib,ic,ii,args⟩).nx=c.pc+1:=fun l u e=>by
  have XE:c.stk=l++[u,v]:=by rw [h0,e];simp
  obtain ⟨k1,k2,k3,k4⟩:=pJ XE
  unfold j8
  dsimp only
  rw [dJ k1,k2,k3,k4,if_neg (by rw [ho];decide),mb]
  refine ⟨?_,rfl,rfl⟩
  split
  ·rfl
  ·rename_i hr
   exact cZ (by simpa using hr)
 cases jz:h.of v (dW h.file.classes ia ib) with
 | false =>
  refine AJ ?_ (P:=fun _ _=>True) (fa (Or.inr ⟨l1,v,h0,Nq,jz⟩))
  rcases List.eq_nil_or_concat l1 with e|⟨l,u,e⟩
  ·exact UW e
  ·rw [List.concat_eq_append] at e
   rw [(two l u e).1]
   split
   ·unfold Hp.put
    rw [jz,mb,if_neg (by decide),cZ rfl]
   ·rfl
 | true =>
  have fb:=fun hn=>tZ X wx w0 g h qs a c ia ib ic ii args Q nl q w H hs hl F iD hst jC l1 v h0 jz hn
  rcases List.eq_nil_or_concat l1 with e|⟨l,u,e⟩
  ·exact AJ (UW e) (P:=fun _ _=>True) (fb (Or.inl e))
  rw [List.concat_eq_append] at e
  obtain ⟨t1,t2,t3⟩:=two l u e
  have Hb:=hst u (by rw [h0,e];simp)
  cases ve:h.of u ⟨3,ia⟩ with
  | false =>
   refine AJ ?_ (P:=fun _ _=>True) (fb (Or.inr ⟨l,u,e,Hb,ve⟩))
   rw [t1]
   split
   ·have e1:h.findN u ia ib=-1:=by unfold Hp.findN;rw [ve,mb,if_neg (by decide)]
    have e2:h.findH u ia=h.fin 6:=by unfold Hp.findH;rw [ve,mb,if_neg (by decide),cZ rfl]
    unfold Hp.put
    rw [jz,mb,if_pos rfl,e1,if_pos (by decide),e2]
   ·rfl
  | true =>
   have Hc:u.kind=3:=mF ve
   have QL:=Hb Hc
   have XF:isRef u=true:=decide_eq_true Hc
   rw [XF,if_pos rfl] at t1
   by_cases LA:u.n<0
   ·have e1:(j8 h c ⟨16,ia,ib,ic,ii,args⟩).h=h.raise 1:=by
     rw [t1]
     have e1:h.findN u ia ib=-1:=by unfold Hp.findN;rw [ve,mb,if_pos rfl,if_pos LA]
     have e2:h.findH u ia=h.raise 1:=by unfold Hp.findH;rw [ve,mb,if_pos rfl,if_pos LA]
     unfold Hp.put
     rw [jz,mb,if_pos rfl,e1,if_pos (by decide),e2]
    exact (tu X wx w0 g h qs a c ia ib ic ii args Q nl q w H hs hl F iD hst jC l1 v h0 jz l u e ve LA).mono fun e w' q=>dx (d:=⟨h.raise 1,c,0⟩) e1.symm (ix hs 1) q
   ·obtain ⟨o,NZ⟩:∃o:Nat,u.n=o:=⟨u.n.toNat,by omega⟩
    have vX:o<h.objs.length:=by omega
    have zt:h.obj u.n=nth cB h.objs o:=by unfold Hp.obj;rw [NZ,Int.toNat_natCast]
    have Km:gH h.file.classes (nth cB h.objs o).cls ia=true:=by
     have Kn:=ve
     unfold Hp.of at Kn
     rw [zt] at Kn
     simp [LA] at Kn
     exact Kn.2
    obtain ⟨cc,rfl⟩:∃cc:Nat,ia=cc:=⟨ia.toNat,by omega⟩
    obtain ⟨k,rfl⟩:∃k:Nat,ib=k:=⟨ib.toNat,by omega⟩
    have sx:k<(nth cg h.file.classes cc).fields.length:=by have:=jC.2.2.2;rw [Int.toNat_natCast] at this;omega
    obtain ⟨j,j1,j2,j3,j4,j5⟩:=H.find vX Km sx
    have Dh:h.findN u cc k=j:=by
     unfold Hp.findN
     rw [ve,mb,if_pos rfl,if_neg LA,zt]
     exact j2
    have e1:j8 h c ⟨16,(cc:Int),(k:Int),ic,ii,args⟩=⟨h.setV o j v,{ c with stk:=l },c.pc+1⟩:=by
     have P4:(j8 h c ⟨16,(cc:Int),(k:Int),ic,ii,args⟩).h=h.setV o j v:=by
      rw [t1]
      unfold Hp.put
      rw [jz,mb,if_pos rfl,Dh,if_neg (by omega)]
      have XG:h.findH u cc=h:=by unfold Hp.findH;rw [ve,mb,if_pos rfl,if_neg LA]
      rw [XG,NZ,Int.toNat_natCast,Int.toNat_natCast]
     generalize j8 h c ⟨16,(cc:Int),(k:Int),ic,ii,args⟩=d at P4 t2 t3
     obtain ⟨d1,d2,d3⟩:=d
     dsimp only at P4 t2 t3
     rw [P4,t2,t3]
    rw [e1]
    exact vf X wx w0 g h qs a c cc k ic ii args Q nl q w H hs hl F iD hst jC l1 v h0 jz l u e ve o j NZ vX j1 j3 j4 Nu
end
section
open Go.Maps (Keyed has)
theorem xO (X:Nat->Prop) (wx w0:World) (g:Mg) (h:Hp) (qs:List Nat) (a:Mc) (c:aH) (ia ib ic ii:Int) (args:List Int) (Q:Option Addr) (nl q:Nat) (w:World) (H:RX 1 X wx w0 g w h qs a c) (hs:h.stops=false) (hl:c.stk.length<=1000) (F:Fix w0 g h) (iD:h.objs.length<=100) (hst:∀v∈c.stk,v.kind=3->-1<=v.n/\v.n<h.objs.length) (jC:0<=ia/\ia<h.file.classes.length/\0<=ib/\ib<(nth cg h.file.classes ia.toNat).fields.length) :
  Calls Tryz.prog 153 #[.pointer (some ⟨a.q,0,none⟩),.agg #[int i64 15,int i64 ia,int i64 ib,int i64 ic,int i64 ii,.slice Q nl q]] w fun e w'=>bT X wx w0 g qs a c (aM h c ⟨15,ia,ib,ic,ii,args⟩) e w':=by
 obtain ⟨cc,rfl⟩:∃cc:Nat,ia=cc:=⟨ia.toNat,by omega⟩
 obtain ⟨k,rfl⟩:∃k:Nat,ib=k:=⟨ib.toNat,by omega⟩
 rw [Int.toNat_natCast] at jC
 have hc:cc<h.file.classes.length:=by omega
 have sx:k<(nth cg h.file.classes cc).fields.length:=by omega
 have ho:=ba hs
 have HH:=ab H
 have HS:=ab hs
 have HB:Hid (Bl w (w.alloc (.cells #[int i64 15,int i64 (cc:Int),int i64 (k:Int),int i64 ic,int i64 ii,.slice Q nl q] 55))):=(Bl.refl w).alloc _
 have HL:=ab (aD w #[int i64 15,int i64 (cc:Int),int i64 (k:Int),int i64 ic,int i64 ii,.slice Q nl q] 55)
 have z0:=ab ((H.y.bl HB.out).hb)
 have z1:=ab (aF HL.out).1
 have z2:=ab (aF HL.out).2
 have bad:(c.stk=[]∨∃(l:List Va) (v:Va),c.stk=l++[v]/\(v.kind=3->-1<=v.n/\v.n<h.objs.length)/\h.of v ⟨3,(cc:Int)⟩=false)->Calls Tryz.prog 153 #[.pointer (some ⟨a.q,0,none⟩),.agg #[int i64 15,int i64 (cc:Int),int i64 (k:Int),int i64 ic,int i64 ii,.slice Q nl q]] w fun e w'=>bT X wx w0 g qs a c ⟨h.fin 6,c,0⟩ e w':=fun hn=>by
  have HN:=ab (And.intro hn (And.intro F iD))
  clear H hs hn F hst jC hc sx
  go_enter Tryz.func153,Tryz.ntmps153
  go_wp2
  refine wp_region_held_drew (S:=fun w'=>w'.cell? ⟨a.q,0,none⟩=some (.pointer (some ⟨g.hb,0,none⟩))/\w'.cell? ⟨w.heap.size,1,none⟩=some (int i64 (cc:Int))/\w'.cell? ⟨w.heap.size,2,none⟩=some (int i64 (k:Int))) (by kernel_rfl) ?_ (fun ae=>?_)
  ·exact ⟨z0.out,z1.out,z2.out⟩
  iterate 12 (refine tn rfl (by kernel_rfl) (fun _ _ _ h=>h) (by intro _ h;go_split_ands;go_simp<;>with_reducible rfl) ae ?_;try simp only [aS,aN,aT,a0,a1])
  refine bI (i:=8) (by kernel_rfl) rfl fun K hK=>?_
  go_simp
  go_at_call 185
  refine (eS (cc:Int) _).mono ?_
  rintro e w1 ⟨rfl,b1⟩
  have d0:=ab (b1.cell ae.1)
  have d1:=ab (b1.cell ae.2.1)
  have d2:=ab (b1.cell ae.2.2)
  have Dq:=ab (ai b1 HL.out)
  replace b1:=ab b1
  go_wp2_with fail
  refine hK.out _ _ (⟨d0.out,d1.out,d2.out⟩) (fun ah=>?_)
  try simp only [aS,aN,aT,a0,a1]
  refine bI (i:=9) (by kernel_rfl) rfl fun K hK=>?_
  go_simp
  go_at_call 146
  refine (HH.out.y.useN (HB.out.drew.trans b1.out) (fun X wx w H=>jN 1 X wx w0 g h qs a c ⟨3,(cc:Int)⟩ w H HN.out.2.1 HN.out.2.2 HN.out.1)).mono ?_
  rintro e w2 ⟨rfl,H1⟩
  exact ⟨rfl,cY (s:=0) (ba HS.out) rfl H1.less⟩
 have hd:aM h c ⟨15,(cc:Int),(k:Int),ic,ii,args⟩=b8 h c ⟨15,(cc:Int),(k:Int),ic,ii,args⟩:=rfl
 have em:aJ 15=1:=by decide
 rw [hd]
 unfold b8
 dsimp only
 rw [em]
 rcases gB (c:=c) with h0|⟨l,v,h0⟩
 ·rw [cZ (fE h0),ft (kq ho 6).1,if_pos (aY hs 6)]
  exact (bad (Or.inl h0)).mono fun e w' q=>dx (d:=⟨h.fin 6,c,0⟩) rfl (aY hs 6) q
 obtain ⟨h1,h2,h4⟩:=fF h0
 rw [dJ h1,h2,h4]
 generalize nth ag (c.top 1) 1=y
 have Nq:=hst v (by rw [h0];simp)
 have S2:givesH h v y ⟨15,(cc:Int),(k:Int),ic,ii,args⟩=h.findH v cc:=by
  unfold givesH
  rw [if_neg (by rw [ho];decide)]
  simp
 have S4:aG h v y ⟨15,(cc:Int),(k:Int),ic,ii,args⟩=h.getV v cc k:=by
  unfold aG
  rw [if_neg (by rw [ho];decide)]
  simp
 rw [S2,S4]
 cases hz:h.of v ⟨3,(cc:Int)⟩ with
 | false =>
  have hm:h.mustB false=false:=rfl
  have eg:h.findH v cc=h.fin 6:=by unfold Hp.findH;rw [hz,if_neg (by rw [hm];decide),cZ rfl]
  rw [eg,if_pos (aY hs 6)]
  exact (bad (Or.inr ⟨l,v,h0,Nq,hz⟩)).mono fun e w' q=>dx (d:=⟨h.fin 6,c,0⟩) rfl (aY hs 6) q
 | true =>
  have hk:v.kind=3:=mF hz
  have kX:=Nq hk
  have hm:h.mustB true=true:=by unfold Hp.mustB;rw [ho];rfl
  have HT:Hid (∀X wx w,RX 1 X wx w0 g w h qs a c->Calls Tryz.prog 146 #[.pointer (some ⟨a.q,0,none⟩),jD ⟨3,(cc:Int)⟩] w fun e w'=>e=.returned (cn (im v))/\RX 1 X wx w0 g w' h qs a { c with stk:=l }):=fun X wx w H=>dV 1 X wx w0 g h qs a c l v ⟨3,(cc:Int)⟩ w H F iD h0 Nq hz
  by_cases hn:v.n<0
  ·have eg:h.findH v cc=h.raise 1:=by unfold Hp.findH;rw [hz,if_pos hm,if_pos hn]
   rw [eg,if_pos (ix hs 1)]
   obtain ⟨E,hE⟩:∃E,bM h=E:=⟨_,rfl⟩
   have IQ:Hid (∃ch,E=.panicked ch):=by
    rw [<-hE];unfold bM;split<;>exact ⟨_,rfl⟩
   have HG:Hid (∀X wx w,RX 1 X wx w0 g w h qs a { c with stk:=l }->Calls Tryz.prog 196 #[.pointer (some ⟨g.hb,0,none⟩),cn (im v),int i64 (cc:Int),int i64 (k:Int)] w fun e w'=>e=E/\RX 1 X wx w0 g w' (h.raise 1) qs a { c with stk:=l }):=fun X wx w H=>hE▸Ew 1 X wx w0 g h qs a { c with stk:=l } v cc k w H iD ho hk (by omega)
   have HD:Hid (∀w',RS 0 X wx w0 g w' (h.raise 1) qs a c->bT X wx w0 g qs a c ⟨h.raise 1,{ c with stk:=l },c.pc+1⟩ E w'):=fun w' H=>hE▸jb hs rfl H
   generalize im v=V at HT HG
   clear H hs hd bad em h0 h1 h2 h4 eg S2 S4 hz hm F hst kX hk hE hn Nq jC hc sx
   obtain ⟨ch,rfl⟩:=IQ.out
   go_enter Tryz.func153,Tryz.ntmps153
   go_wp2
   refine wp_region_held_drew (S:=fun w'=>w'.cell? ⟨a.q,0,none⟩=some (.pointer (some ⟨g.hb,0,none⟩))/\w'.cell? ⟨w.heap.size,1,none⟩=some (int i64 (cc:Int))/\w'.cell? ⟨w.heap.size,2,none⟩=some (int i64 (k:Int))) (by kernel_rfl) ?_ (fun ae=>?_)
   ·exact ⟨z0.out,z1.out,z2.out⟩
   iterate 12 (refine tn rfl (by kernel_rfl) (fun _ _ _ h=>h) (by intro _ h;go_split_ands;go_simp<;>with_reducible rfl) ae ?_;try simp only [aS,aN,aT,a0,a1])
   refine bI (i:=8) (by kernel_rfl) rfl fun K hK=>?_
   go_simp
   go_at_call 185
   refine (eS (cc:Int) _).mono ?_
   rintro e w1 ⟨rfl,b1⟩
   have d0:=ab (b1.cell ae.1)
   have d1:=ab (b1.cell ae.2.1)
   have d2:=ab (b1.cell ae.2.2)
   have Dq:=ab (ai b1 HL.out)
   replace b1:=ab b1
   go_wp2_with fail
   refine hK.out _ _ (⟨d0.out,d1.out,d2.out⟩) (fun ah=>?_)
   try simp only [aS,aN,aT,a0,a1]
   refine bI (i:=9) (by kernel_rfl) rfl fun K hK=>?_
   go_simp
   go_at_call 146
   refine (HH.out.y.useY (HB.out.drew.trans b1.out) HT.out).mono ?_
   rintro e w2 ⟨rfl,H1,K1⟩
   have bH:=K1.at (Xp.new (Nat.le_refl _) (af Dq.out)) Dq.out
   have jx:=ab H1.hb
   have jy:=ab (aF bH).1
   have nZ:=ab (aF bH).2
   replace bH:=ab bH
   replace H1:=ab H1
   go_wp2_with fail
   refine hK.out _ _ (⟨jx.out,jy.out,nZ.out⟩) (fun aX=>?_)
   try simp only [aS,aN,aT,a0,a1]
   refine bI (i:=14) (by kernel_rfl) rfl fun K hK=>?_
   go_simp
   go_at_call 196
   refine (H1.out.useY (Bl.refl _) HG.out).mono ?_
   rintro e w3 ⟨rfl,H2,K2⟩
   exact ⟨rfl,HD.out _ (H2.x.less.rs.of rfl ⟨rfl,rfl⟩)⟩
  ·have eg:h.findH v cc=h:=by unfold Hp.findH;rw [hz,if_pos hm,if_neg hn]
   rw [eg,if_neg (by rw [hs];decide)]
   obtain ⟨o,pT⟩:∃o:Nat,v.n=o:=⟨v.n.toNat,by omega⟩
   have vX:o<h.objs.length:=by omega
   have zt:h.obj v.n=nth cB h.objs o:=by unfold Hp.obj;rw [pT,Int.toNat_natCast]
   have Km:gH h.file.classes (nth cB h.objs o).cls (cc:Int)=true:=by
    have Kn:=hz
    unfold Hp.of at Kn
    rw [zt] at Kn
    simp [hn] at Kn
    exact Kn.2
   obtain ⟨j,j1,j2,j3,j4,j5⟩:=H.find vX Km sx
   have UX:h.getV v cc k=(nth cH (nth cB h.objs o).held j).v:=by
    have Dh:h.findN v cc k=j:=by
     unfold Hp.findN
     rw [hz,if_pos hm,if_neg hn,zt]
     exact j2
    unfold Hp.getV
    rw [Dh,if_neg (by omega),zt,Int.toNat_natCast]
   rw [UX]
   have Ls:im v=⟨3,(o:Int)+1⟩:=by rw [gp hk,pT]
   have hkd:1<=(nth cH (nth cB h.objs o).held j).v.kind/\(nth cH (nth cB h.objs o).held j).v.kind<=3:=by rw [j5];exact yD F.may hc sx
   have HG:Hid (∀X wx w,RX 1 X wx w0 g w h qs a { c with stk:=l }->Calls Tryz.prog 196 #[.pointer (some ⟨g.hb,0,none⟩),cn (im v),int i64 (cc:Int),int i64 (k:Int)] w fun e w'=>e=.returned (cn (im (nth cH (nth cB h.objs o).held j).v))/\RX 1 X wx w0 g w' h qs a { c with stk:=l }):=fun X wx w H=>Ls.symm▸Ez 1 X wx w0 g h qs a { c with stk:=l } o cc k j w H F iD vX hc sx j1 j3 j4
   generalize (nth cH (nth cB h.objs o).held j).v=U at HG hkd
   obtain ⟨E,hE⟩:∃E,(if (aQ (({ c with stk:=l }).stk++[U]):Int)<=({ c with stk:=l }).m.stack then Ending.returned (.tuple #[]) else aV 6 0 0)=E:=⟨_,rfl⟩
   have HP:Hid (∀X wx w,RX 1 X wx w0 g w h qs a ({ c with stk:=l })->Calls Tryz.prog 95 #[.pointer (some ⟨a.q,0,none⟩),cn (im U)] w fun e w2=>e=E/\RX 1 X wx w0 g w2 h qs a (({ c with stk:=l }).put U)):=fun X wx w H=>hE▸cM 1 X wx w0 g h qs a ({ c with stk:=l }) U w H (hkd) (by have e:c.stk.length=l.length+1:=(by rw [h0];simp);show l.length<=1000;omega)
   have HE:Hid (∀w',RX 1 X wx w0 g w' h qs a (({ c with stk:=l }).put U)->bT X wx w0 g qs a c ⟨(h).putH ({ c with stk:=l }) U,({ c with stk:=l }).put U,c.pc+1⟩ E w'):=fun w' H=>eO hs rfl ⟨rfl,rfl⟩ hE.symm H.less
   have nT:E=.returned (.tuple #[])∨E=aV 6 0 0:=by rw [<-hE];split;exact Or.inl rfl;exact Or.inr rfl
   clear hE
   generalize im v=V at HT HG
   generalize im U=UI at HG HP
   clear H hs hd bad em h0 h1 h2 h4 eg S2 S4 hz hm F hst kX hk hn Nq jC hc sx pT vX zt Km j1 j2 j3 j4 j5 UX Ls
   rcases nT with rfl|rfl
   ·go_enter Tryz.func153,Tryz.ntmps153
    go_wp2
    refine wp_region_held_drew (S:=fun w'=>w'.cell? ⟨a.q,0,none⟩=some (.pointer (some ⟨g.hb,0,none⟩))/\w'.cell? ⟨w.heap.size,1,none⟩=some (int i64 (cc:Int))/\w'.cell? ⟨w.heap.size,2,none⟩=some (int i64 (k:Int))) (by kernel_rfl) ?_ (fun ae=>?_)
    ·exact ⟨z0.out,z1.out,z2.out⟩
    iterate 12 (refine tn rfl (by kernel_rfl) (fun _ _ _ h=>h) (by intro _ h;go_split_ands;go_simp<;>with_reducible rfl) ae ?_;try simp only [aS,aN,aT,a0,a1])
    refine bI (i:=8) (by kernel_rfl) rfl fun K hK=>?_
    go_simp
    go_at_call 185
    refine (eS (cc:Int) _).mono ?_
    rintro e w1 ⟨rfl,b1⟩
    have d0:=ab (b1.cell ae.1)
    have d1:=ab (b1.cell ae.2.1)
    have d2:=ab (b1.cell ae.2.2)
    have Dq:=ab (ai b1 HL.out)
    replace b1:=ab b1
    go_wp2_with fail
    refine hK.out _ _ (⟨d0.out,d1.out,d2.out⟩) (fun ah=>?_)
    try simp only [aS,aN,aT,a0,a1]
    refine bI (i:=9) (by kernel_rfl) rfl fun K hK=>?_
    go_simp
    go_at_call 146
    refine (HH.out.y.useY (HB.out.drew.trans b1.out) HT.out).mono ?_
    rintro e w2 ⟨rfl,H1,K1⟩
    have bH:=K1.at (Xp.new (Nat.le_refl _) (af Dq.out)) Dq.out
    have jx:=ab H1.hb
    have jy:=ab (aF bH).1
    have nZ:=ab (aF bH).2
    replace bH:=ab bH
    replace H1:=ab H1
    go_wp2_with fail
    refine hK.out _ _ (⟨jx.out,jy.out,nZ.out⟩) (fun aX=>?_)
    try simp only [aS,aN,aT,a0,a1]
    refine bI (i:=14) (by kernel_rfl) rfl fun K hK=>?_
    go_simp
    go_at_call 196
    refine (H1.out.useY (Bl.refl _) HG.out).mono ?_
    rintro e w3 ⟨rfl,H2,K2⟩
    have rX:=K2.at (Xp.old (Xp.new (Nat.le_refl _) (af Dq.out))) bH.out
    have S5:=ab H2.hb
    have S6:=ab (aF rX).1
    have S7:=ab (aF rX).2
    replace rX:=ab rX
    replace H2:=ab H2
    go_wp2_with fail
    refine hK.out _ _ (⟨S5.out,S6.out,S7.out⟩) (fun dh=>?_)
    try simp only [aS,aN,aT,a0,a1]
    refine bI (i:=15) (by kernel_rfl) rfl fun K hK=>?_
    go_simp
    go_at_call 95
    refine (H2.out.useY (Bl.refl _) HP.out).mono ?_
    rintro e w4 ⟨rfl,HX,KX⟩
    have Ly:=KX.at (Xp.old (Xp.old (Xp.new (Nat.le_refl _) (af Dq.out)))) rX.out
    have Xa:=ab HX.hb
    have Xb:=ab (aF Ly).1
    have Xc:=ab (aF Ly).2
    replace HX:=ab HX
    go_wp2_with fail
    refine hK.out _ _ (⟨Xa.out,Xb.out,Xc.out⟩) (fun dm=>?_)
    try simp only [aS,aN,aT,a0,a1]
    refine wpAnyH_done (by kernel_rfl) ?_ _
    go_wp2
    go_end0
    exact HE.out _ HX.out.x
   ·go_enter Tryz.func153,Tryz.ntmps153
    go_wp2
    refine wp_region_held_drew (S:=fun w'=>w'.cell? ⟨a.q,0,none⟩=some (.pointer (some ⟨g.hb,0,none⟩))/\w'.cell? ⟨w.heap.size,1,none⟩=some (int i64 (cc:Int))/\w'.cell? ⟨w.heap.size,2,none⟩=some (int i64 (k:Int))) (by kernel_rfl) ?_ (fun ae=>?_)
    ·exact ⟨z0.out,z1.out,z2.out⟩
    iterate 12 (refine tn rfl (by kernel_rfl) (fun _ _ _ h=>h) (by intro _ h;go_split_ands;go_simp<;>with_reducible rfl) ae ?_;try simp only [aS,aN,aT,a0,a1])
    refine bI (i:=8) (by kernel_rfl) rfl fun K hK=>?_
    go_simp
    go_at_call 185
    refine (eS (cc:Int) _).mono ?_
    rintro e w1 ⟨rfl,b1⟩
    have d0:=ab (b1.cell ae.1)
    have d1:=ab (b1.cell ae.2.1)
    have d2:=ab (b1.cell ae.2.2)
    have Dq:=ab (ai b1 HL.out)
    replace b1:=ab b1
    go_wp2_with fail
    refine hK.out _ _ (⟨d0.out,d1.out,d2.out⟩) (fun ah=>?_)
    try simp only [aS,aN,aT,a0,a1]
    refine bI (i:=9) (by kernel_rfl) rfl fun K hK=>?_
    go_simp
    go_at_call 146
    refine (HH.out.y.useY (HB.out.drew.trans b1.out) HT.out).mono ?_
    rintro e w2 ⟨rfl,H1,K1⟩
    have bH:=K1.at (Xp.new (Nat.le_refl _) (af Dq.out)) Dq.out
    have jx:=ab H1.hb
    have jy:=ab (aF bH).1
    have nZ:=ab (aF bH).2
    replace bH:=ab bH
    replace H1:=ab H1
    go_wp2_with fail
    refine hK.out _ _ (⟨jx.out,jy.out,nZ.out⟩) (fun aX=>?_)
    try simp only [aS,aN,aT,a0,a1]
    refine bI (i:=14) (by kernel_rfl) rfl fun K hK=>?_
    go_simp
    go_at_call 196
    refine (H1.out.useY (Bl.refl _) HG.out).mono ?_
    rintro e w3 ⟨rfl,H2,K2⟩
    have rX:=K2.at (Xp.old (Xp.new (Nat.le_refl _) (af Dq.out))) bH.out
    have S5:=ab H2.hb
    have S6:=ab (aF rX).1
    have S7:=ab (aF rX).2
    replace rX:=ab rX
    replace H2:=ab H2
    go_wp2_with fail
    refine hK.out _ _ (⟨S5.out,S6.out,S7.out⟩) (fun dh=>?_)
    try simp only [aS,aN,aT,a0,a1]
    refine bI (i:=15) (by kernel_rfl) rfl fun K hK=>?_
    go_simp
    go_at_call 95
    refine (H2.out.useY (Bl.refl _) HP.out).mono ?_
    rintro e w4 ⟨rfl,HX,KX⟩
    exact ⟨rfl,HE.out _ HX.x⟩
end
section
open Go.Maps (Keyed has)
section
variable (X:Nat->Prop) (wx w0:World) (g:Mg) (h:Hp) (qs:List Nat) (a:Mc) (c:aH) (ia ib ic ii:Int) (args:List Int) (Q:Option Addr) (nl q:Nat) (w:World)
theorem xP (H:RX 1 X wx w0 g w h qs a c) (hs:h.stops=false) (hl:c.stk.length<=1000) (F:Fix w0 g h) (iD:h.objs.length<=100) (hst:∀v∈c.stk,v.kind=3->-1<=v.n/\v.n<h.objs.length) :
  Calls Tryz.prog 153 #[.pointer (some ⟨a.q,0,none⟩),.agg #[int i64 18,int i64 ia,int i64 ib,int i64 ic,int i64 ii,.slice Q nl q]] w fun e w'=>bT X wx w0 g qs a c (aM h c ⟨18,ia,ib,ic,ii,args⟩) e w':=by
 have ho:=ba hs
 have HH:=ab H
 have HS:=ab hs
 have HB:Hid (Bl w (w.alloc (.cells #[int i64 18,int i64 ia,int i64 ib,int i64 ic,int i64 ii,.slice Q nl q] 55))):=(Bl.refl w).alloc _
 have HL:=ab (aD w #[int i64 18,int i64 ia,int i64 ib,int i64 ic,int i64 ii,.slice Q nl q] 55)
 have z0:=ab ((H.y.bl HB.out).hb)
 have z1:=ab (aF HL.out).1
 have bad:(c.stk=[]∨∃l v,c.stk=l++[v]/\v.kind≠3)->Calls Tryz.prog 153 #[.pointer (some ⟨a.q,0,none⟩),.agg #[int i64 18,int i64 ia,int i64 ib,int i64 ic,int i64 ii,.slice Q nl q]] w fun e w'=>bT X wx w0 g qs a c ⟨h.fin 6,c,0⟩ e w':=fun hn=>by
  have HN:=ab hn
  clear H hs hn F hst
  go_enter Tryz.func153,Tryz.ntmps153
  go_wp2
  refine wp_region_held_drew (S:=fun w'=>w'.cell? ⟨a.q,0,none⟩=some (.pointer (some ⟨g.hb,0,none⟩))/\w'.cell? ⟨w.heap.size,1,none⟩=some (int i64 ia)) (by kernel_rfl) ?_ (fun ae=>?_)
  ·exact ⟨z0.out,z1.out⟩
  iterate 8 (refine tn rfl (by kernel_rfl) (fun _ _ _ h=>h) (by intro _ h;go_split_ands;go_simp<;>with_reducible rfl) ae ?_;try simp only [aS,aN,aT,a0,a1])
  refine bI (i:=6) (by kernel_rfl) rfl fun K hK=>?_
  go_simp
  go_at_call 89
  refine (HH.out.y.useN HB.out.drew (fun X wx w H=>dk 1 X wx w0 g h qs a c 3 w H HN.out)).mono ?_
  rintro e w1 ⟨rfl,H1⟩
  exact ⟨rfl,cY (s:=0) (ba HS.out) rfl H1.less⟩
 have hd:aM h c ⟨18,ia,ib,ic,ii,args⟩=b8 h c ⟨18,ia,ib,ic,ii,args⟩:=rfl
 have em:aJ 18=1:=by decide
 rw [hd]
 unfold b8
 dsimp only
 rw [em]
 rcases gB (c:=c) with h0|⟨l,v,h0⟩
 ·rw [cZ (fE h0),ft (kq ho 6).1,if_pos (aY hs 6)]
  exact (bad (Or.inl h0)).mono fun e w' q=>dx (d:=⟨h.fin 6,c,0⟩) rfl (aY hs 6) q
 obtain ⟨h1,h2,h4⟩:=fF h0
 rw [dJ h1,h2,h4]
 generalize nth ag (c.top 1) 1=y
 by_cases hk:v.kind=3
 ·have kX:=hst v (by rw [h0];simp) hk
  have hi:isRef v=true:=decide_eq_true hk
  have hm:h.mustB (isRef v)=true:=by unfold Hp.mustB;rw [hi,ho];rfl
  have eg:givesH h v y ⟨18,ia,ib,ic,ii,args⟩=h:=by
   unfold givesH
   rw [if_neg (by rw [ho];decide)]
   simp [Hp.must,hi]
  obtain ⟨Z,hZ⟩:∃Z,(decide (0<=v.n)&&gH h.file.classes (h.obj v.n).cls ia)=Z:=⟨_,rfl⟩
  have ev:aG h v y ⟨18,ia,ib,ic,ii,args⟩=⟨1,if Z=true then 1 else 0⟩:=by
   unfold aG
   rw [if_neg (by rw [ho];decide)]
   simp only [show ¬((18:Int)=1) by decide,show ¬((18:Int)=2) by decide,show ¬((18:Int)=3) by decide,show ¬((18:Int)=6) by decide,show ¬((18:Int)=7) by decide,show ¬((18:Int)=8) by decide,show ¬((18:Int)=9) by decide,show ¬((18:Int)=10) by decide,show ¬((18:Int)=14) by decide,show ¬((18:Int)=15) by decide,show ¬((18:Int)=17) by decide,if_false,if_true]
   unfold Hp.isV
   rw [hm,Bool.true_and,hZ]
  rw [eg,ev,if_neg (by rw [hs];decide)]
  have HT:Hid (∀X wx w,RX 1 X wx w0 g w h qs a c->Calls Tryz.prog 89 #[.pointer (some ⟨a.q,0,none⟩),int i64 3] w fun e w'=>e=.returned (cn (im v))/\RX 1 X wx w0 g w' h qs a { c with stk:=l }):=fun X wx w H=>cz 1 X wx w0 g h qs a c l v 3 w H h0 hk
  have HM:Hid (Fix w0 g h/\h.objs.length<=100):=⟨F,iD⟩
  have xM:Hid (∀w,oX w g h->Calls Tryz.prog 154 #[.pointer (some ⟨g.hb,0,none⟩),cn (im v),int i64 ia] w fun e w'=>e=.returned (.bool Z)/\Bl w w'):=fun w R=>hZ▸qm g h v ia w R hk kX.1 kX.2
  obtain ⟨N,hN⟩:∃N:Int,(if Z=true then 1 else 0)=N:=⟨_,rfl⟩
  rw [hN]
  have UY:Hid (∀w,Calls Tryz.prog 197 #[.bool Z] w fun e w'=>e=.returned (cn ⟨1,N⟩)/\Bl w w'):=fun w=>hN▸Bt Z w
  obtain ⟨E,hE⟩:∃E,(if (aQ (({ c with stk:=l }).stk++[(⟨1,N⟩:Va)]):Int)<=({ c with stk:=l }).m.stack then Ending.returned (.tuple #[]) else aV 6 0 0)=E:=⟨_,rfl⟩
  have HP:Hid (∀X wx w,RX 1 X wx w0 g w h qs a ({ c with stk:=l })->Calls Tryz.prog 95 #[.pointer (some ⟨a.q,0,none⟩),cn (im (⟨1,N⟩:Va))] w fun e w2=>e=E/\RX 1 X wx w0 g w2 h qs a (({ c with stk:=l }).put (⟨1,N⟩:Va))):=fun X wx w H=>hE▸cM 1 X wx w0 g h qs a ({ c with stk:=l }) (⟨1,N⟩:Va) w H (show (1:Int)<=1/\(1:Int)<=3 from by decide) (by have e:c.stk.length=l.length+1:=(by rw [h0];simp);show l.length<=1000;omega)
  have HE:Hid (∀w',RX 1 X wx w0 g w' h qs a (({ c with stk:=l }).put (⟨1,N⟩:Va))->bT X wx w0 g qs a c ⟨(h).putH ({ c with stk:=l }) (⟨1,N⟩:Va),({ c with stk:=l }).put (⟨1,N⟩:Va),c.pc+1⟩ E w'):=fun w' H=>eO hs rfl ⟨rfl,rfl⟩ hE.symm H.less
  have nT:E=.returned (.tuple #[])∨E=aV 6 0 0:=by rw [<-hE];split;exact Or.inl rfl;exact Or.inr rfl
  clear hE
  have xf:Hid (im (⟨1,N⟩:Va)=⟨1,N⟩):=eJ (show (1:Int)≠3 by decide)
  rw [xf.out] at HP
  generalize im v=V at HT xM
  clear H hs hd bad em h0 h1 h2 h4 eg ev hi hm F hst kX hk hZ hN
  rcases nT with rfl|rfl
  ·go_enter Tryz.func153,Tryz.ntmps153
   go_wp2
   refine wp_region_held_drew (S:=fun w'=>w'.cell? ⟨a.q,0,none⟩=some (.pointer (some ⟨g.hb,0,none⟩))/\w'.cell? ⟨w.heap.size,1,none⟩=some (int i64 ia)) (by kernel_rfl) ?_ (fun ae=>?_)
   ·exact ⟨z0.out,z1.out⟩
   iterate 8 (refine tn rfl (by kernel_rfl) (fun _ _ _ h=>h) (by intro _ h;go_split_ands;go_simp<;>with_reducible rfl) ae ?_;try simp only [aS,aN,aT,a0,a1])
   refine bI (i:=6) (by kernel_rfl) rfl fun K hK=>?_
   go_simp
   go_at_call 89
   refine (HH.out.y.useY HB.out.drew HT.out).mono ?_
   rintro e w1 ⟨rfl,H1,K1⟩
   have bH:=K1.at (Xp.new (Nat.le_refl _) (cX w _)) HL.out
   have jx:=ab H1.hb
   have jy:=ab (aF bH).1
   replace bH:=ab bH
   replace H1:=ab H1
   go_wp2_with fail
   refine hK.out _ _ (⟨jx.out,jy.out⟩) (fun ah=>?_)
   try simp only [aS,aN,aT,a0,a1]
   refine bI (i:=9) (by kernel_rfl) rfl fun K hK=>?_
   go_simp
   go_at_call 154
   refine (xM.out _ (H1.out.x.rd HM.out.1 HM.out.2)).mono ?_
   rintro e w2 ⟨rfl,b2⟩
   have e0:=ab (b2.cell ah.1)
   have e1:=ab (b2.cell ah.2)
   have NW:=ab (ai b2 bH.out)
   replace b2:=ab b2
   go_wp2_with fail
   refine hK.out _ _ (⟨e0.out,e1.out⟩) (fun aX=>?_)
   try simp only [aS,aN,aT,a0,a1]
   refine bI (i:=10) (by kernel_rfl) rfl fun K hK=>?_
   go_simp
   go_at_call 197
   refine (UY.out _).mono ?_
   rintro e w3 ⟨rfl,b3⟩
   have f0:=ab (b3.cell aX.1)
   have f1:=ab (b3.cell aX.2)
   have UZ:=ab (ai b3 NW.out)
   replace b3:=ab b3
   go_wp2_with fail
   refine hK.out _ _ (⟨f0.out,f1.out⟩) (fun dh=>?_)
   try simp only [aS,aN,aT,a0,a1]
   refine bI (i:=11) (by kernel_rfl) rfl fun K hK=>?_
   go_simp
   go_at_call 95
   refine (H1.out.useY (b2.out.trans b3.out) HP.out).mono ?_
   rintro e w4 ⟨rfl,HX,KX⟩
   have Ly:=KX.at (Xp.old (Xp.new (Nat.le_refl _) (cX w _))) UZ.out
   have Xa:=ab HX.hb
   have Xb:=ab (aF Ly).1
   replace HX:=ab HX
   go_wp2_with fail
   refine hK.out _ _ (⟨Xa.out,Xb.out⟩) (fun dm=>?_)
   try simp only [aS,aN,aT,a0,a1]
   refine wpAnyH_done (by kernel_rfl) ?_ _
   go_wp2
   go_end0
   exact HE.out _ HX.out.x
  ·go_enter Tryz.func153,Tryz.ntmps153
   go_wp2
   refine wp_region_held_drew (S:=fun w'=>w'.cell? ⟨a.q,0,none⟩=some (.pointer (some ⟨g.hb,0,none⟩))/\w'.cell? ⟨w.heap.size,1,none⟩=some (int i64 ia)) (by kernel_rfl) ?_ (fun ae=>?_)
   ·exact ⟨z0.out,z1.out⟩
   iterate 8 (refine tn rfl (by kernel_rfl) (fun _ _ _ h=>h) (by intro _ h;go_split_ands;go_simp<;>with_reducible rfl) ae ?_;try simp only [aS,aN,aT,a0,a1])
   refine bI (i:=6) (by kernel_rfl) rfl fun K hK=>?_
   go_simp
   go_at_call 89
   refine (HH.out.y.useY HB.out.drew HT.out).mono ?_
   rintro e w1 ⟨rfl,H1,K1⟩
   have bH:=K1.at (Xp.new (Nat.le_refl _) (cX w _)) HL.out
   have jx:=ab H1.hb
   have jy:=ab (aF bH).1
   replace bH:=ab bH
   replace H1:=ab H1
   go_wp2_with fail
   refine hK.out _ _ (⟨jx.out,jy.out⟩) (fun ah=>?_)
   try simp only [aS,aN,aT,a0,a1]
   refine bI (i:=9) (by kernel_rfl) rfl fun K hK=>?_
   go_simp
   go_at_call 154
   refine (xM.out _ (H1.out.x.rd HM.out.1 HM.out.2)).mono ?_
   rintro e w2 ⟨rfl,b2⟩
   have e0:=ab (b2.cell ah.1)
   have e1:=ab (b2.cell ah.2)
   have NW:=ab (ai b2 bH.out)
   replace b2:=ab b2
   go_wp2_with fail
   refine hK.out _ _ (⟨e0.out,e1.out⟩) (fun aX=>?_)
   try simp only [aS,aN,aT,a0,a1]
   refine bI (i:=10) (by kernel_rfl) rfl fun K hK=>?_
   go_simp
   go_at_call 197
   refine (UY.out _).mono ?_
   rintro e w3 ⟨rfl,b3⟩
   have f0:=ab (b3.cell aX.1)
   have f1:=ab (b3.cell aX.2)
   have UZ:=ab (ai b3 NW.out)
   replace b3:=ab b3
   go_wp2_with fail
   refine hK.out _ _ (⟨f0.out,f1.out⟩) (fun dh=>?_)
   try simp only [aS,aN,aT,a0,a1]
   refine bI (i:=11) (by kernel_rfl) rfl fun K hK=>?_
   go_simp
   go_at_call 95
   refine (H1.out.useY (b2.out.trans b3.out) HP.out).mono ?_
   rintro e xJ ⟨rfl,HX,KX⟩
   exact ⟨rfl,HE.out _ HX.x⟩
 ·have eg:givesH h v y ⟨18,ia,ib,ic,ii,args⟩=h.fin 6:=by
   have hi:isRef v=false:=decide_eq_false hk
   have hm:h.mustB (isRef v)=false:=by unfold Hp.mustB;rw [hi];rfl
   unfold givesH
   rw [if_neg (by rw [ho];decide)]
   simp [Hp.cast,Hp.must,hm,hi]
   try (intro q;rw [hi] at hm;simp [hm] at q)
  rw [eg,if_pos (aY hs 6)]
  exact (bad (Or.inr ⟨l,v,h0,hk⟩)).mono fun e w' q=>dx (d:=⟨h.fin 6,c,0⟩) rfl (aY hs 6) q
theorem xQ (H:RX 1 X wx w0 g w h qs a c) (hs:h.stops=false) (hl:c.stk.length<=1000) (F:Fix w0 g h) (iD:h.objs.length<=100) (hst:∀v∈c.stk,v.kind=3->-1<=v.n/\v.n<h.objs.length) :
  Calls Tryz.prog 153 #[.pointer (some ⟨a.q,0,none⟩),.agg #[int i64 21,int i64 ia,int i64 ib,int i64 ic,int i64 ii,.slice Q nl q]] w fun e w'=>bT X wx w0 g qs a c (aM h c ⟨21,ia,ib,ic,ii,args⟩) e w':=by
 have ho:=ba hs
 have HH:=ab H
 have HS:=ab hs
 have HB:Hid (Bl w (w.alloc (.cells #[int i64 21,int i64 ia,int i64 ib,int i64 ic,int i64 ii,.slice Q nl q] 55))):=(Bl.refl w).alloc _
 have HL:=ab (aD w #[int i64 21,int i64 ia,int i64 ib,int i64 ic,int i64 ii,.slice Q nl q] 55)
 have z0:=ab ((H.y.bl HB.out).hb)
 have z1:=ab (aF HL.out).1
 have bad:(c.stk=[]∨∃l v,c.stk=l++[v]/\v.kind≠3)->Calls Tryz.prog 153 #[.pointer (some ⟨a.q,0,none⟩),.agg #[int i64 21,int i64 ia,int i64 ib,int i64 ic,int i64 ii,.slice Q nl q]] w fun e w'=>bT X wx w0 g qs a c ⟨h.fin 6,c,0⟩ e w':=fun hn=>by
  have HN:=ab hn
  clear H hs hn F hst
  go_enter Tryz.func153,Tryz.ntmps153
  go_wp2
  refine wp_region_held_drew (S:=fun w'=>w'.cell? ⟨a.q,0,none⟩=some (.pointer (some ⟨g.hb,0,none⟩))/\w'.cell? ⟨w.heap.size,1,none⟩=some (int i64 ia)) (by kernel_rfl) ?_ (fun ae=>?_)
  ·exact ⟨z0.out,z1.out⟩
  iterate 5 (refine tn rfl (by kernel_rfl) (fun _ _ _ h=>h) (by intro _ h;go_split_ands;go_simp<;>with_reducible rfl) ae ?_;try simp only [aS,aN,aT,a0,a1])
  refine bI (i:=5) (by kernel_rfl) rfl fun K hK=>?_
  go_simp
  go_at_call 89
  refine (HH.out.y.useN HB.out.drew (fun X wx w H=>dk 1 X wx w0 g h qs a c 3 w H HN.out)).mono ?_
  rintro e w1 ⟨rfl,H1⟩
  exact ⟨rfl,cY (s:=0) (ba HS.out) rfl H1.less⟩
 have hd:aM h c ⟨21,ia,ib,ic,ii,args⟩=vN h c ⟨21,ia,ib,ic,ii,args⟩:=rfl
 rw [hd]
 unfold vN
 dsimp only
 rcases gB (c:=c) with h0|⟨l,v,h0⟩
 ·rw [cZ (fE h0),if_pos (kq ho 6).1]
  exact (bad (Or.inl h0)).mono fun e w' q=>dx (d:=⟨h.fin 6,c,0⟩) rfl (aY hs 6) q
 obtain ⟨h1,h2,h4⟩:=fF h0
 rw [dJ h1,h2,h4,if_neg (by rw [ho];decide)]
 unfold Hp.throw
 by_cases hk:v.kind=3
 ·have kX:=hst v (by rw [h0];simp) hk
  have hi:isRef v=true:=decide_eq_true hk
  have hm:h.mustB (isRef v)=true:=by unfold Hp.mustB;rw [hi,ho];rfl
  rw [if_pos hm]
  have HT:Hid (∀X wx w,RX 1 X wx w0 g w h qs a c->Calls Tryz.prog 89 #[.pointer (some ⟨a.q,0,none⟩),int i64 3] w fun e w'=>e=.returned (cn (im v))/\RX 1 X wx w0 g w' h qs a { c with stk:=l }):=fun X wx w H=>cz 1 X wx w0 g h qs a c l v 3 w H h0 hk
  by_cases hn:v.n<0
  ·rw [if_pos hn]
   obtain ⟨E,hE⟩:∃E,bM h=E:=⟨_,rfl⟩
   have IQ:Hid (∃ch,E=.panicked ch):=by
    rw [<-hE];unfold bM;split<;>exact ⟨_,rfl⟩
   have xM:Hid (∀X wx w,RX 1 X wx w0 g w h qs a { c with stk:=l }->Calls Tryz.prog 156 #[.pointer (some ⟨g.hb,0,none⟩),cn (im v)] w fun e w'=>e=E/\RX 1 X wx w0 g w' (h.raise 1) qs a { c with stk:=l }):=fun X wx w H=>hE▸yx 1 X wx w0 g h qs a { c with stk:=l } v w H iD ho hk (by omega)
   have HD:Hid (∀w',RS 0 X wx w0 g w' (h.raise 1) qs a c->bT X wx w0 g qs a c ⟨h.raise 1,{ c with stk:=l },c.pc+1⟩ E w'):=fun w' H=>hE▸jb hs rfl H
   generalize im v=V at HT xM
   clear H hs hd bad h0 h1 h2 h4 hi hm F hst kX hk hE hn
   obtain ⟨ch,rfl⟩:=IQ.out
   go_enter Tryz.func153,Tryz.ntmps153
   go_wp2
   refine wp_region_held_drew (S:=fun w'=>w'.cell? ⟨a.q,0,none⟩=some (.pointer (some ⟨g.hb,0,none⟩))/\w'.cell? ⟨w.heap.size,1,none⟩=some (int i64 ia)) (by kernel_rfl) ?_ (fun ae=>?_)
   ·exact ⟨z0.out,z1.out⟩
   iterate 5 (refine tn rfl (by kernel_rfl) (fun _ _ _ h=>h) (by intro _ h;go_split_ands;go_simp<;>with_reducible rfl) ae ?_;try simp only [aS,aN,aT,a0,a1])
   refine bI (i:=5) (by kernel_rfl) rfl fun K hK=>?_
   go_simp
   go_at_call 89
   refine (HH.out.y.useY HB.out.drew HT.out).mono ?_
   rintro e w1 ⟨rfl,H1,K1⟩
   have bH:=K1.at (Xp.new (Nat.le_refl _) (cX w _)) HL.out
   have jx:=ab H1.hb
   have jy:=ab (aF bH).1
   replace bH:=ab bH
   replace H1:=ab H1
   go_wp2_with fail
   refine hK.out _ _ (⟨jx.out,jy.out⟩) (fun ah=>?_)
   try simp only [aS,aN,aT,a0,a1]
   refine bI (i:=6) (by kernel_rfl) rfl fun K hK=>?_
   go_simp
   go_at_call 156
   refine (H1.out.useY (Bl.refl _) xM.out).mono ?_
   rintro e w2 ⟨rfl,H2,K2⟩
   exact ⟨rfl,HD.out _ (H2.x.less.rs.of rfl ⟨rfl,rfl⟩)⟩
  ·rw [if_neg hn]
   have xM:Hid (∀w,Calls Tryz.prog 156 #[.pointer (some ⟨g.hb,0,none⟩),cn (im v)] w fun e w'=>e=wy v.n/\Bl w w'):=fun w=>mL g.hb v hk (by omega) w
   have HD:Hid (∀w',RS 0 X wx w0 g w' h qs a c->bT X wx w0 g qs a c ⟨{ h with thrown:=v.n },{ c with stk:=l },c.pc+1⟩ (wy v.n) w'):=fun w' H=>by
    have QQ:0<=v.n:=by omega
    refine ⟨?_,fun _=>H.eqv ⟨rfl,rfl,rfl,rfl,rfl,rfl,rfl⟩,fun q=>?_⟩
    ·unfold js;dsimp only;rw [if_neg (by rw [ho];decide),if_pos QQ]
    ·simp [Hp.stops] at q;omega
   generalize v.n=VN at xM HD
   generalize im v=V at HT xM
   clear H hs hd bad h0 h1 h2 h4 hi hm F hst kX hk
   go_enter Tryz.func153,Tryz.ntmps153
   go_wp2
   refine wp_region_held_drew (S:=fun w'=>w'.cell? ⟨a.q,0,none⟩=some (.pointer (some ⟨g.hb,0,none⟩))/\w'.cell? ⟨w.heap.size,1,none⟩=some (int i64 ia)) (by kernel_rfl) ?_ (fun ae=>?_)
   ·exact ⟨z0.out,z1.out⟩
   iterate 5 (refine tn rfl (by kernel_rfl) (fun _ _ _ h=>h) (by intro _ h;go_split_ands;go_simp<;>with_reducible rfl) ae ?_;try simp only [aS,aN,aT,a0,a1])
   refine bI (i:=5) (by kernel_rfl) rfl fun K hK=>?_
   go_simp
   go_at_call 89
   refine (HH.out.y.useY HB.out.drew HT.out).mono ?_
   rintro e w1 ⟨rfl,H1,K1⟩
   have bH:=K1.at (Xp.new (Nat.le_refl _) (cX w _)) HL.out
   have jx:=ab H1.hb
   have jy:=ab (aF bH).1
   replace bH:=ab bH
   replace H1:=ab H1
   go_wp2_with fail
   refine hK.out _ _ (⟨jx.out,jy.out⟩) (fun ah=>?_)
   try simp only [aS,aN,aT,a0,a1]
   refine bI (i:=6) (by kernel_rfl) rfl fun K hK=>?_
   go_simp
   go_at_call 156
   refine (xM.out _).mono ?_
   rintro e w2 ⟨rfl,b2⟩
   exact ⟨rfl,HD.out _ ((H1.out.bl b2).rs.less.of rfl ⟨rfl,rfl⟩)⟩
 ·have hi:isRef v=false:=decide_eq_false hk
  have hm:h.mustB (isRef v)=false:=by unfold Hp.mustB;rw [hi];rfl
  rw [if_neg (by rw [hm];decide),cZ hi]
  exact (bad (Or.inr ⟨l,v,h0,hk⟩)).mono fun e w' q=>dx (d:=⟨h.fin 6,c,0⟩) rfl (aY hs 6) q
end
end
theorem GP {a b n:Int} (h:0<=a/\a<n/\(b=2->a+1<n)/\b≠0):0<=a/\a<n/\(b=2->a+1<n):=⟨h.1,h.2.1,h.2.2.1⟩
theorem PG {cs:List Cl} {nm iK:Nat} {locs:Int} {i:In} (h:bE cs nm iK locs i=true) (e:i.op=24):i.a≠3:=by
 obtain ⟨op,a,b,c,n,args⟩:=i
 dsimp only at e
 subst e
 unfold bE at h
 simp at h
 show a≠3
 omega
theorem De (X:Nat->Prop) (wx w0:World) (g:Mg) (h:Hp) (qs:List Nat) (a:Mc) (c:aH) (i:In) (Q:Option Addr) (nl q:Nat) (w:World) (H:RX 1 X wx w0 g w h qs a c) (hs:h.stops=false) (gh:Gh 1 h) (gc:Gc h c) (F:Fix w0 g h) (Gb:h.input.length<=1000000) (ok:vV h.file.classes h.file.methods.length c.m.code.length c.locs.length i) (LO:i.op=24->i.a≠3) (YV:i.op≠11) (YW:i.op≠12) (YX:i.op≠13) (n19:i.op≠19) (n20:i.op≠20) :
  Calls Tryz.prog 94 #[.pointer (some ⟨a.q,0,none⟩),.agg #[int i64 i.op,int i64 i.a,int i64 i.b,int i64 i.c,int i64 i.n,.slice Q nl q]] w fun e w'=>bT X wx w0 g qs a c (aM h c i) e w':=by
 have hl:c.stk.length<=1000:=by have:=gc.short;omega
 have iD:=gh.len
 have hst:∀v∈c.stk,v.kind=3->-1<=v.n/\v.n<h.objs.length:=fun v hv e=>(gc.stk v hv).ref e
 have Nu:h.sh.steps<=100000:=by have:=gh.steps;have:=gh.fuel;omega
 have vX:h.sh.out.length<=100000:=by have:=gh.out;have:=gh.steps;have:=gh.fuel;omega
 obtain ⟨op,ia,ib,ic,ii,args⟩:=i
 dsimp only at *
 have hop:=ok.op
 dsimp only at hop
 have:op=1∨op=2∨op=3∨op=4∨op=5∨op=6∨op=7∨op=8∨op=9∨op=10∨op=14∨op=15∨op=16∨op=17∨op=18∨op=21∨op=22∨op=23∨op=24∨op=25:=by omega
 rcases this with rfl|rfl|rfl|rfl|rfl|rfl|rfl|rfl|rfl|rfl|rfl|rfl|rfl|rfl|rfl|rfl|rfl|rfl|rfl|rfl
 ·exact F4 X wx w0 g h qs a c ia ib ic ii args Q nl q w H hs hl
 ·exact F6 X wx w0 g h qs a c ia ib ic ii args Q nl q w H hs hl
 ·exact Ga X wx w0 g h qs a c ia ib ic ii args Q nl q w H hs hl
 ·exact Gd X wx w0 g h qs a c ia ib ic ii args Q nl q w H hs hl (GP (ok.slot (Or.inl rfl))) (ok.kind (Or.inl rfl))
 ·exact Gj X wx w0 g h qs a c ia ib ic ii args Q nl q w H hs hl (GP (ok.slot (Or.inr rfl))) (ok.kind (Or.inr rfl))
 ·exact Ge X wx w0 g h qs a c ia ib ic ii args Q nl q w H hs hl iD
 ·exact Gf X wx w0 g h qs a c ia ib ic ii args Q nl q w H hs hl iD
 ·exact Gg X wx w0 g h qs a c ia ib ic ii args Q nl q w H hs hl
 ·exact Gi X wx w0 g h qs a c ia ib ic ii args Q nl q w H hs hl
 ·exact CM X wx w0 g h qs a c ia ib ic ii args Q nl q w H hs hl iD
 ·exact xm X wx w0 g qs a c ia ib ic ii Q nl q _ w (fun w=>RX 1 X wx w0 g w h qs a c) H (fun w' hb=>H.bl hb) (fun w H=>xK X wx w0 g h qs a c ia ib ic ii args Q nl q w H hs hl iD)
 ·exact xp X wx w0 g qs a c ia ib ic ii Q nl q _ w (fun w=>RX 1 X wx w0 g w h qs a c) H (fun w' hb=>H.bl hb) (fun w H=>xO X wx w0 g h qs a c ia ib ic ii args Q nl q w H hs hl F iD hst (ok.fld (Or.inl rfl)))
 ·exact xq X wx w0 g qs a c ia ib ic ii Q nl q _ w (fun w=>RX 1 X wx w0 g w h qs a c) H (fun w' hb=>H.bl hb) (fun w H=>xN X wx w0 g h qs a c ia ib ic ii args Q nl q w H hs hl F iD hst (ok.fld (Or.inr rfl)) Nu)
 ·exact xr X wx w0 g qs a c ia ib ic ii Q nl q _ w (fun w=>RX 1 X wx w0 g w h qs a c) H (fun w' hb=>H.bl hb) (fun w H=>xL X wx w0 g h qs a c ia ib ic ii args Q nl q w H hs hl F iD hst)
 ·exact xt X wx w0 g qs a c ia ib ic ii Q nl q _ w (fun w=>RX 1 X wx w0 g w h qs a c) H (fun w' hb=>H.bl hb) (fun w H=>xP X wx w0 g h qs a c ia ib ic ii args Q nl q w H hs hl F iD hst)
 ·exact xv X wx w0 g qs a c ia ib ic ii Q nl q _ w (fun w=>RX 1 X wx w0 g w h qs a c) H (fun w' hb=>H.bl hb) (fun w H=>xQ X wx w0 g h qs a c ia ib ic ii args Q nl q w H hs hl F iD hst)
 ·exact CJ X wx w0 g h qs a c ia ib ic ii args Q nl q w H hs hl
 ·exact CN X wx w0 g h qs a c ia ib ic ii args Q nl q w H hs hl
 ·exact CO X wx w0 g h qs a c ia ib ic ii args Q nl q w H hs hl (LO rfl) vX
 ·exact CK X wx w0 g h qs a c ia ib ic ii args Q nl q w H hs hl F.inp gh.used Gb
theorem oH (l:List Va):l=[]∨∃(l':List Va) (v:Va),l=l'++[v]:=by
 rcases List.eq_nil_or_concat l with h|⟨l',v,h⟩
 ·exact Or.inl h
 ·exact Or.inr ⟨l',v,by simpa using h⟩
theorem Ko (X:Nat->Prop) (wx w0:World) (g:Mg) (h:Hp) (qs:List Nat) (a:Mc) (c:aH) (i:In) (pC:nth fW c.m.code c.pc.toNat=i) (hp:0<=c.pc/\c.pc<c.m.code.length) (w:World) (H:RX 1 X wx w0 g w h qs a c) (ho:h.over=false) (ht:h.thrown=-1) (gh:Gh 1 h) (gc:Gc h c) (F:Fix w0 g h) (Gb:h.input.length<=1000000) (n19:i.op≠19) (n20:i.op≠20):PF w a.q fun e w'=>rV X wx w0 g qs a c (aM h c i) e w':=by
 have hs:h.stops=false:=by unfold Hp.stops;rw [ho,ht];rfl
 obtain ⟨ok,Bd⟩:=lZ gc hp
 have PH:=(jh gc.me).2.2.2.2.2.2.2.1 _ (bJ (d:=fW) (i:=c.pc.toNat) (by omega))
 obtain ⟨cb,co,Q,q,A⟩:=H.ati hp
 rw [pC] at ok Bd A PH
 have m1:∀b,h.must b=if b=true then h else h.fin 6:=fun b=>rfl
 have mb:∀b,h.mustB b=b:=fun b=>by unfold Hp.mustB;rw [ho];simp
 have ff:∀b,(h.fin 6).must b=h.fin 6:=fun b=>by
  have e:h.fin 6={ h with over:=true,sh:={ h.sh with fin:=6 } }:=by unfold Hp.fin;rw [if_neg (by rw [ho];decide)]
  unfold Hp.must
  split
  ·rfl
  ·rw [e];unfold Hp.fin;rw [if_pos rfl]
 obtain ⟨op,ia,ib,ic,ii,args⟩:=i
 by_cases G3:op=11
 ·exact Kb X wx w0 g h qs a c w H hs op ia ib ic ii args cb co Q q _ A G3
 by_cases pQ:op=12
 ·subst pQ
  have hd:aM h c ⟨12,ia,ib,ic,ii,args⟩=DC h c ⟨12,ia,ib,ic,ii,args⟩:=rfl
  rw [hd]
  rcases oH c.stk with e|⟨l,v,e⟩
  ·refine xy X wx w0 g h qs a c w H hs 12 ia ib ic ii args cb co Q q _ A rfl _ ?_ (Or.inl e)
   unfold DC;dsimp only;rw [fE e,m1,if_neg (by decide),ff]
  ·obtain ⟨b1,b2,b3⟩:=fF e
   by_cases hk:v.kind=1
   ·have eh:(DC h c ⟨12,ia,ib,ic,ii,args⟩).h=h:=by unfold DC;dsimp only;rw [b1,b2];simp [m1,hk]
    cases hb:jB ib v.n with
    | true =>
     refine Gn X wx w0 g h qs a c w H hs 12 ia ib ic ii args cb co Q q _ A rfl _ l v e hk hb eh ?_
     unfold DC;dsimp only;rw [b1,b2,b3];simp [m1,mb,hk,hb]
    | false =>
     refine Gp X wx w0 g h qs a c w H hs 12 ia ib ic ii args cb co Q q _ A rfl _ l v e hk hb eh ?_
     unfold DC;dsimp only;rw [b1,b2,b3];simp [m1,mb,hk,hb]
   ·refine xy X wx w0 g h qs a c w H hs 12 ia ib ic ii args cb co Q q _ A rfl _ ?_ (Or.inr ⟨l,v,e,hk⟩)
    unfold DC;dsimp only;rw [b1,b2];simp [m1,hk]
 by_cases MX:op=13
 ·subst MX
  have hd:aM h c ⟨13,ia,ib,ic,ii,args⟩=pV h c ⟨13,ia,ib,ic,ii,args⟩:=rfl
  rw [hd]
  rcases oH c.stk with e|⟨l,v,e⟩
  ·refine nV X wx w0 g h qs a c w H hs 13 ia ib ic ii args cb co Q q _ A rfl _ ?_ (Or.inl e)
   unfold pV;dsimp only;rw [fE e,m1,if_neg (by decide),ff]
  ·obtain ⟨b1,b2,b3⟩:=fF e
   by_cases hk:v.kind=3
   ·have hr:isRef v=true:=by unfold isRef;simpa using hk
    have eh:(pV h c ⟨13,ia,ib,ic,ii,args⟩).h=h:=by unfold pV;dsimp only;rw [b1,b2];simp [m1,hr]
    have hv:=(gc.stk v (by rw [e];simp)).ref hk
    by_cases hn:v.n<0
    ·refine tR X wx w0 g h qs a c w H hs 13 ia ib ic ii args cb co Q q _ A rfl _ l v e hk (l6 hk (by omega)) eh ?_
     unfold pV;dsimp only;rw [b1,b2,b3];simp [m1,mb,hr,hn]
    ·refine tS X wx w0 g h qs a c w H hs 13 ia ib ic ii args cb co Q q _ A rfl _ l v e hk (lz hk (by omega)) eh ?_
     unfold pV;dsimp only;rw [b1,b2,b3];simp [m1,mb,hr,hn]
   ·have hr:isRef v=false:=by unfold isRef;simpa using hk
    refine nV X wx w0 g h qs a c w H hs 13 ia ib ic ii args cb co Q q _ A rfl _ ?_ (Or.inr ⟨l,v,e,hk⟩)
    unfold pV;dsimp only;rw [b1,b2];simp [m1,hr]
 ·exact Ka X wx w0 g h qs a c w H hs op ia ib ic ii args cb co Q q _ A G3 pQ MX n19 n20 (fun w' hb=>De X wx w0 g h qs a c ⟨op,ia,ib,ic,ii,args⟩ Q args.length q w' (H.bl hb) hs gh gc F Gb ok (fun e=>PG PH e) G3 pQ MX n19 n20)
theorem rB {nc:Nat} {t:Ty} (h:ng nc t=true):0<=t.kind/\t.kind<=3:=by
 unfold ng fu at h;rw [Bool.or_eq_true,decide_eq_true_eq,decide_eq_true_eq] at h;omega
theorem Kq (f:Fi) (inp:List Int) (w0:World) (g:Mg) (h:Hp) (k:Kl) (L:List Kl) (hf:h.file=f) (hmay:qa f) (jX:f.methods.length<=8) (gh:Gh 1 h) (ho:h.over=false) (ht:h.thrown=-1) (hcl:h.calls=((k::L).length:Int)) (gc:Gc h k.c) (hp:0<=k.c.pc/\k.c.pc<=k.c.m.code.length) (hI:IC h (L.map (·.c))) (F:Fix w0 g h) (Gb:h.input.length<=1000000) :
  NV w0 g h k L (dU h k.c (L.map (·.c)))∨Lx w0 g h k L (dU h k.c (L.map (·.c)))∨UO w0 g h k L (dU h k.c (L.map (·.c))):=by
 have hlen:L.length<=100:=by have:=gh.calls;rw [hcl] at this;simp at this;omega
 unfold dU
 by_cases hlt:k.c.pc<k.c.m.code.length
 ·rw [if_neg (by simpa using hlt)]
  obtain ⟨ok,Bd⟩:=lZ gc ⟨hp.1,hlt⟩
  generalize pC:nth fW k.c.m.code k.c.pc.toNat=i at *
  by_cases oW:i.op=20
  ·rw [if_pos oW]
   have hop:(nth fW k.c.m.code k.c.pc.toNat).op=20:=by rw [pC];exact oW
   unfold yo
   by_cases yq:k.c.m.ret.kind=0
   ·rw [if_pos yq]
    exact (AH w0 g h k L ag k.c hop ⟨hp.1,hlt⟩ hI hlen (Or.inl rfl) (fun X wx w H=>xz 1 X wx w0 g h _ k.a k.c w H yq)).elim Or.inl (fun z=>Or.inr (Or.inl z))
   ·rw [if_neg yq]
    have hno:(k.c.stk=[]∨∃(l:List Va) (v:Va),k.c.stk=l++[v]/\(v.kind=3->-1<=v.n/\v.n<h.objs.length)/\h.of v k.c.m.ret=false)->Lx w0 g h k L (gL 6 ag h):=fun hn=>by
     refine ⟨⟨rfl,(by show (6:Int)≠2;decide)⟩,fun Z wx w H=>?_⟩
     obtain ⟨cb,co,Q,q,A⟩:=H.top.ati ⟨hp.1,hlt⟩
     refine (Db _ _ w0 g h _ k.a k.c w H.top _ _ _ _ _ _ cb co Q q _ A hop (fun X wx w H=>CR 1 X wx w0 g h _ k.a k.c w H F gh.len yq hn)).mono ?_
     rintro e w' ⟨rfl,c',d1,d2,H'⟩
     obtain ⟨il,l',H2⟩:=H.of H'
     exact ⟨rfl,_,trivial,H2.less⟩
    rcases oH k.c.stk with e|⟨l,v,e⟩
    ·rw [if_pos (fE e)]
     exact Or.inr (Or.inl (hno (Or.inl e)))
    ·obtain ⟨b1,b2,b3⟩:=fF e
     rw [if_neg (by rw [b1];decide),b2]
     have hv:=(gc.stk v (by rw [e];simp)).ref
     by_cases jz:h.of v k.c.m.ret=true
     ·rw [if_pos jz]
      have QM:1<=v.kind/\v.kind<=3:=by
       have KJ:=(jh gc.me).2.2.2.2.2.2.2.2.2.2
       have:=rB KJ
       unfold Hp.of at jz
       rw [Bool.and_eq_true,decide_eq_true_eq] at jz
       omega
      exact (AH w0 g h k L v { k.c with stk:=l } hop ⟨hp.1,hlt⟩ hI hlen (Or.inr QM) (fun X wx w H=>zf 1 X wx w0 g h _ k.a k.c l v w H F gh.len yq e hv jz)).elim Or.inl (fun z=>Or.inr (Or.inl z))
     ·rw [if_neg jz]
      exact Or.inr (Or.inl (hno (Or.inr ⟨l,v,e,hv,by simpa using jz⟩)))
  ·rw [if_neg oW]
   by_cases pn:i.op=19
   ·rw [if_pos pn]
    exact (Dd w0 g h k L i pC pn (by have:=ok.call pn;exact this) (hf▸hmay) (by rw [hf];exact jX) gh gc ⟨hp.1,hlt⟩ hI hcl F).elim Or.inl (fun z=>Or.inr (Or.inl z))
   ·rw [if_neg pn]
    exact Nk w0 g h k L i ho ht hI hcl ⟨hp.1,hlt⟩ (kf gh gc ho ht ok Bd ⟨hp.1,hlt⟩) (fun X wx w H=>Ko X wx w0 g h _ k.a k.c i pC ⟨hp.1,hlt⟩ w H ho ht gh gc F Gb pn oW)
 ·rw [if_pos hlt]
  exact Or.inr (Or.inl (Nl w0 g h k L ho ht gc hlt))
def S8 (f:Fi) (inp:List Int) (n:Nat) (h:Hp) (cs:List aH):Prop:=IM f inp h cs/\cq n h
theorem Kr (f:Fi) (inp:List Int) (w0:World) (g:Mg) (jX:f.methods.length<=8) (Gb:inp.length<=1000000) (hF:∀h:Hp,h.file=f->h.input=inp->Fix w0 g h):GK (S8 f inp) w0 g:=by
 rintro n h L ⟨im,en⟩
 obtain ⟨c,cs,e,gc,Ht,vl,hI⟩:=im.ex
 cases L with
 | nil=>cases e
 | cons k L2 =>
  simp only [List.map_cons,List.cons.injEq] at e
  obtain ⟨rfl,rfl⟩:=e
  have hcl:=im.calls
  rw [List.length_map] at hcl
  cases hb:h.stepB with
  | false =>
   have hle:h.fuel<=h.sh.steps:=by unfold Hp.stepB at hb;rw [im.over] at hb;simpa using hb
   refine Or.inr (Or.inl ⟨0,ag,h,?_,by decide,fun Z wx w H=>(C4 0 Z wx w0 g h _ w H hle).mono ?_⟩)
   ·cases n with
    | zero=>rfl
    | succ n=>show (if h.stepB=false then _ else _)=_;rw [if_pos hb]
   ·rintro e w' ⟨rfl,H'⟩
    exact ⟨rfl,_,trivial,H'⟩
  | true =>
   obtain ⟨q1,q2,q3,q4,q5,q6⟩:=fV hb
   have hst:h.sh.steps<h.fuel:=by unfold Hp.stepB at hb;simp at hb;exact hb.2
   cases n with
   | zero=>unfold cq at en;omega
   | succ n =>
    have XH:cq n h.step:=fj en hb
    have sl:=jI h
    have Oi:=im.gh.step hb
    have LS:=gc.le sl
    have QN:=hI.le sl
    have G6:h.step.file=f:=q5.trans im.file
    have NJ:h.step.input=inp:=sl.input.trans im.input
    have KE:h.step.thrown=-1:=q4.trans im.thr
    have Ey:h.step.calls=((k::L2).length:Int):=q6.trans hcl
    have F1:=hF h.step G6 NJ
    have hlim:0<=h.sh.steps/\h.sh.steps<1000000:=by have:=im.gh.out;have:=im.gh.fuel;omega
    have D:=Kq f inp w0 g h.step k L2 G6 im.may jX Oi q3 KE Ey LS ⟨Ht,vl⟩ QN F1 (by rw [NJ];exact Gb)
    have hinv:(dU h.step k.c (L2.map (·.c))).fin=false->IM f inp (dU h.step k.c (L2.map (·.c))).h (dU h.step k.c (L2.map (·.c))).cs:=fun hfin=>wm G6 NJ im.may Oi q3 KE (by rw [Ey];simp) LS ⟨Ht,vl⟩ QN hfin
    have Il:=pF h.step k.c (L2.map (·.c))
    have hrun:runM (n+1) h (k.c::L2.map (·.c))=if (dU h.step k.c (L2.map (·.c))).fin=true then dU h.step k.c (L2.map (·.c)) else runM n (dU h.step k.c (L2.map (·.c))).h (dU h.step k.c (L2.map (·.c))).cs:=by
     show (if h.stepB=false then _ else _)=_
     rw [if_neg (by rw [hb];decide)]
    generalize dU h.step k.c (L2.map (·.c))=o at *
    have LC:(o.h.fuel-o.h.sh.steps).toNat<(h.fuel-h.sh.steps).toNat:=by have:=Il.fuel;have:=Il.steps;omega
    have PI:cq n o.h:=by unfold cq at XH ⊢;have:=Il.fuel;have:=Il.steps;omega
    rcases D with ⟨a1,a2⟩|⟨⟨b1,b2⟩,b3⟩|⟨h1,QI,c1,c2,c3,c4,c5,c6,c7,c8⟩
    ·refine Or.inl ⟨n,o.h,o.cs,?_,⟨hinv a1,PI⟩,LC,fun Z wx w H=>tV 0 Z wx w0 g h k L2 w H hb hlim _ _ (Or.inl rfl) (a2 Z wx)⟩
     show runM (n+1) h (k.c::L2.map (·.c))=_
     rw [hrun,a1,if_neg (by decide)]
    ·refine Or.inr (Or.inl ⟨o.how,o.v,o.h,?_,b2,fun Z wx w H=>tV 0 Z wx w0 g h k L2 w H hb hlim _ _ (Or.inr ⟨_,rfl⟩) (b3 Z wx)⟩)
     have XI:o.fin=true:=by rw [b1];rfl
     show runM (n+1) h (k.c::L2.map (·.c))=_
     rw [hrun,if_pos XI]
     exact b1
    ·refine Or.inr (Or.inr ⟨n,h1,o,⟨3,h1.thrown⟩,hrun,fun hfin=>⟨⟨hinv hfin,PI⟩,LC⟩,⟨rfl,c2,c4.thr.2,rfl⟩,hF h1 (c5.file.trans G6) (c5.input.trans NJ),c4.len,fun Z wx w H=>tV 0 Z wx w0 g h k L2 w H hb hlim _ _ (Or.inr ⟨_,rfl⟩) (c8 Z wx)⟩)
section
variable {ts:List Ty}
theorem vg {q:Nat} (hq:q<ts.length):nth ag (lB ts args ts.length) q=NH ts args q:=by
 rw [bU (by rw [du];exact hq)]
 simp [lB,hq]
theorem AK {v:Va} (hv:v∈lB ts args ts.length):∃q,q<ts.length/\v=NH ts args q:=by
 obtain ⟨q,hq,rfl⟩:=List.getElem_of_mem hv
 have NG:q<ts.length:=by rw [du] at hq;exact hq
 exact ⟨q,NG,by rw [<-bU (d:=ag) hq,vg NG]⟩
theorem pK (h:mi ts=false):∀q,q<ts.length->(nth cN ts q).kind≠3:=by
 intro q hq e
 rw [wE hq e] at h
 cases h
theorem Nr (h:∀q,q<ts.length->(nth cN ts q).kind≠3):(lB ts args ts.length).map im=lB ts args ts.length:=by
 rw [List.map_congr_left (g:=id)]
 ·exact List.map_id _
 ·intro v hv
  obtain ⟨q,hq,rfl⟩:=AK hv
  exact eJ (h q hq)
end
section
variable {h:Hp} {ts:List Ty} {args:List Int}
theorem oI (hk:∀q,q<ts.length->(nth cN ts q).kind≠3):h.enterL (lB ts args ts.length) ts=true:=by
 refine (lu h _ ts (du ts args _)).2 fun q hq=>?_
 rw [vg hq]
 unfold Hp.of
 have:=hk q hq
 simp [NH,this]
theorem Ns (hk:∀q,q<ts.length->(nth cN ts q).kind≠3) (hl:args.length=ts.length) (ha:∀n∈args,cP n):∀v∈lB ts args ts.length,iO h v:=by
 intro v hv
 obtain ⟨q,hq,rfl⟩:=AK hv
 refine ⟨fun e=>absurd e (hk q hq),?_⟩
 show cP (if (nth cN ts q).kind=1 then wrap32 (nth (0:Int) args q) else nth (0:Int) args q)
 split
 ·exact pD _
 ·exact ha _ (bJ (by omega))
end
theorem vh {B:Bool} {ms:List Me} {entry fuel:Int} {na ni:Nat} (h:lQ B ms entry fuel na ni=0):B=true/\(0<=entry/\entry<(ms.length:Int))/\(0<=fuel/\fuel<=60000)/\ni<=1000/\mi (nth bO ms entry.toNat).params=false/\na=(nth bO ms entry.toNat).params.length:=by
 unfold lQ at h
 split at h
 ·cases h
 ·rename_i h1
  split at h
  ·cases h
  ·rename_i h2
   split at h
   ·cases h
   ·rename_i h3
    split at h
    ·rename_i h4
     rw [Bool.and_eq_true] at h4
     have h5:mi (nth bO ms entry.toNat).params=false:=by simpa using h4.1
     have h6:na=(nth bO ms entry.toNat).params.length:=of_decide_eq_true h4.2
     have h7:(0<=entry/\entry<(ms.length:Int))/\(0<=fuel/\fuel<=60000):=by omega
     exact ⟨by simpa using h1,h7.1,h7.2,by omega,h5,h6⟩
    ·cases h
def gK (f:Fi) (input:List Int) (fuel:Int):Hp:={ gC f input fuel with calls:=1 }
theorem vi {f:Fi} (h:bW f=true):eQ f.classes=true/\(1<=f.methods.length/\f.methods.length<=8)/\∀m∈f.methods,fw f.classes f.methods.length m=true:=by
 unfold bW at h
 rw [Bool.and_eq_true,Bool.and_eq_true,List.all_eq_true] at h
 exact ⟨h.1.1,of_decide_eq_true h.1.2,h.2⟩
theorem GQ (f:Fi) (input args:List Int) (fuel:Int) (n:Nat) (hmay:bW f=true) (hok:∀m∈f.methods,∀i∈m.code,i.ok) (hI:∀x∈input,cP x) (hA:∀x∈args,cP x) (hf:0<=fuel/\fuel<=60000) (hn:n<f.methods.length) (hr:mi (nth bO f.methods n).params=false) (hl:args.length=(nth bO f.methods n).params.length) :
  S8 f input fuel.toNat (gK f input fuel) [bS (nth bO f.methods n) (lB (nth bO f.methods n).params args (nth bO f.methods n).params.length)]:=by
 obtain ⟨m1,m2,m3⟩:=vi hmay
 have hm:=bJ (d:=bO) hn
 have hk:=pK hr
 have gc:Gc (gK f input fuel) (bS (nth bO f.methods n) (lB (nth bO f.methods n).params args (nth bO f.methods n).params.length)) :=
  nz (m3 _ hm) (hok _ hm) (du _ _ _) (Ns hk hl hA) (oI hk)
 refine ⟨⟨rfl,rfl,fun m h=>⟨m3 m h,hok m h⟩,⟨fun o ho=>by simp [gK,gC] at ho,by simp [gK,gC],by simp [gK,gC],by simp [gK,gC];exact hf.1,hf,by simp [gK,gC],by simp [gK,gC],hI,by simp [gK,gC]⟩,rfl,rfl,rfl,_,[],rfl,gc,Int.le_refl _,?_,fun c hc=>by cases hc⟩,?_⟩
 ·show (0:Int)<=_
  omega
 ·unfold cq
  show fuel-0<=_
  omega
end Go.Proofs.YtgiiapenmjollaaGreat
