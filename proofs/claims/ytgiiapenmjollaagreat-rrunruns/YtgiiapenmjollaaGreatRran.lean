import Derived.Test.YtgiiapenmjollaaGreatRram
namespace Go.Proofs.YtgiiapenmjollaaGreat
set_option linter.all false
set_option maxHeartbeats 40000000
set_option maxRecDepth 100000
open Go.RowKit
open Tryz
variable {c:aL} {h:Hp} {i:In} {n:Int} {a:Mc} {g:Mg} {b:Nat} {X:Nat->Prop} {w w0 wx:World}
section
open Go.Maps (Keyed has)
section
variable (X:Nat->Prop) (wx w0:World) (g:Mg) (h:Hp)
theorem Ag (qs:List Qb) (a:Mc) (c:aL) (ia ib ic ii:Int) (args:List Int) (Q:Option Addr) (nl q:Nat) (w:World) (H:RX 1 X wx w0 g w h qs a c) (hs:h.stops=false) (ha:0<=ia/\ia<c.locs.length) (hb:0<=ib/\ib<c.locs.length) (F:Fix w0 g h) (eT:h.objs.length<=100) (yH:(c.rd ia).kind=3->-1<=(c.rd ia).n/\(c.rd ia).n<h.objs.length) (hvb:(c.rd ib).kind=3->-1<=(c.rd ib).n/\(c.rd ib).n<h.objs.length) (hfl:0<=ic/\ic<h.file.classes.length/\0<=ii/\ii<(nth bL h.file.classes ic.toNat).fields.length) (h2:(bI h.file.classes ic ii).kind=2->ia+1<c.locs.length) (l9:h.of (c.rd ia) (bI h.file.classes ic ii)=false) :
  χ 134 #[π a.q 0,.agg #[ι 15,ι ia,ι ib,ι ic,ι ii,.slice Q nl q]] w fun e w'=>iT X wx w0 g qs a c ⟨h.fin 6,c.clr,c.pc+1⟩ e w':=by
 obtain ⟨cc,rfl⟩:∃cc:Nat,ic=cc:=⟨ic.toNat,by omega⟩
 obtain ⟨k,rfl⟩:∃k:Nat,ii=k:=⟨ii.toNat,by omega⟩
 rw [Int.toNat_natCast] at hfl
 have hc:cc<h.file.classes.length:=by omega
 have ny:k<(nth bL h.file.classes cc).fields.length:=by omega
 have ho:=(aF hs).1
 have HH:=ae H
 have HS:=ae hs
 have hq:=H.qlt
 have HB:Θ (Bl w (w.alloc (.cells #[ι 15,ι ia,ι ib,ι (cc:Int),ι (k:Int),.slice Q nl q] 55))):=(Bl.refl w).alloc _
 have dK:=ae (aB w #[ι 15,ι ia,ι ib,ι (cc:Int),ι (k:Int),.slice Q nl q] 55)
 have z0:=ae ((H.y.bl HB.o).hb)
 have z1:=ae (dr dK.o)
 obtain ⟨fb,fo,FB,ff,uc,hA,y0,m1,m2,y1,y2⟩:=iZ F.cls hc ny
 have kW:Bl w0 w:=by
  obtain ⟨vc,vo,vx,vs,l,H⟩:=H
  exact H.rh.bl
 have z3:Θ ((w.alloc (.cells #[ι 15,ι ia,ι ib,ι (cc:Int),ι (k:Int),.slice Q nl q] 55)).cell? ⟨g.hb,0,none⟩=some (.slice (some ⟨fb,fo,none⟩) h.file.classes.length g.a)):=by
  obtain ⟨vc,vo,vx,vs,l,H⟩:=H
  rw [<-hA]
  exact Bl.cell HB.o H.rh.heapCells.1
 have Uo:g.hb<w.heap.size:=by
  obtain ⟨vc,vo,vx,vs,l,H⟩:=H
  exact af H.rh.hp
 have E2:=br (Bl.cell kW y0)
 have QT:=br (Bl.cell kW y1)
 have z4:=ae (Bl.cell HB.o (Bl.cell kW y0))
 have z5:=ae (Bl.cell HB.o (Bl.cell kW y1))
 have z6:=ae (Bl.cell HB.o (Bl.cell kW y2))
 have vX:=gX F.may hc ny
 rw [gV] at vX h2 l9
 obtain ⟨t,ht⟩:∃t,nth bS (nth bL h.file.classes cc).fields k=t:=⟨_,rfl⟩
 rw [ht] at z5 z6 y1 y2 vX h2 l9
 have J9:(0:Int)<=(cc:Int):=by omega
 have E1:(cc:Int)<(h.file.classes.length:Int):=by omega
 have Fo:(0:Int)<=(k:Int):=by omega
 have PW:(k:Int)<((nth bL h.file.classes cc).fields.length:Int):=by omega
 have HT:Θ (∀w',RX 1 X wx w0 g w' h qs a c->χ 183 #[π a.q 0,ι ia,iC t] w' fun e w2=>e=bF 6 0 0/\Bl w' w2):=fun w' H=>rL 1 X wx w0 g h qs a c ia t w' H F eT ha vX h2 yH l9
 clear H hs F hfl hA y0 y1 y2 m1 m2 kW vX h2 ht ha hb eT yH hvb hc ny l9
 go_enter func134,ntmps134
 go_wp2
 refine wp_region_held_drew (S:=fun w'=>κ w' a.q 0 (π g.hb 0)/\κ w' w.heap.size 1 (ι ia)/\κ w' w.heap.size 3 (ι (cc:Int))/\κ w' w.heap.size 4 (ι (k:Int))/\κ w' g.hb 0 (.slice (some ⟨fb,fo,none⟩) h.file.classes.length g.a)/\κ w' fb (fo+cc*2+1) (.slice (some ⟨FB,ff,none⟩) (nth bL h.file.classes cc).fields.length uc)/\κ w' FB (ff+k*2) (ι t.kind)/\κ w' FB (ff+k*2+1) (ι t.cls)) (by kernel_rfl) ?_ (fun aa=>?_)
 ·exact ⟨z0.o,z1.o.2.1,z1.o.2.2.2.1,z1.o.2.2.2.2.1,z3.o,z4.o,z5.o,z6.o⟩
 iterate 19 (refine tn rfl (by kernel_rfl) (fun _ _ _ h=>h) (by intro _ h;go_split_ands;go_simp<;>with_reducible rfl) aa ?_;try simp only [aZ])
 refine wpAnyH_ready (rs:=[19,20]) (by kernel_rfl) (by simp) ?_
 refine AllReadyH.cons rfl (fun K hK=>?_) (AllReadyH.cons rfl (fun K hK=>?_) (AllReadyH.nil))
 ·go_simp
  go_at_call 183
  refine (HT.o _ (HH.o.bl (by first|exact HB.o.drew|exact HB.o.drew.alloc _))).mono ?_
  rintro e w2 ⟨rfl,b2⟩
  exact ⟨rfl,jK (aF HS.o).1 rfl ((HH.o.bl (by first|exact HB.o.drew|exact HB.o.drew.alloc _)).bl b2).less.rs⟩
 ·go_wp2_with fail
  refine hK.out _ _ (⟨Bl.cell ((Bl.refl _).alloc _) aa.1,Bl.cell ((Bl.refl _).alloc _) aa.2.1,Bl.cell ((Bl.refl _).alloc _) aa.2.2.1,Bl.cell ((Bl.refl _).alloc _) aa.2.2.2.1,Bl.cell ((Bl.refl _).alloc _) aa.2.2.2.2.1,Bl.cell ((Bl.refl _).alloc _) aa.2.2.2.2.2.1,Bl.cell ((Bl.refl _).alloc _) aa.2.2.2.2.2.2.1,Bl.cell ((Bl.refl _).alloc _) aa.2.2.2.2.2.2.2⟩) (fun ah=>?_)
  try simp only [aZ]
  refine aY (i:=19) (by kernel_rfl) rfl fun K hK=>?_
  go_simp
  go_at_call 183
  refine (HT.o _ (HH.o.bl (by first|exact HB.o.drew|exact HB.o.drew.alloc _))).mono ?_
  rintro e w2 ⟨rfl,b2⟩
  exact ⟨rfl,jK (aF HS.o).1 rfl ((HH.o.bl (by first|exact HB.o.drew|exact HB.o.drew.alloc _)).bl b2).less.rs⟩
theorem Ah (qs:List Qb) (a:Mc) (c:aL) (ia ib ic ii:Int) (args:List Int) (Q:Option Addr) (nl q:Nat) (w:World) (H:RX 1 X wx w0 g w h qs a c) (hs:h.stops=false) (ha:0<=ia/\ia<c.locs.length) (hb:0<=ib/\ib<c.locs.length) (F:Fix w0 g h) (eT:h.objs.length<=100) (yH:(c.rd ia).kind=3->-1<=(c.rd ia).n/\(c.rd ia).n<h.objs.length) (hvb:(c.rd ib).kind=3->-1<=(c.rd ib).n/\(c.rd ib).n<h.objs.length) (hfl:0<=ic/\ic<h.file.classes.length/\0<=ii/\ii<(nth bL h.file.classes ic.toNat).fields.length) (h2:(bI h.file.classes ic ii).kind=2->ia+1<c.locs.length) (l9:h.of (c.rd ia) (bI h.file.classes ic ii)=true) (G8:h.of (c.rd ib) ⟨3,ic⟩=false) :
  χ 134 #[π a.q 0,.agg #[ι 15,ι ia,ι ib,ι ic,ι ii,.slice Q nl q]] w fun e w'=>iT X wx w0 g qs a c ⟨h.fin 6,c.clr,c.pc+1⟩ e w':=by
 obtain ⟨cc,rfl⟩:∃cc:Nat,ic=cc:=⟨ic.toNat,by omega⟩
 obtain ⟨k,rfl⟩:∃k:Nat,ii=k:=⟨ii.toNat,by omega⟩
 rw [Int.toNat_natCast] at hfl
 have hc:cc<h.file.classes.length:=by omega
 have ny:k<(nth bL h.file.classes cc).fields.length:=by omega
 have ho:=(aF hs).1
 have HH:=ae H
 have HS:=ae hs
 have hq:=H.qlt
 have HB:Θ (Bl w (w.alloc (.cells #[ι 15,ι ia,ι ib,ι (cc:Int),ι (k:Int),.slice Q nl q] 55))):=(Bl.refl w).alloc _
 have dK:=ae (aB w #[ι 15,ι ia,ι ib,ι (cc:Int),ι (k:Int),.slice Q nl q] 55)
 have z0:=ae ((H.y.bl HB.o).hb)
 have z1:=ae (dr dK.o)
 obtain ⟨fb,fo,FB,ff,uc,hA,y0,m1,m2,y1,y2⟩:=iZ F.cls hc ny
 have kW:Bl w0 w:=by
  obtain ⟨vc,vo,vx,vs,l,H⟩:=H
  exact H.rh.bl
 have z3:Θ ((w.alloc (.cells #[ι 15,ι ia,ι ib,ι (cc:Int),ι (k:Int),.slice Q nl q] 55)).cell? ⟨g.hb,0,none⟩=some (.slice (some ⟨fb,fo,none⟩) h.file.classes.length g.a)):=by
  obtain ⟨vc,vo,vx,vs,l,H⟩:=H
  rw [<-hA]
  exact Bl.cell HB.o H.rh.heapCells.1
 have Uo:g.hb<w.heap.size:=by
  obtain ⟨vc,vo,vx,vs,l,H⟩:=H
  exact af H.rh.hp
 have E2:=br (Bl.cell kW y0)
 have QT:=br (Bl.cell kW y1)
 have z4:=ae (Bl.cell HB.o (Bl.cell kW y0))
 have z5:=ae (Bl.cell HB.o (Bl.cell kW y1))
 have z6:=ae (Bl.cell HB.o (Bl.cell kW y2))
 have vX:=gX F.may hc ny
 rw [gV] at vX h2 l9
 obtain ⟨t,ht⟩:∃t,nth bS (nth bL h.file.classes cc).fields k=t:=⟨_,rfl⟩
 rw [ht] at z5 z6 y1 y2 vX h2 l9
 have J9:(0:Int)<=(cc:Int):=by omega
 have E1:(cc:Int)<(h.file.classes.length:Int):=by omega
 have Fo:(0:Int)<=(k:Int):=by omega
 have PW:(k:Int)<((nth bL h.file.classes cc).fields.length:Int):=by omega
 have tl:Θ (∀w',RX 1 X wx w0 g w' h qs a c->χ 183 #[π a.q 0,ι ia,iC t] w' fun e w2=>e=.returned (cm (im (c.rd ia)))/\Bl w' w2):=fun w' H=>jJ 1 X wx w0 g h qs a c ia t w' H F eT ha vX h2 yH l9
 have TK:(1:Int)<=(⟨3,(cc:Int)⟩:Ty).kind/\(⟨3,(cc:Int)⟩:Ty).kind<=3:=⟨by show (1:Int)<=3;decide,by show (3:Int)<=3;decide⟩
 have T2:(⟨3,(cc:Int)⟩:Ty).kind=2->ib+1<c.locs.length:=fun x=>by have:(3:Int)=2:=x;omega
 have Eu:Θ (∀w',RX 1 X wx w0 g w' h qs a c->χ 183 #[π a.q 0,ι ib,iC ⟨3,(cc:Int)⟩] w' fun e w2=>e=bF 6 0 0/\Bl w' w2):=fun w' H=>rL 1 X wx w0 g h qs a c ib ⟨3,(cc:Int)⟩ w' H F eT hb TK T2 hvb G8
 clear H hs F hfl hA y0 y1 y2 m1 m2 kW vX h2 ht ha hb eT yH hvb hc ny l9 G8 TK T2
 go_enter func134,ntmps134
 go_wp2
 refine wp_region_held_drew (S:=fun w'=>κ w' a.q 0 (π g.hb 0)/\κ w' w.heap.size 1 (ι ia)/\κ w' w.heap.size 3 (ι (cc:Int))/\κ w' w.heap.size 4 (ι (k:Int))/\κ w' g.hb 0 (.slice (some ⟨fb,fo,none⟩) h.file.classes.length g.a)/\κ w' fb (fo+cc*2+1) (.slice (some ⟨FB,ff,none⟩) (nth bL h.file.classes cc).fields.length uc)/\κ w' FB (ff+k*2) (ι t.kind)/\κ w' FB (ff+k*2+1) (ι t.cls)) (by kernel_rfl) ?_ (fun aa=>?_)
 ·exact ⟨z0.o,z1.o.2.1,z1.o.2.2.2.1,z1.o.2.2.2.2.1,z3.o,z4.o,z5.o,z6.o⟩
 iterate 19 (refine tn rfl (by kernel_rfl) (fun _ _ _ h=>h) (by intro _ h;go_split_ands;go_simp<;>with_reducible rfl) aa ?_;try simp only [aZ])
 refine wpAnyH_ready (rs:=[19,20]) (by kernel_rfl) (by simp) ?_
 refine AllReadyH.cons rfl (fun K hK=>?_) (AllReadyH.cons rfl (fun K hK=>?_) (AllReadyH.nil))
 ·go_simp
  go_at_call 183
  refine (tl.o _ (HH.o.bl (by first|exact HB.o.drew|exact HB.o.drew.alloc _))).mono ?_
  rintro e w2 ⟨rfl,b2⟩
  have rQ:=ae (b2.cell aa.1)
  have rR:=ae (b2.cell aa.2.1)
  have rS:=ae (b2.cell aa.2.2.1)
  have rT:=ae (b2.cell aa.2.2.2.1)
  have rU:=ae (b2.cell aa.2.2.2.2.1)
  have rV:=ae (b2.cell aa.2.2.2.2.2.1)
  have rX:=ae (b2.cell aa.2.2.2.2.2.2.1)
  have rY:=ae (b2.cell aa.2.2.2.2.2.2.2)
  replace b2:=ae b2
  have bb2:Θ (Bl w w2):=by first|exact HB.o.drew.trans b2.o|exact (HB.o.drew.alloc _).trans b2.o
  have kv:=ax b2.o (by first|exact dK.o|exact (Below.heap_alloc _ _ _ (af dK.o)).trans dK.o)
  have hsz:=b2.o.size
  try (have q9:=ax b2.o (b:=w.heap.size+1) (bc w _ _ _ _).2;have p0:=aO q9;have p1:=aJ q9;have pz:=aA q9;replace q9:=ae q9)
  replace kv:=ae kv
  go_wp2_with fail
  refine hK.out _ _ (⟨rQ.o,rR.o,rS.o,rT.o,rU.o,rV.o,rX.o,rY.o⟩) (fun ah=>?_)
  try simp only [aZ]
  refine aY (i:=20) (by kernel_rfl) rfl fun K hK=>?_
  go_wp2_with fail
  refine hK.out _ _ (⟨Bl.cell ((Bl.refl _).alloc _) ah.1,Bl.cell ((Bl.refl _).alloc _) ah.2.1,Bl.cell ((Bl.refl _).alloc _) ah.2.2.1,Bl.cell ((Bl.refl _).alloc _) ah.2.2.2.1,Bl.cell ((Bl.refl _).alloc _) ah.2.2.2.2.1,Bl.cell ((Bl.refl _).alloc _) ah.2.2.2.2.2.1,Bl.cell ((Bl.refl _).alloc _) ah.2.2.2.2.2.2.1,Bl.cell ((Bl.refl _).alloc _) ah.2.2.2.2.2.2.2⟩) (fun aH=>?_)
  try simp only [aZ]
  refine aY (i:=21) (by kernel_rfl) rfl fun K hK=>?_
  go_wp2_with fail
  refine hK.out _ _ (by first|exact ⟨Bl.cell ((Bl.refl _).alloc _) rQ.o,Bl.cell ((Bl.refl _).alloc _) rR.o,Bl.cell ((Bl.refl _).alloc _) rS.o,Bl.cell ((Bl.refl _).alloc _) rT.o,Bl.cell ((Bl.refl _).alloc _) rU.o,Bl.cell ((Bl.refl _).alloc _) rV.o,Bl.cell ((Bl.refl _).alloc _) rX.o,Bl.cell ((Bl.refl _).alloc _) rY.o⟩|exact ⟨aD rQ.o (by omega),aD rR.o (by omega),aD rS.o (by omega),aD rT.o (by omega),aD rU.o (by omega),aD rV.o (by omega),aD rX.o (by omega),aD rY.o (by omega)⟩) (fun bG=>?_)
  try simp only [aZ]
  refine wpAnyH_done (by kernel_rfl) ?_ _
  go_wp2
  first
   | (have hQ:∃W b4,Bl w W/\w.heap.size<b4/\W.heap[w.heap.size]?=some (.cells #[ι 15,ι ia,ι ib,ι (cc:Int),ι (k:Int),.slice Q nl q] 55 (0,0))/\W.heap[b4]?=some (.cells #[ι (im (c.rd ia)).kind,ι (im (c.rd ia)).n] 100 (0,0))/\W=w2.alloc (eS (im (c.rd ia)))/\b4=w2.heap.size:=⟨_,_,bb2.o.alloc _,af kv.o,(Below.heap_alloc _ _ _ (af kv.o)).trans kv.o,aB _ _ _,rfl,rfl⟩;obtain ⟨W,b4,B4,y1,g1,g2,gW,gb⟩:=hQ;rw [<-gb,<-gW])
   | (have hQ:∃W b4,Bl w W/\w.heap.size<b4/\W.heap[w.heap.size]?=some (.cells #[ι 15,ι ia,ι ib,ι (cc:Int),ι (k:Int),.slice Q nl q] 55 (0,0))/\W.heap[b4]?=some (.cells #[ι (im (c.rd ia)).kind,ι (im (c.rd ia)).n] 100 (0,0))/\W=((w2.setCell ⟨w.heap.size+1,0,none⟩ (ι (im (c.rd ia)).kind)).setCell ⟨w.heap.size+1,1,none⟩ (ι (im (c.rd ia)).n))/\b4=w.heap.size+1:=⟨_,_,cT bb2.o (Nat.le_succ _) _ _,Nat.lt_succ_self _,dh kv.o (by omega) _ _,ba q9.o,rfl,rfl⟩;obtain ⟨W,b4,B4,y1,g1,g2,gW,gb⟩:=hQ;rw [<-gW,<-gb])
  clear gW gb
  have H4:=ae (HH.o.bl B4)
  have x0:=ae H4.o.y.hb
  have x1:=ae (dr g1)
  have x3:=ae (aO g2)
  have x4:=ae (aJ g2)
  replace B4:=ae B4
  replace g1:=ae g1
  replace g2:=ae g2
  refine wp_region_held_drew (S:=fun w'=>κ w' a.q 0 (π g.hb 0)/\κ w' w.heap.size 2 (ι ib)/\κ w' w.heap.size 3 (ι (cc:Int))/\κ w' w.heap.size 4 (ι (k:Int))/\κ w' b4 0 (ι (im (c.rd ia)).kind)/\κ w' b4 1 (ι (im (c.rd ia)).n)) (by kernel_rfl) ?_ (fun aa=>?_)
  ·exact ⟨x0.o,x1.o.2.2.1,x1.o.2.2.2.1,x1.o.2.2.2.2.1,x3.o,x4.o⟩
  iterate 14 (refine tn rfl (by kernel_rfl) (fun _ _ _ h=>h) (by intro _ h;go_split_ands;go_simp<;>with_reducible rfl) aa ?_;try simp only [aZ])
  refine aY (i:=9) (by kernel_rfl) rfl fun K hK=>?_
  go_simp
  go_at_call 185
  refine (fB (cc:Int) _).mono ?_
  rintro e w5 ⟨rfl,b5⟩
  have G9:=ae (b5.cell aa.1)
  have Ha:=ae (b5.cell aa.2.1)
  have Hb:=ae (b5.cell aa.2.2.1)
  have Hc:=ae (b5.cell aa.2.2.2.1)
  have He:=ae (b5.cell aa.2.2.2.2.1)
  have Hg:=ae (b5.cell aa.2.2.2.2.2)
  replace b5:=ae b5
  go_wp2_with fail
  refine hK.out _ _ (⟨G9.o,Ha.o,Hb.o,Hc.o,He.o,Hg.o⟩) (fun ah=>?_)
  try simp only [aZ]
  refine aY (i:=10) (by kernel_rfl) rfl fun K hK=>?_
  go_simp
  go_at_call 183
  refine (Eu.o _ (H4.o.bl ((Bl.refl W).drew.trans b5.o))).mono ?_
  rintro e w6 ⟨rfl,b6⟩
  exact ⟨rfl,jK (aF HS.o).1 rfl (H4.o.bl (((Bl.refl W).drew.trans b5.o).trans b6)).less.rs⟩
 ·go_wp2_with fail
  refine hK.out _ _ (⟨Bl.cell ((Bl.refl _).alloc _) aa.1,Bl.cell ((Bl.refl _).alloc _) aa.2.1,Bl.cell ((Bl.refl _).alloc _) aa.2.2.1,Bl.cell ((Bl.refl _).alloc _) aa.2.2.2.1,Bl.cell ((Bl.refl _).alloc _) aa.2.2.2.2.1,Bl.cell ((Bl.refl _).alloc _) aa.2.2.2.2.2.1,Bl.cell ((Bl.refl _).alloc _) aa.2.2.2.2.2.2.1,Bl.cell ((Bl.refl _).alloc _) aa.2.2.2.2.2.2.2⟩) (fun bd=>?_)
  try simp only [aZ]
  refine aY (i:=19) (by kernel_rfl) rfl fun K hK=>?_
  go_simp
  go_at_call 183
  refine (tl.o _ (HH.o.bl (by first|exact HB.o.drew|exact HB.o.drew.alloc _))).mono ?_
  rintro e w2 ⟨rfl,b2⟩
  have rQ:=ae (b2.cell bd.1)
  have rR:=ae (b2.cell bd.2.1)
  have rS:=ae (b2.cell bd.2.2.1)
  have rT:=ae (b2.cell bd.2.2.2.1)
  have rU:=ae (b2.cell bd.2.2.2.2.1)
  have rV:=ae (b2.cell bd.2.2.2.2.2.1)
  have rX:=ae (b2.cell bd.2.2.2.2.2.2.1)
  have rY:=ae (b2.cell bd.2.2.2.2.2.2.2)
  replace b2:=ae b2
  have bb2:Θ (Bl w w2):=by first|exact HB.o.drew.trans b2.o|exact (HB.o.drew.alloc _).trans b2.o
  have kv:=ax b2.o (by first|exact dK.o|exact (Below.heap_alloc _ _ _ (af dK.o)).trans dK.o)
  have hsz:=b2.o.size
  try (have q9:=ax b2.o (b:=w.heap.size+1) (bc w _ _ _ _).2;have p0:=aO q9;have p1:=aJ q9;have pz:=aA q9;replace q9:=ae q9)
  replace kv:=ae kv
  go_wp2_with fail
  refine hK.out _ _ (⟨rQ.o,rR.o,rS.o,rT.o,rU.o,rV.o,rX.o,rY.o⟩) (fun cQ=>?_)
  try simp only [aZ]
  refine aY (i:=21) (by kernel_rfl) rfl fun K hK=>?_
  go_wp2_with fail
  refine hK.out _ _ (by first|exact ⟨Bl.cell ((Bl.refl _).alloc _) rQ.o,Bl.cell ((Bl.refl _).alloc _) rR.o,Bl.cell ((Bl.refl _).alloc _) rS.o,Bl.cell ((Bl.refl _).alloc _) rT.o,Bl.cell ((Bl.refl _).alloc _) rU.o,Bl.cell ((Bl.refl _).alloc _) rV.o,Bl.cell ((Bl.refl _).alloc _) rX.o,Bl.cell ((Bl.refl _).alloc _) rY.o⟩|exact ⟨aD rQ.o (by omega),aD rR.o (by omega),aD rS.o (by omega),aD rT.o (by omega),aD rU.o (by omega),aD rV.o (by omega),aD rX.o (by omega),aD rY.o (by omega)⟩) (fun cd=>?_)
  try simp only [aZ]
  refine wpAnyH_done (by kernel_rfl) ?_ _
  go_wp2
  first
   | (have hQ:∃W b4,Bl w W/\w.heap.size<b4/\W.heap[w.heap.size]?=some (.cells #[ι 15,ι ia,ι ib,ι (cc:Int),ι (k:Int),.slice Q nl q] 55 (0,0))/\W.heap[b4]?=some (.cells #[ι (im (c.rd ia)).kind,ι (im (c.rd ia)).n] 100 (0,0))/\W=w2.alloc (eS (im (c.rd ia)))/\b4=w2.heap.size:=⟨_,_,bb2.o.alloc _,af kv.o,(Below.heap_alloc _ _ _ (af kv.o)).trans kv.o,aB _ _ _,rfl,rfl⟩;obtain ⟨W,b4,B4,y1,g1,g2,gW,gb⟩:=hQ;rw [<-gb,<-gW])
   | (have hQ:∃W b4,Bl w W/\w.heap.size<b4/\W.heap[w.heap.size]?=some (.cells #[ι 15,ι ia,ι ib,ι (cc:Int),ι (k:Int),.slice Q nl q] 55 (0,0))/\W.heap[b4]?=some (.cells #[ι (im (c.rd ia)).kind,ι (im (c.rd ia)).n] 100 (0,0))/\W=((w2.setCell ⟨w.heap.size+1,0,none⟩ (ι (im (c.rd ia)).kind)).setCell ⟨w.heap.size+1,1,none⟩ (ι (im (c.rd ia)).n))/\b4=w.heap.size+1:=⟨_,_,cT bb2.o (Nat.le_succ _) _ _,Nat.lt_succ_self _,dh kv.o (by omega) _ _,ba q9.o,rfl,rfl⟩;obtain ⟨W,b4,B4,y1,g1,g2,gW,gb⟩:=hQ;rw [<-gW,<-gb])
  clear gW gb
  have H4:=ae (HH.o.bl B4)
  have x0:=ae H4.o.y.hb
  have x1:=ae (dr g1)
  have x3:=ae (aO g2)
  have x4:=ae (aJ g2)
  replace B4:=ae B4
  replace g1:=ae g1
  replace g2:=ae g2
  refine wp_region_held_drew (S:=fun w'=>κ w' a.q 0 (π g.hb 0)/\κ w' w.heap.size 2 (ι ib)/\κ w' w.heap.size 3 (ι (cc:Int))/\κ w' w.heap.size 4 (ι (k:Int))/\κ w' b4 0 (ι (im (c.rd ia)).kind)/\κ w' b4 1 (ι (im (c.rd ia)).n)) (by kernel_rfl) ?_ (fun aa=>?_)
  ·exact ⟨x0.o,x1.o.2.2.1,x1.o.2.2.2.1,x1.o.2.2.2.2.1,x3.o,x4.o⟩
  iterate 14 (refine tn rfl (by kernel_rfl) (fun _ _ _ h=>h) (by intro _ h;go_split_ands;go_simp<;>with_reducible rfl) aa ?_;try simp only [aZ])
  refine aY (i:=9) (by kernel_rfl) rfl fun K hK=>?_
  go_simp
  go_at_call 185
  refine (fB (cc:Int) _).mono ?_
  rintro e w5 ⟨rfl,b5⟩
  have G9:=ae (b5.cell aa.1)
  have Ha:=ae (b5.cell aa.2.1)
  have Hb:=ae (b5.cell aa.2.2.1)
  have Hc:=ae (b5.cell aa.2.2.2.1)
  have He:=ae (b5.cell aa.2.2.2.2.1)
  have Hg:=ae (b5.cell aa.2.2.2.2.2)
  replace b5:=ae b5
  go_wp2_with fail
  refine hK.out _ _ (⟨G9.o,Ha.o,Hb.o,Hc.o,He.o,Hg.o⟩) (fun ah=>?_)
  try simp only [aZ]
  refine aY (i:=10) (by kernel_rfl) rfl fun K hK=>?_
  go_simp
  go_at_call 183
  refine (Eu.o _ (H4.o.bl ((Bl.refl W).drew.trans b5.o))).mono ?_
  rintro e w6 ⟨rfl,b6⟩
  exact ⟨rfl,jK (aF HS.o).1 rfl (H4.o.bl (((Bl.refl W).drew.trans b5.o).trans b6)).less.rs⟩
theorem Ai (qs:List Qb) (a:Mc) (c:aL) (ia ib ic ii:Int) (args:List Int) (Q:Option Addr) (nl q:Nat) (w:World) (H:RX 1 X wx w0 g w h qs a c) (hs:h.stops=false) (ha:0<=ia/\ia<c.locs.length) (hb:0<=ib/\ib<c.locs.length) (F:Fix w0 g h) (eT:h.objs.length<=100) (yH:(c.rd ia).kind=3->-1<=(c.rd ia).n/\(c.rd ia).n<h.objs.length) (hvb:(c.rd ib).kind=3->-1<=(c.rd ib).n/\(c.rd ib).n<h.objs.length) (hfl:0<=ic/\ic<h.file.classes.length/\0<=ii/\ii<(nth bL h.file.classes ic.toNat).fields.length) (h2:(bI h.file.classes ic ii).kind=2->ia+1<c.locs.length) (l9:h.of (c.rd ia) (bI h.file.classes ic ii)=true) (G8:h.of (c.rd ib) ⟨3,ic⟩=true) (Zb:(c.rd ib).n<0) :
  χ 134 #[π a.q 0,.agg #[ι 15,ι ia,ι ib,ι ic,ι ii,.slice Q nl q]] w fun e w'=>iT X wx w0 g qs a c ⟨h.raise 1,c.clr,c.pc+1⟩ e w':=by
 obtain ⟨cc,rfl⟩:∃cc:Nat,ic=cc:=⟨ic.toNat,by omega⟩
 obtain ⟨k,rfl⟩:∃k:Nat,ii=k:=⟨ii.toNat,by omega⟩
 rw [Int.toNat_natCast] at hfl
 have hc:cc<h.file.classes.length:=by omega
 have ny:k<(nth bL h.file.classes cc).fields.length:=by omega
 have ho:=(aF hs).1
 have HH:=ae H
 have HS:=ae hs
 have hq:=H.qlt
 have HB:Θ (Bl w (w.alloc (.cells #[ι 15,ι ia,ι ib,ι (cc:Int),ι (k:Int),.slice Q nl q] 55))):=(Bl.refl w).alloc _
 have dK:=ae (aB w #[ι 15,ι ia,ι ib,ι (cc:Int),ι (k:Int),.slice Q nl q] 55)
 have z0:=ae ((H.y.bl HB.o).hb)
 have z1:=ae (dr dK.o)
 obtain ⟨fb,fo,FB,ff,uc,hA,y0,m1,m2,y1,y2⟩:=iZ F.cls hc ny
 have kW:Bl w0 w:=by
  obtain ⟨vc,vo,vx,vs,l,H⟩:=H
  exact H.rh.bl
 have z3:Θ ((w.alloc (.cells #[ι 15,ι ia,ι ib,ι (cc:Int),ι (k:Int),.slice Q nl q] 55)).cell? ⟨g.hb,0,none⟩=some (.slice (some ⟨fb,fo,none⟩) h.file.classes.length g.a)):=by
  obtain ⟨vc,vo,vx,vs,l,H⟩:=H
  rw [<-hA]
  exact Bl.cell HB.o H.rh.heapCells.1
 have Uo:g.hb<w.heap.size:=by
  obtain ⟨vc,vo,vx,vs,l,H⟩:=H
  exact af H.rh.hp
 have E2:=br (Bl.cell kW y0)
 have QT:=br (Bl.cell kW y1)
 have z4:=ae (Bl.cell HB.o (Bl.cell kW y0))
 have z5:=ae (Bl.cell HB.o (Bl.cell kW y1))
 have z6:=ae (Bl.cell HB.o (Bl.cell kW y2))
 have vX:=gX F.may hc ny
 rw [gV] at vX h2 l9
 obtain ⟨t,ht⟩:∃t,nth bS (nth bL h.file.classes cc).fields k=t:=⟨_,rfl⟩
 rw [ht] at z5 z6 y1 y2 vX h2 l9
 have J9:(0:Int)<=(cc:Int):=by omega
 have E1:(cc:Int)<(h.file.classes.length:Int):=by omega
 have Fo:(0:Int)<=(k:Int):=by omega
 have PW:(k:Int)<((nth bL h.file.classes cc).fields.length:Int):=by omega
 have tl:Θ (∀w',RX 1 X wx w0 g w' h qs a c->χ 183 #[π a.q 0,ι ia,iC t] w' fun e w2=>e=.returned (cm (im (c.rd ia)))/\Bl w' w2):=fun w' H=>jJ 1 X wx w0 g h qs a c ia t w' H F eT ha vX h2 yH l9
 have TK:(1:Int)<=(⟨3,(cc:Int)⟩:Ty).kind/\(⟨3,(cc:Int)⟩:Ty).kind<=3:=⟨by show (1:Int)<=3;decide,by show (3:Int)<=3;decide⟩
 have T2:(⟨3,(cc:Int)⟩:Ty).kind=2->ib+1<c.locs.length:=fun x=>by have:(3:Int)=2:=x;omega
 have e1:(c.rd ib).kind=3:=kD G8
 have oz:=hvb e1
 have Eu:Θ (∀w',RX 1 X wx w0 g w' h qs a c->χ 183 #[π a.q 0,ι ib,iC ⟨3,(cc:Int)⟩] w' fun e w2=>e=.returned (cm (im (c.rd ib)))/\Bl w' w2):=fun w' H=>jJ 1 X wx w0 g h qs a c ib ⟨3,(cc:Int)⟩ w' H F eT hb TK T2 hvb G8
 obtain ⟨ch,hch⟩:=jm h
 have HP:Θ (∀w',RX 1 X wx w0 g w' h qs a c->χ 184 #[π g.hb 0,cm (im (c.rd ib)),ι (cc:Int),ι (k:Int),cm (im (c.rd ia))] w' fun e w2=>e=.panicked ch/\RX 1 X wx w0 g w2 (h.raise 1) qs a c):=fun w' H=>hch▸DL 1 X wx w0 g h qs a c (c.rd ib) (im (c.rd ia)) cc k w' H eT ho e1 (by omega)
 have HE:Θ (∀w',RX 1 X wx w0 g w' (h.raise 1) qs a c->iT X wx w0 g qs a c ⟨h.raise 1,c.clr,c.pc+1⟩ (.panicked ch) w'):=fun w' H=>hch▸ou hs rfl H.less.rs
 generalize im (c.rd ib)=UI at Eu HP
 clear H hs F hfl hA y0 y1 y2 m1 m2 kW vX h2 ht ha hb eT yH hvb hc ny l9 G8 TK T2 e1 oz Zb hch
 go_enter func134,ntmps134
 go_wp2
 refine wp_region_held_drew (S:=fun w'=>κ w' a.q 0 (π g.hb 0)/\κ w' w.heap.size 1 (ι ia)/\κ w' w.heap.size 3 (ι (cc:Int))/\κ w' w.heap.size 4 (ι (k:Int))/\κ w' g.hb 0 (.slice (some ⟨fb,fo,none⟩) h.file.classes.length g.a)/\κ w' fb (fo+cc*2+1) (.slice (some ⟨FB,ff,none⟩) (nth bL h.file.classes cc).fields.length uc)/\κ w' FB (ff+k*2) (ι t.kind)/\κ w' FB (ff+k*2+1) (ι t.cls)) (by kernel_rfl) ?_ (fun aa=>?_)
 ·exact ⟨z0.o,z1.o.2.1,z1.o.2.2.2.1,z1.o.2.2.2.2.1,z3.o,z4.o,z5.o,z6.o⟩
 iterate 19 (refine tn rfl (by kernel_rfl) (fun _ _ _ h=>h) (by intro _ h;go_split_ands;go_simp<;>with_reducible rfl) aa ?_;try simp only [aZ])
 refine wpAnyH_ready (rs:=[19,20]) (by kernel_rfl) (by simp) ?_
 refine AllReadyH.cons rfl (fun K hK=>?_) (AllReadyH.cons rfl (fun K hK=>?_) (AllReadyH.nil))
 ·go_simp
  go_at_call 183
  refine (tl.o _ (HH.o.bl (by first|exact HB.o.drew|exact HB.o.drew.alloc _))).mono ?_
  rintro e w2 ⟨rfl,b2⟩
  have rQ:=ae (b2.cell aa.1)
  have rR:=ae (b2.cell aa.2.1)
  have rS:=ae (b2.cell aa.2.2.1)
  have rT:=ae (b2.cell aa.2.2.2.1)
  have rU:=ae (b2.cell aa.2.2.2.2.1)
  have rV:=ae (b2.cell aa.2.2.2.2.2.1)
  have rX:=ae (b2.cell aa.2.2.2.2.2.2.1)
  have rY:=ae (b2.cell aa.2.2.2.2.2.2.2)
  replace b2:=ae b2
  have bb2:Θ (Bl w w2):=by first|exact HB.o.drew.trans b2.o|exact (HB.o.drew.alloc _).trans b2.o
  have kv:=ax b2.o (by first|exact dK.o|exact (Below.heap_alloc _ _ _ (af dK.o)).trans dK.o)
  have hsz:=b2.o.size
  try (have q9:=ax b2.o (b:=w.heap.size+1) (bc w _ _ _ _).2;have p0:=aO q9;have p1:=aJ q9;have pz:=aA q9;replace q9:=ae q9)
  replace kv:=ae kv
  go_wp2_with fail
  refine hK.out _ _ (⟨rQ.o,rR.o,rS.o,rT.o,rU.o,rV.o,rX.o,rY.o⟩) (fun ah=>?_)
  try simp only [aZ]
  refine aY (i:=20) (by kernel_rfl) rfl fun K hK=>?_
  go_wp2_with fail
  refine hK.out _ _ (⟨Bl.cell ((Bl.refl _).alloc _) ah.1,Bl.cell ((Bl.refl _).alloc _) ah.2.1,Bl.cell ((Bl.refl _).alloc _) ah.2.2.1,Bl.cell ((Bl.refl _).alloc _) ah.2.2.2.1,Bl.cell ((Bl.refl _).alloc _) ah.2.2.2.2.1,Bl.cell ((Bl.refl _).alloc _) ah.2.2.2.2.2.1,Bl.cell ((Bl.refl _).alloc _) ah.2.2.2.2.2.2.1,Bl.cell ((Bl.refl _).alloc _) ah.2.2.2.2.2.2.2⟩) (fun aH=>?_)
  try simp only [aZ]
  refine aY (i:=21) (by kernel_rfl) rfl fun K hK=>?_
  go_wp2_with fail
  refine hK.out _ _ (by first|exact ⟨Bl.cell ((Bl.refl _).alloc _) rQ.o,Bl.cell ((Bl.refl _).alloc _) rR.o,Bl.cell ((Bl.refl _).alloc _) rS.o,Bl.cell ((Bl.refl _).alloc _) rT.o,Bl.cell ((Bl.refl _).alloc _) rU.o,Bl.cell ((Bl.refl _).alloc _) rV.o,Bl.cell ((Bl.refl _).alloc _) rX.o,Bl.cell ((Bl.refl _).alloc _) rY.o⟩|exact ⟨aD rQ.o (by omega),aD rR.o (by omega),aD rS.o (by omega),aD rT.o (by omega),aD rU.o (by omega),aD rV.o (by omega),aD rX.o (by omega),aD rY.o (by omega)⟩) (fun bG=>?_)
  try simp only [aZ]
  refine wpAnyH_done (by kernel_rfl) ?_ _
  go_wp2
  first
   | (have hQ:∃W b4,Bl w W/\w.heap.size<b4/\W.heap[w.heap.size]?=some (.cells #[ι 15,ι ia,ι ib,ι (cc:Int),ι (k:Int),.slice Q nl q] 55 (0,0))/\W.heap[b4]?=some (.cells #[ι (im (c.rd ia)).kind,ι (im (c.rd ia)).n] 100 (0,0))/\W=w2.alloc (eS (im (c.rd ia)))/\b4=w2.heap.size:=⟨_,_,bb2.o.alloc _,af kv.o,(Below.heap_alloc _ _ _ (af kv.o)).trans kv.o,aB _ _ _,rfl,rfl⟩;obtain ⟨W,b4,B4,y1,g1,g2,gW,gb⟩:=hQ;rw [<-gb,<-gW])
   | (have hQ:∃W b4,Bl w W/\w.heap.size<b4/\W.heap[w.heap.size]?=some (.cells #[ι 15,ι ia,ι ib,ι (cc:Int),ι (k:Int),.slice Q nl q] 55 (0,0))/\W.heap[b4]?=some (.cells #[ι (im (c.rd ia)).kind,ι (im (c.rd ia)).n] 100 (0,0))/\W=((w2.setCell ⟨w.heap.size+1,0,none⟩ (ι (im (c.rd ia)).kind)).setCell ⟨w.heap.size+1,1,none⟩ (ι (im (c.rd ia)).n))/\b4=w.heap.size+1:=⟨_,_,cT bb2.o (Nat.le_succ _) _ _,Nat.lt_succ_self _,dh kv.o (by omega) _ _,ba q9.o,rfl,rfl⟩;obtain ⟨W,b4,B4,y1,g1,g2,gW,gb⟩:=hQ;rw [<-gW,<-gb])
  clear gW gb
  have H4:=ae (HH.o.bl B4)
  have x0:=ae H4.o.y.hb
  have x1:=ae (dr g1)
  have x3:=ae (aO g2)
  have x4:=ae (aJ g2)
  replace B4:=ae B4
  replace g1:=ae g1
  replace g2:=ae g2
  refine wp_region_held_drew (S:=fun w'=>κ w' a.q 0 (π g.hb 0)/\κ w' w.heap.size 2 (ι ib)/\κ w' w.heap.size 3 (ι (cc:Int))/\κ w' w.heap.size 4 (ι (k:Int))/\κ w' b4 0 (ι (im (c.rd ia)).kind)/\κ w' b4 1 (ι (im (c.rd ia)).n)) (by kernel_rfl) ?_ (fun aa=>?_)
  ·exact ⟨x0.o,x1.o.2.2.1,x1.o.2.2.2.1,x1.o.2.2.2.2.1,x3.o,x4.o⟩
  iterate 14 (refine tn rfl (by kernel_rfl) (fun _ _ _ h=>h) (by intro _ h;go_split_ands;go_simp<;>with_reducible rfl) aa ?_;try simp only [aZ])
  refine aY (i:=9) (by kernel_rfl) rfl fun K hK=>?_
  go_simp
  go_at_call 185
  refine (fB (cc:Int) _).mono ?_
  rintro e w5 ⟨rfl,b5⟩
  have G9:=ae (b5.cell aa.1)
  have Ha:=ae (b5.cell aa.2.1)
  have Hb:=ae (b5.cell aa.2.2.1)
  have Hc:=ae (b5.cell aa.2.2.2.1)
  have He:=ae (b5.cell aa.2.2.2.2.1)
  have Hg:=ae (b5.cell aa.2.2.2.2.2)
  replace b5:=ae b5
  go_wp2_with fail
  refine hK.out _ _ (⟨G9.o,Ha.o,Hb.o,Hc.o,He.o,Hg.o⟩) (fun ah=>?_)
  try simp only [aZ]
  refine aY (i:=10) (by kernel_rfl) rfl fun K hK=>?_
  go_simp
  go_at_call 183
  refine (Eu.o _ (H4.o.bl ((Bl.refl W).drew.trans b5.o))).mono ?_
  rintro e w6 ⟨rfl,b6⟩
  have Oy:=ae (b6.cell ah.1)
  have Oz:=ae (b6.cell ah.2.1)
  have OA:=ae (b6.cell ah.2.2.1)
  have OB:=ae (b6.cell ah.2.2.2.1)
  have OC:=ae (b6.cell ah.2.2.2.2.1)
  have OD:=ae (b6.cell ah.2.2.2.2.2)
  replace b6:=ae b6
  go_wp2_with fail
  refine hK.out _ _ (⟨Oy.o,Oz.o,OA.o,OB.o,OC.o,OD.o⟩) (fun aH=>?_)
  try simp only [aZ]
  refine aY (i:=16) (by kernel_rfl) rfl fun K hK=>?_
  go_simp
  go_at_call 184
  refine (HP.o _ (H4.o.bl (((Bl.refl W).drew.trans b5.o).trans b6.o))).mono ?_
  rintro e w7 ⟨rfl,H7⟩
  exact ⟨rfl,HE.o _ H7⟩
 ·go_wp2_with fail
  refine hK.out _ _ (⟨Bl.cell ((Bl.refl _).alloc _) aa.1,Bl.cell ((Bl.refl _).alloc _) aa.2.1,Bl.cell ((Bl.refl _).alloc _) aa.2.2.1,Bl.cell ((Bl.refl _).alloc _) aa.2.2.2.1,Bl.cell ((Bl.refl _).alloc _) aa.2.2.2.2.1,Bl.cell ((Bl.refl _).alloc _) aa.2.2.2.2.2.1,Bl.cell ((Bl.refl _).alloc _) aa.2.2.2.2.2.2.1,Bl.cell ((Bl.refl _).alloc _) aa.2.2.2.2.2.2.2⟩) (fun bd=>?_)
  try simp only [aZ]
  refine aY (i:=19) (by kernel_rfl) rfl fun K hK=>?_
  go_simp
  go_at_call 183
  refine (tl.o _ (HH.o.bl (by first|exact HB.o.drew|exact HB.o.drew.alloc _))).mono ?_
  rintro e w2 ⟨rfl,b2⟩
  have rQ:=ae (b2.cell bd.1)
  have rR:=ae (b2.cell bd.2.1)
  have rS:=ae (b2.cell bd.2.2.1)
  have rT:=ae (b2.cell bd.2.2.2.1)
  have rU:=ae (b2.cell bd.2.2.2.2.1)
  have rV:=ae (b2.cell bd.2.2.2.2.2.1)
  have rX:=ae (b2.cell bd.2.2.2.2.2.2.1)
  have rY:=ae (b2.cell bd.2.2.2.2.2.2.2)
  replace b2:=ae b2
  have bb2:Θ (Bl w w2):=by first|exact HB.o.drew.trans b2.o|exact (HB.o.drew.alloc _).trans b2.o
  have kv:=ax b2.o (by first|exact dK.o|exact (Below.heap_alloc _ _ _ (af dK.o)).trans dK.o)
  have hsz:=b2.o.size
  try (have q9:=ax b2.o (b:=w.heap.size+1) (bc w _ _ _ _).2;have p0:=aO q9;have p1:=aJ q9;have pz:=aA q9;replace q9:=ae q9)
  replace kv:=ae kv
  go_wp2_with fail
  refine hK.out _ _ (⟨rQ.o,rR.o,rS.o,rT.o,rU.o,rV.o,rX.o,rY.o⟩) (fun cQ=>?_)
  try simp only [aZ]
  refine aY (i:=21) (by kernel_rfl) rfl fun K hK=>?_
  go_wp2_with fail
  refine hK.out _ _ (by first|exact ⟨Bl.cell ((Bl.refl _).alloc _) rQ.o,Bl.cell ((Bl.refl _).alloc _) rR.o,Bl.cell ((Bl.refl _).alloc _) rS.o,Bl.cell ((Bl.refl _).alloc _) rT.o,Bl.cell ((Bl.refl _).alloc _) rU.o,Bl.cell ((Bl.refl _).alloc _) rV.o,Bl.cell ((Bl.refl _).alloc _) rX.o,Bl.cell ((Bl.refl _).alloc _) rY.o⟩|exact ⟨aD rQ.o (by omega),aD rR.o (by omega),aD rS.o (by omega),aD rT.o (by omega),aD rU.o (by omega),aD rV.o (by omega),aD rX.o (by omega),aD rY.o (by omega)⟩) (fun cd=>?_)
  try simp only [aZ]
  refine wpAnyH_done (by kernel_rfl) ?_ _
  go_wp2
  first
   | (have hQ:∃W b4,Bl w W/\w.heap.size<b4/\W.heap[w.heap.size]?=some (.cells #[ι 15,ι ia,ι ib,ι (cc:Int),ι (k:Int),.slice Q nl q] 55 (0,0))/\W.heap[b4]?=some (.cells #[ι (im (c.rd ia)).kind,ι (im (c.rd ia)).n] 100 (0,0))/\W=w2.alloc (eS (im (c.rd ia)))/\b4=w2.heap.size:=⟨_,_,bb2.o.alloc _,af kv.o,(Below.heap_alloc _ _ _ (af kv.o)).trans kv.o,aB _ _ _,rfl,rfl⟩;obtain ⟨W,b4,B4,y1,g1,g2,gW,gb⟩:=hQ;rw [<-gb,<-gW])
   | (have hQ:∃W b4,Bl w W/\w.heap.size<b4/\W.heap[w.heap.size]?=some (.cells #[ι 15,ι ia,ι ib,ι (cc:Int),ι (k:Int),.slice Q nl q] 55 (0,0))/\W.heap[b4]?=some (.cells #[ι (im (c.rd ia)).kind,ι (im (c.rd ia)).n] 100 (0,0))/\W=((w2.setCell ⟨w.heap.size+1,0,none⟩ (ι (im (c.rd ia)).kind)).setCell ⟨w.heap.size+1,1,none⟩ (ι (im (c.rd ia)).n))/\b4=w.heap.size+1:=⟨_,_,cT bb2.o (Nat.le_succ _) _ _,Nat.lt_succ_self _,dh kv.o (by omega) _ _,ba q9.o,rfl,rfl⟩;obtain ⟨W,b4,B4,y1,g1,g2,gW,gb⟩:=hQ;rw [<-gW,<-gb])
  clear gW gb
  have H4:=ae (HH.o.bl B4)
  have x0:=ae H4.o.y.hb
  have x1:=ae (dr g1)
  have x3:=ae (aO g2)
  have x4:=ae (aJ g2)
  replace B4:=ae B4
  replace g1:=ae g1
  replace g2:=ae g2
  refine wp_region_held_drew (S:=fun w'=>κ w' a.q 0 (π g.hb 0)/\κ w' w.heap.size 2 (ι ib)/\κ w' w.heap.size 3 (ι (cc:Int))/\κ w' w.heap.size 4 (ι (k:Int))/\κ w' b4 0 (ι (im (c.rd ia)).kind)/\κ w' b4 1 (ι (im (c.rd ia)).n)) (by kernel_rfl) ?_ (fun aa=>?_)
  ·exact ⟨x0.o,x1.o.2.2.1,x1.o.2.2.2.1,x1.o.2.2.2.2.1,x3.o,x4.o⟩
  iterate 14 (refine tn rfl (by kernel_rfl) (fun _ _ _ h=>h) (by intro _ h;go_split_ands;go_simp<;>with_reducible rfl) aa ?_;try simp only [aZ])
  refine aY (i:=9) (by kernel_rfl) rfl fun K hK=>?_
  go_simp
  go_at_call 185
  refine (fB (cc:Int) _).mono ?_
  rintro e w5 ⟨rfl,b5⟩
  have G9:=ae (b5.cell aa.1)
  have Ha:=ae (b5.cell aa.2.1)
  have Hb:=ae (b5.cell aa.2.2.1)
  have Hc:=ae (b5.cell aa.2.2.2.1)
  have He:=ae (b5.cell aa.2.2.2.2.1)
  have Hg:=ae (b5.cell aa.2.2.2.2.2)
  replace b5:=ae b5
  go_wp2_with fail
  refine hK.out _ _ (⟨G9.o,Ha.o,Hb.o,Hc.o,He.o,Hg.o⟩) (fun ah=>?_)
  try simp only [aZ]
  refine aY (i:=10) (by kernel_rfl) rfl fun K hK=>?_
  go_simp
  go_at_call 183
  refine (Eu.o _ (H4.o.bl ((Bl.refl W).drew.trans b5.o))).mono ?_
  rintro e w6 ⟨rfl,b6⟩
  have Oy:=ae (b6.cell ah.1)
  have Oz:=ae (b6.cell ah.2.1)
  have OA:=ae (b6.cell ah.2.2.1)
  have OB:=ae (b6.cell ah.2.2.2.1)
  have OC:=ae (b6.cell ah.2.2.2.2.1)
  have OD:=ae (b6.cell ah.2.2.2.2.2)
  replace b6:=ae b6
  go_wp2_with fail
  refine hK.out _ _ (⟨Oy.o,Oz.o,OA.o,OB.o,OC.o,OD.o⟩) (fun aH=>?_)
  try simp only [aZ]
  refine aY (i:=16) (by kernel_rfl) rfl fun K hK=>?_
  go_simp
  go_at_call 184
  refine (HP.o _ (H4.o.bl (((Bl.refl W).drew.trans b5.o).trans b6.o))).mono ?_
  rintro e w7 ⟨rfl,H7⟩
  exact ⟨rfl,HE.o _ H7⟩
theorem Aj (qs:List Qb) (a:Mc) (c:aL) (ia ib ic ii:Int) (args:List Int) (Q:Option Addr) (nl q:Nat) (w:World) (H:RX 1 X wx w0 g w h qs a c) (hs:h.stops=false) (ha:0<=ia/\ia<c.locs.length) (hb:0<=ib/\ib<c.locs.length) (F:Fix w0 g h) (eT:h.objs.length<=100) (yH:(c.rd ia).kind=3->-1<=(c.rd ia).n/\(c.rd ia).n<h.objs.length) (hvb:(c.rd ib).kind=3->-1<=(c.rd ib).n/\(c.rd ib).n<h.objs.length) (hfl:0<=ic/\ic<h.file.classes.length/\0<=ii/\ii<(nth bL h.file.classes ic.toNat).fields.length) (h2:(bI h.file.classes ic ii).kind=2->ia+1<c.locs.length) (l9:h.of (c.rd ia) (bI h.file.classes ic ii)=true) (G8:h.of (c.rd ib) ⟨3,ic⟩=true) (o j:Nat) (WL:(c.rd ib).n=o) (Bf:o<h.objs.length) (hj:j<(nth cF h.objs o).held.length) (WM:(nth cE (nth cF h.objs o).held j).cls=ic) (WN:(nth cE (nth cF h.objs o).held j).fld=ii) (WO:h.sh.steps<=100000) :
  χ 134 #[π a.q 0,.agg #[ι 15,ι ia,ι ib,ι ic,ι ii,.slice Q nl q]] w fun e w'=>iT X wx w0 g qs a c ⟨h.setV o j (c.rd ia),c.clr,c.pc+1⟩ e w':=by
 obtain ⟨cc,rfl⟩:∃cc:Nat,ic=cc:=⟨ic.toNat,by omega⟩
 obtain ⟨k,rfl⟩:∃k:Nat,ii=k:=⟨ii.toNat,by omega⟩
 rw [Int.toNat_natCast] at hfl
 have hc:cc<h.file.classes.length:=by omega
 have ny:k<(nth bL h.file.classes cc).fields.length:=by omega
 have ho:=(aF hs).1
 have HH:=ae H
 have HS:=ae hs
 have hq:=H.qlt
 have HB:Θ (Bl w (w.alloc (.cells #[ι 15,ι ia,ι ib,ι (cc:Int),ι (k:Int),.slice Q nl q] 55))):=(Bl.refl w).alloc _
 have dK:=ae (aB w #[ι 15,ι ia,ι ib,ι (cc:Int),ι (k:Int),.slice Q nl q] 55)
 have z0:=ae ((H.y.bl HB.o).hb)
 have z1:=ae (dr dK.o)
 obtain ⟨fb,fo,FB,ff,uc,hA,y0,m1,m2,y1,y2⟩:=iZ F.cls hc ny
 have kW:Bl w0 w:=by
  obtain ⟨vc,vo,vx,vs,l,H⟩:=H
  exact H.rh.bl
 have z3:Θ ((w.alloc (.cells #[ι 15,ι ia,ι ib,ι (cc:Int),ι (k:Int),.slice Q nl q] 55)).cell? ⟨g.hb,0,none⟩=some (.slice (some ⟨fb,fo,none⟩) h.file.classes.length g.a)):=by
  obtain ⟨vc,vo,vx,vs,l,H⟩:=H
  rw [<-hA]
  exact Bl.cell HB.o H.rh.heapCells.1
 have Uo:g.hb<w.heap.size:=by
  obtain ⟨vc,vo,vx,vs,l,H⟩:=H
  exact af H.rh.hp
 have E2:=br (Bl.cell kW y0)
 have QT:=br (Bl.cell kW y1)
 have z4:=ae (Bl.cell HB.o (Bl.cell kW y0))
 have z5:=ae (Bl.cell HB.o (Bl.cell kW y1))
 have z6:=ae (Bl.cell HB.o (Bl.cell kW y2))
 have vX:=gX F.may hc ny
 obtain ⟨n1,n2,n3⟩:=vW F.may hc
 have WQ:(c.rd ia).kind=(bI h.file.classes (cc:Int) (k:Int)).kind:=by
  unfold Hp.of at l9
  rw [Bool.and_eq_true] at l9
  exact of_decide_eq_true l9.1
 rw [gV] at vX h2 l9
 obtain ⟨t,ht⟩:∃t,nth bS (nth bL h.file.classes cc).fields k=t:=⟨_,rfl⟩
 rw [ht] at z5 z6 y1 y2 vX h2 l9
 have J9:(0:Int)<=(cc:Int):=by omega
 have E1:(cc:Int)<(h.file.classes.length:Int):=by omega
 have Fo:(0:Int)<=(k:Int):=by omega
 have PW:(k:Int)<((nth bL h.file.classes cc).fields.length:Int):=by omega
 have tl:Θ (∀w',RX 1 X wx w0 g w' h qs a c->χ 183 #[π a.q 0,ι ia,iC t] w' fun e w2=>e=.returned (cm (im (c.rd ia)))/\Bl w' w2):=fun w' H=>jJ 1 X wx w0 g h qs a c ia t w' H F eT ha vX h2 yH l9
 have TK:(1:Int)<=(⟨3,(cc:Int)⟩:Ty).kind/\(⟨3,(cc:Int)⟩:Ty).kind<=3:=⟨by show (1:Int)<=3;decide,by show (3:Int)<=3;decide⟩
 have T2:(⟨3,(cc:Int)⟩:Ty).kind=2->ib+1<c.locs.length:=fun x=>by have:(3:Int)=2:=x;omega
 have e1:(c.rd ib).kind=3:=kD G8
 have oz:=hvb e1
 have Eu:Θ (∀w',RX 1 X wx w0 g w' h qs a c->χ 183 #[π a.q 0,ι ib,iC ⟨3,(cc:Int)⟩] w' fun e w2=>e=.returned (cm (im (c.rd ib)))/\Bl w' w2):=fun w' H=>jJ 1 X wx w0 g h qs a c ib ⟨3,(cc:Int)⟩ w' H F eT hb TK T2 hvb G8
 have QS:im (c.rd ib)=⟨3,(o:Int)+1⟩:=by rw [gp e1,WL]
 have HP:Θ (∀X wx w',RX 1 X wx w0 g w' h qs a c->χ 184 #[π g.hb 0,cm (im (c.rd ib)),ι (cc:Int),ι (k:Int),cm (im (c.rd ia))] w' fun e w2=>e=.returned (.tuple #[])/\RX 0 X wx w0 g w2 (h.setV o j (c.rd ia)) qs a c):=fun X wx w' H=>QS.symm▸DK X wx w0 g h qs a c o j cc k (c.rd ia) w' H Bf eT WO hj WM WN (by omega) (by omega) WQ
 have tt:(h.setV o j (c.rd ia)).stops=false:=hs
 have HE:Θ (∀w',RX 0 X wx w0 g w' (h.setV o j (c.rd ia)) qs a c->iT X wx w0 g qs a c ⟨h.setV o j (c.rd ia),c.clr,c.pc+1⟩ (.returned (.tuple #[])) w'):=fun w' H=>vP tt H
 generalize im (c.rd ib)=UI at Eu HP
 generalize h.setV o j (c.rd ia)=h' at HP HE
 clear H hs F hfl hA y0 y1 y2 m1 m2 kW vX h2 ht ha hb eT yH hvb hc ny l9 G8 TK T2 e1 oz WQ QS WL Bf hj WM WN WO n1 n2 n3 tt
 go_enter func134,ntmps134
 go_wp2
 refine wp_region_held_drew (S:=fun w'=>κ w' a.q 0 (π g.hb 0)/\κ w' w.heap.size 1 (ι ia)/\κ w' w.heap.size 3 (ι (cc:Int))/\κ w' w.heap.size 4 (ι (k:Int))/\κ w' g.hb 0 (.slice (some ⟨fb,fo,none⟩) h.file.classes.length g.a)/\κ w' fb (fo+cc*2+1) (.slice (some ⟨FB,ff,none⟩) (nth bL h.file.classes cc).fields.length uc)/\κ w' FB (ff+k*2) (ι t.kind)/\κ w' FB (ff+k*2+1) (ι t.cls)) (by kernel_rfl) ?_ (fun aa=>?_)
 ·exact ⟨z0.o,z1.o.2.1,z1.o.2.2.2.1,z1.o.2.2.2.2.1,z3.o,z4.o,z5.o,z6.o⟩
 iterate 19 (refine tn rfl (by kernel_rfl) (fun _ _ _ h=>h) (by intro _ h;go_split_ands;go_simp<;>with_reducible rfl) aa ?_;try simp only [aZ])
 refine wpAnyH_ready (rs:=[19,20]) (by kernel_rfl) (by simp) ?_
 refine AllReadyH.cons rfl (fun K hK=>?_) (AllReadyH.cons rfl (fun K hK=>?_) (AllReadyH.nil))
 ·go_simp
  go_at_call 183
  refine (tl.o _ (HH.o.bl (by first|exact HB.o.drew|exact HB.o.drew.alloc _))).mono ?_
  rintro e w2 ⟨rfl,b2⟩
  have rQ:=ae (b2.cell aa.1)
  have rR:=ae (b2.cell aa.2.1)
  have rS:=ae (b2.cell aa.2.2.1)
  have rT:=ae (b2.cell aa.2.2.2.1)
  have rU:=ae (b2.cell aa.2.2.2.2.1)
  have rV:=ae (b2.cell aa.2.2.2.2.2.1)
  have rX:=ae (b2.cell aa.2.2.2.2.2.2.1)
  have rY:=ae (b2.cell aa.2.2.2.2.2.2.2)
  replace b2:=ae b2
  have bb2:Θ (Bl w w2):=by first|exact HB.o.drew.trans b2.o|exact (HB.o.drew.alloc _).trans b2.o
  have kv:=ax b2.o (by first|exact dK.o|exact (Below.heap_alloc _ _ _ (af dK.o)).trans dK.o)
  have hsz:=b2.o.size
  try (have q9:=ax b2.o (b:=w.heap.size+1) (bc w _ _ _ _).2;have p0:=aO q9;have p1:=aJ q9;have pz:=aA q9;replace q9:=ae q9)
  replace kv:=ae kv
  go_wp2_with fail
  refine hK.out _ _ (⟨rQ.o,rR.o,rS.o,rT.o,rU.o,rV.o,rX.o,rY.o⟩) (fun ah=>?_)
  try simp only [aZ]
  refine aY (i:=20) (by kernel_rfl) rfl fun K hK=>?_
  go_wp2_with fail
  refine hK.out _ _ (⟨Bl.cell ((Bl.refl _).alloc _) ah.1,Bl.cell ((Bl.refl _).alloc _) ah.2.1,Bl.cell ((Bl.refl _).alloc _) ah.2.2.1,Bl.cell ((Bl.refl _).alloc _) ah.2.2.2.1,Bl.cell ((Bl.refl _).alloc _) ah.2.2.2.2.1,Bl.cell ((Bl.refl _).alloc _) ah.2.2.2.2.2.1,Bl.cell ((Bl.refl _).alloc _) ah.2.2.2.2.2.2.1,Bl.cell ((Bl.refl _).alloc _) ah.2.2.2.2.2.2.2⟩) (fun aH=>?_)
  try simp only [aZ]
  refine aY (i:=21) (by kernel_rfl) rfl fun K hK=>?_
  go_wp2_with fail
  refine hK.out _ _ (by first|exact ⟨Bl.cell ((Bl.refl _).alloc _) rQ.o,Bl.cell ((Bl.refl _).alloc _) rR.o,Bl.cell ((Bl.refl _).alloc _) rS.o,Bl.cell ((Bl.refl _).alloc _) rT.o,Bl.cell ((Bl.refl _).alloc _) rU.o,Bl.cell ((Bl.refl _).alloc _) rV.o,Bl.cell ((Bl.refl _).alloc _) rX.o,Bl.cell ((Bl.refl _).alloc _) rY.o⟩|exact ⟨aD rQ.o (by omega),aD rR.o (by omega),aD rS.o (by omega),aD rT.o (by omega),aD rU.o (by omega),aD rV.o (by omega),aD rX.o (by omega),aD rY.o (by omega)⟩) (fun bG=>?_)
  try simp only [aZ]
  refine wpAnyH_done (by kernel_rfl) ?_ _
  go_wp2
  first
   | (have hQ:∃W b4,Bl w W/\w.heap.size<b4/\W.heap[w.heap.size]?=some (.cells #[ι 15,ι ia,ι ib,ι (cc:Int),ι (k:Int),.slice Q nl q] 55 (0,0))/\W.heap[b4]?=some (.cells #[ι (im (c.rd ia)).kind,ι (im (c.rd ia)).n] 100 (0,0))/\W=w2.alloc (eS (im (c.rd ia)))/\b4=w2.heap.size:=⟨_,_,bb2.o.alloc _,af kv.o,(Below.heap_alloc _ _ _ (af kv.o)).trans kv.o,aB _ _ _,rfl,rfl⟩;obtain ⟨W,b4,B4,y1,g1,g2,gW,gb⟩:=hQ;rw [<-gb,<-gW])
   | (have hQ:∃W b4,Bl w W/\w.heap.size<b4/\W.heap[w.heap.size]?=some (.cells #[ι 15,ι ia,ι ib,ι (cc:Int),ι (k:Int),.slice Q nl q] 55 (0,0))/\W.heap[b4]?=some (.cells #[ι (im (c.rd ia)).kind,ι (im (c.rd ia)).n] 100 (0,0))/\W=((w2.setCell ⟨w.heap.size+1,0,none⟩ (ι (im (c.rd ia)).kind)).setCell ⟨w.heap.size+1,1,none⟩ (ι (im (c.rd ia)).n))/\b4=w.heap.size+1:=⟨_,_,cT bb2.o (Nat.le_succ _) _ _,Nat.lt_succ_self _,dh kv.o (by omega) _ _,ba q9.o,rfl,rfl⟩;obtain ⟨W,b4,B4,y1,g1,g2,gW,gb⟩:=hQ;rw [<-gW,<-gb])
  clear gW gb
  have H4:=ae (HH.o.bl B4)
  have x0:=ae H4.o.y.hb
  have x1:=ae (dr g1)
  have x3:=ae (aO g2)
  have x4:=ae (aJ g2)
  replace B4:=ae B4
  replace g1:=ae g1
  replace g2:=ae g2
  refine wp_region_held_drew (S:=fun w'=>κ w' a.q 0 (π g.hb 0)/\κ w' w.heap.size 2 (ι ib)/\κ w' w.heap.size 3 (ι (cc:Int))/\κ w' w.heap.size 4 (ι (k:Int))/\κ w' b4 0 (ι (im (c.rd ia)).kind)/\κ w' b4 1 (ι (im (c.rd ia)).n)) (by kernel_rfl) ?_ (fun aa=>?_)
  ·exact ⟨x0.o,x1.o.2.2.1,x1.o.2.2.2.1,x1.o.2.2.2.2.1,x3.o,x4.o⟩
  iterate 14 (refine tn rfl (by kernel_rfl) (fun _ _ _ h=>h) (by intro _ h;go_split_ands;go_simp<;>with_reducible rfl) aa ?_;try simp only [aZ])
  refine aY (i:=9) (by kernel_rfl) rfl fun K hK=>?_
  go_simp
  go_at_call 185
  refine (fB (cc:Int) _).mono ?_
  rintro e w5 ⟨rfl,b5⟩
  have G9:=ae (b5.cell aa.1)
  have Ha:=ae (b5.cell aa.2.1)
  have Hb:=ae (b5.cell aa.2.2.1)
  have Hc:=ae (b5.cell aa.2.2.2.1)
  have He:=ae (b5.cell aa.2.2.2.2.1)
  have Hg:=ae (b5.cell aa.2.2.2.2.2)
  replace b5:=ae b5
  go_wp2_with fail
  refine hK.out _ _ (⟨G9.o,Ha.o,Hb.o,Hc.o,He.o,Hg.o⟩) (fun ah=>?_)
  try simp only [aZ]
  refine aY (i:=10) (by kernel_rfl) rfl fun K hK=>?_
  go_simp
  go_at_call 183
  refine (Eu.o _ (H4.o.bl ((Bl.refl W).drew.trans b5.o))).mono ?_
  rintro e w6 ⟨rfl,b6⟩
  have Oy:=ae (b6.cell ah.1)
  have Oz:=ae (b6.cell ah.2.1)
  have OA:=ae (b6.cell ah.2.2.1)
  have OB:=ae (b6.cell ah.2.2.2.1)
  have OC:=ae (b6.cell ah.2.2.2.2.1)
  have OD:=ae (b6.cell ah.2.2.2.2.2)
  replace b6:=ae b6
  go_wp2_with fail
  refine hK.out _ _ (⟨Oy.o,Oz.o,OA.o,OB.o,OC.o,OD.o⟩) (fun aH=>?_)
  try simp only [aZ]
  refine aY (i:=16) (by kernel_rfl) rfl fun K hK=>?_
  go_simp
  go_at_call 184
  have j1:=ax (((Bl.refl W).drew.trans b5.o).trans b6.o) g1.o
  have j2:=ax (((Bl.refl W).drew.trans b5.o).trans b6.o) g2.o
  refine (HH.o.y.useY (B4.o.trans (((Bl.refl W).drew.trans b5.o).trans b6.o)) HP.o).mono ?_
  rintro e w7 ⟨rfl,H7,K7⟩
  have i3:=K7.at (Xp.new (Nat.le_refl _) (af j1)) j1
  have i4:=K7.at (Xp.new (Nat.le_of_lt y1) (af j2)) j2
  have e0:=ae H7.hb
  replace H7:=ae H7
  clear j1 j2
  go_wp2_with fail
  refine hK.out _ _ (⟨e0.o,(dr i3).2.2.1,(dr i3).2.2.2.1,(dr i3).2.2.2.2.1,aO i4,aJ i4⟩) (fun bG=>?_)
  try simp only [aZ]
  refine wpAnyH_done (by kernel_rfl) ?_ _
  go_wp2
  go_end0
  exact HE.o _ H7.o.x
 ·go_wp2_with fail
  refine hK.out _ _ (⟨Bl.cell ((Bl.refl _).alloc _) aa.1,Bl.cell ((Bl.refl _).alloc _) aa.2.1,Bl.cell ((Bl.refl _).alloc _) aa.2.2.1,Bl.cell ((Bl.refl _).alloc _) aa.2.2.2.1,Bl.cell ((Bl.refl _).alloc _) aa.2.2.2.2.1,Bl.cell ((Bl.refl _).alloc _) aa.2.2.2.2.2.1,Bl.cell ((Bl.refl _).alloc _) aa.2.2.2.2.2.2.1,Bl.cell ((Bl.refl _).alloc _) aa.2.2.2.2.2.2.2⟩) (fun bd=>?_)
  try simp only [aZ]
  refine aY (i:=19) (by kernel_rfl) rfl fun K hK=>?_
  go_simp
  go_at_call 183
  refine (tl.o _ (HH.o.bl (by first|exact HB.o.drew|exact HB.o.drew.alloc _))).mono ?_
  rintro e w2 ⟨rfl,b2⟩
  have rQ:=ae (b2.cell bd.1)
  have rR:=ae (b2.cell bd.2.1)
  have rS:=ae (b2.cell bd.2.2.1)
  have rT:=ae (b2.cell bd.2.2.2.1)
  have rU:=ae (b2.cell bd.2.2.2.2.1)
  have rV:=ae (b2.cell bd.2.2.2.2.2.1)
  have rX:=ae (b2.cell bd.2.2.2.2.2.2.1)
  have rY:=ae (b2.cell bd.2.2.2.2.2.2.2)
  replace b2:=ae b2
  have bb2:Θ (Bl w w2):=by first|exact HB.o.drew.trans b2.o|exact (HB.o.drew.alloc _).trans b2.o
  have kv:=ax b2.o (by first|exact dK.o|exact (Below.heap_alloc _ _ _ (af dK.o)).trans dK.o)
  have hsz:=b2.o.size
  try (have q9:=ax b2.o (b:=w.heap.size+1) (bc w _ _ _ _).2;have p0:=aO q9;have p1:=aJ q9;have pz:=aA q9;replace q9:=ae q9)
  replace kv:=ae kv
  go_wp2_with fail
  refine hK.out _ _ (⟨rQ.o,rR.o,rS.o,rT.o,rU.o,rV.o,rX.o,rY.o⟩) (fun cQ=>?_)
  try simp only [aZ]
  refine aY (i:=21) (by kernel_rfl) rfl fun K hK=>?_
  go_wp2_with fail
  refine hK.out _ _ (by first|exact ⟨Bl.cell ((Bl.refl _).alloc _) rQ.o,Bl.cell ((Bl.refl _).alloc _) rR.o,Bl.cell ((Bl.refl _).alloc _) rS.o,Bl.cell ((Bl.refl _).alloc _) rT.o,Bl.cell ((Bl.refl _).alloc _) rU.o,Bl.cell ((Bl.refl _).alloc _) rV.o,Bl.cell ((Bl.refl _).alloc _) rX.o,Bl.cell ((Bl.refl _).alloc _) rY.o⟩|exact ⟨aD rQ.o (by omega),aD rR.o (by omega),aD rS.o (by omega),aD rT.o (by omega),aD rU.o (by omega),aD rV.o (by omega),aD rX.o (by omega),aD rY.o (by omega)⟩) (fun cd=>?_)
  try simp only [aZ]
  refine wpAnyH_done (by kernel_rfl) ?_ _
  go_wp2
  first
   | (have hQ:∃W b4,Bl w W/\w.heap.size<b4/\W.heap[w.heap.size]?=some (.cells #[ι 15,ι ia,ι ib,ι (cc:Int),ι (k:Int),.slice Q nl q] 55 (0,0))/\W.heap[b4]?=some (.cells #[ι (im (c.rd ia)).kind,ι (im (c.rd ia)).n] 100 (0,0))/\W=w2.alloc (eS (im (c.rd ia)))/\b4=w2.heap.size:=⟨_,_,bb2.o.alloc _,af kv.o,(Below.heap_alloc _ _ _ (af kv.o)).trans kv.o,aB _ _ _,rfl,rfl⟩;obtain ⟨W,b4,B4,y1,g1,g2,gW,gb⟩:=hQ;rw [<-gb,<-gW])
   | (have hQ:∃W b4,Bl w W/\w.heap.size<b4/\W.heap[w.heap.size]?=some (.cells #[ι 15,ι ia,ι ib,ι (cc:Int),ι (k:Int),.slice Q nl q] 55 (0,0))/\W.heap[b4]?=some (.cells #[ι (im (c.rd ia)).kind,ι (im (c.rd ia)).n] 100 (0,0))/\W=((w2.setCell ⟨w.heap.size+1,0,none⟩ (ι (im (c.rd ia)).kind)).setCell ⟨w.heap.size+1,1,none⟩ (ι (im (c.rd ia)).n))/\b4=w.heap.size+1:=⟨_,_,cT bb2.o (Nat.le_succ _) _ _,Nat.lt_succ_self _,dh kv.o (by omega) _ _,ba q9.o,rfl,rfl⟩;obtain ⟨W,b4,B4,y1,g1,g2,gW,gb⟩:=hQ;rw [<-gW,<-gb])
  clear gW gb
  have H4:=ae (HH.o.bl B4)
  have x0:=ae H4.o.y.hb
  have x1:=ae (dr g1)
  have x3:=ae (aO g2)
  have x4:=ae (aJ g2)
  replace B4:=ae B4
  replace g1:=ae g1
  replace g2:=ae g2
  refine wp_region_held_drew (S:=fun w'=>κ w' a.q 0 (π g.hb 0)/\κ w' w.heap.size 2 (ι ib)/\κ w' w.heap.size 3 (ι (cc:Int))/\κ w' w.heap.size 4 (ι (k:Int))/\κ w' b4 0 (ι (im (c.rd ia)).kind)/\κ w' b4 1 (ι (im (c.rd ia)).n)) (by kernel_rfl) ?_ (fun aa=>?_)
  ·exact ⟨x0.o,x1.o.2.2.1,x1.o.2.2.2.1,x1.o.2.2.2.2.1,x3.o,x4.o⟩
  iterate 14 (refine tn rfl (by kernel_rfl) (fun _ _ _ h=>h) (by intro _ h;go_split_ands;go_simp<;>with_reducible rfl) aa ?_;try simp only [aZ])
  refine aY (i:=9) (by kernel_rfl) rfl fun K hK=>?_
  go_simp
  go_at_call 185
  refine (fB (cc:Int) _).mono ?_
  rintro e w5 ⟨rfl,b5⟩
  have G9:=ae (b5.cell aa.1)
  have Ha:=ae (b5.cell aa.2.1)
  have Hb:=ae (b5.cell aa.2.2.1)
  have Hc:=ae (b5.cell aa.2.2.2.1)
  have He:=ae (b5.cell aa.2.2.2.2.1)
  have Hg:=ae (b5.cell aa.2.2.2.2.2)
  replace b5:=ae b5
  go_wp2_with fail
  refine hK.out _ _ (⟨G9.o,Ha.o,Hb.o,Hc.o,He.o,Hg.o⟩) (fun ah=>?_)
  try simp only [aZ]
  refine aY (i:=10) (by kernel_rfl) rfl fun K hK=>?_
  go_simp
  go_at_call 183
  refine (Eu.o _ (H4.o.bl ((Bl.refl W).drew.trans b5.o))).mono ?_
  rintro e w6 ⟨rfl,b6⟩
  have Oy:=ae (b6.cell ah.1)
  have Oz:=ae (b6.cell ah.2.1)
  have OA:=ae (b6.cell ah.2.2.1)
  have OB:=ae (b6.cell ah.2.2.2.1)
  have OC:=ae (b6.cell ah.2.2.2.2.1)
  have OD:=ae (b6.cell ah.2.2.2.2.2)
  replace b6:=ae b6
  go_wp2_with fail
  refine hK.out _ _ (⟨Oy.o,Oz.o,OA.o,OB.o,OC.o,OD.o⟩) (fun aH=>?_)
  try simp only [aZ]
  refine aY (i:=16) (by kernel_rfl) rfl fun K hK=>?_
  go_simp
  go_at_call 184
  have j1:=ax (((Bl.refl W).drew.trans b5.o).trans b6.o) g1.o
  have j2:=ax (((Bl.refl W).drew.trans b5.o).trans b6.o) g2.o
  refine (HH.o.y.useY (B4.o.trans (((Bl.refl W).drew.trans b5.o).trans b6.o)) HP.o).mono ?_
  rintro e w7 ⟨rfl,H7,K7⟩
  have i3:=K7.at (Xp.new (Nat.le_refl _) (af j1)) j1
  have i4:=K7.at (Xp.new (Nat.le_of_lt y1) (af j2)) j2
  have e0:=ae H7.hb
  replace H7:=ae H7
  clear j1 j2
  go_wp2_with fail
  refine hK.out _ _ (⟨e0.o,(dr i3).2.2.1,(dr i3).2.2.2.1,(dr i3).2.2.2.2.1,aO i4,aJ i4⟩) (fun bG=>?_)
  try simp only [aZ]
  refine wpAnyH_done (by kernel_rfl) ?_ _
  go_wp2
  go_end0
  exact HE.o _ H7.o.x
end
end
structure Has (w0:World) (g:Mg) (h:Hp) (c:aL) (ms:List Me) (rt:Int) (i:In):Prop where
 F:Fix w0 g h
 gh:Gh 1 h
 kd:Kd h
 gc:Gc h c
 hs:h.stops=false
 ok:pR h.file.classes ms c.m.code.length c.m.regs rt i
 tw:BO h.file.classes ms c.m.regs rt i
 iok:i.ok
 mc:xA h.file.classes
 inp:h.input.length<=1000000
section
variable {w0:World} {g:Mg} {h:Hp} {c:aL} {ms:List Me} {rt:Int} {i:In}
theorem Has.reg (S:Has w0 g h c ms rt i) (hn:0<=n/\n<c.m.regs):0<=n/\n<c.locs.length:=by have:=S.gc.len;omega
theorem Has.reg2 (S:Has w0 g h c ms rt i) (hn:n+1<c.m.regs):n+1<c.locs.length:=by have:=S.gc.len;omega
theorem Has.gd (S:Has w0 g h c ms rt i) (hn:0<=n/\n<c.m.regs):(c.rd n).kind=3->-1<=(c.rd n).n/\(c.rd n).n<h.objs.length:=(S.gc.rd hn).ref
theorem Has.ho (S:Has w0 g h c ms rt i):h.over=false/\h.thrown=-1:=by
 obtain ⟨ho,ht⟩:=aF S.hs
 have:=S.gh.thr
 exact ⟨ho,by omega⟩
end
theorem DM (X:Nat->Prop) (wx w0:World) (g:Mg) (h:Hp) (qs:List Qb) (a:Mc) (c:aL) (op ia ib ic ii:Int) (args:List Int) (ms:List Me) (rt:Int) (Q:Option Addr) (nl q:Nat) (w:World) (H:RX 1 X wx w0 g w h qs a c) (S:Has w0 g h c ms rt ⟨op,ia,ib,ic,ii,args⟩) (hop:op<=9∨op=13∨op=14∨op=17∨op=19∨op=22∨op=24) :
  χ 187 #[π a.q 0,.agg #[ι op,ι ia,ι ib,ι ic,ι ii,.slice Q nl q]] w fun e w2=>cM X wx w0 g qs a c (cy h c ⟨op,ia,ib,ic,ii,args⟩) (bR h c ⟨op,ia,ib,ic,ii,args⟩) e w2:=by
 have h1:1<=op:=S.ok.op.1
 have hb:=S.ok.b
 have hc:=S.ok.c
 have hm:=S.ok.move
 have b2:=S.tw.b2
 have c2:=S.tw.c2
 have hfl:=S.ok.fld
 dsimp only at hb hc hm b2 c2 hfl
 have eT:=S.gh.len
 rcases (by omega:op=1∨op=2∨op=3∨op=4∨op=5∨op=6∨op=7∨op=8∨op=9∨op=13∨op=14∨op=17∨op=19∨op=22∨op=24) with e|e|e|e|e|e|e|e|e|e|e|e|e|e|e<;>subst e
 ·exact Dt X wx w0 g h qs a c ia ib ic ii args Q nl q w H S.hs
 ·exact Dv X wx w0 g h qs a c ia ib ic ii args Q nl q w H S.hs
 ·exact Dw X wx w0 g h qs a c ia ib ic ii args Q nl q w H S.hs
 ·exact Dx X wx w0 g h qs a c ia ib ic ii args Q nl q w H S.hs (S.reg (hb (by omega))) (hm rfl) (fun x=>S.reg2 (b2 (Or.inl ⟨rfl,x⟩)))
 ·exact Dy X wx w0 g h qs a c ia ib ic ii args Q nl q w H S.hs (S.reg (hb (by omega))) (S.reg (hc (by omega))) eT
 ·exact Dz X wx w0 g h qs a c ia ib ic ii args Q nl q w H S.hs (S.reg (hb (by omega))) (S.reg (hc (by omega))) eT ⟨S.reg2 (b2 (by omega)),S.reg2 (c2 (by omega))⟩
 ·exact DB X wx w0 g h qs a c ia ib ic ii args Q nl q w H S.hs (S.reg (hb (by omega)))
 ·exact DC X wx w0 g h qs a c ia ib ic ii args Q nl q w H S.hs (S.reg (hb (by omega))) (S.reg2 (b2 (by omega)))
 ·exact DD X wx w0 g h qs a c ia ib ic ii args Q nl q w H S.hs (S.reg (hb (by omega))) (S.reg (hc (by omega))) ⟨S.reg2 (b2 (by omega)),S.reg2 (c2 (by omega))⟩
 ·exact zZ X wx w0 g h qs a c ia ib ic ii args Q nl q w H S.hs eT
 ·exact Af X wx w0 g h qs a c ia ib ic ii args Q nl q w H S.hs (S.reg (hb (by omega))) S.F eT (S.gd (hb (by omega))) (hfl (by omega))
 ·exact Ae X wx w0 g h qs a c ia ib ic ii args Q nl q w H S.hs (S.reg (hb (by omega))) S.F eT (S.gd (hb (by omega)))
 ·exact zu X wx w0 g h qs a c ia ib ic ii args Q nl q w H S.hs
 ·exact Aa X wx w0 g h qs a c ia ib ic ii args Q nl q w H S.hs
 ·exact Ab X wx w0 g h qs a c ia ib ic ii args Q nl q w H S.hs S.F.inp S.gh.used S.inp
theorem Lc {v:Va} {cc:Int} (hs:h.stops=false) (hf:(h.findH v cc).stops=false):h.of v ⟨3,cc⟩=true/\¬v.n<0:=by
 obtain ⟨ho,-⟩:=aF hs
 cases hz:h.of v ⟨3,cc⟩ with
 | false =>
  have e:h.findH v cc=h.fin 6:=by unfold Hp.findH Hp.mustB;rw [hz,Bool.false_and,if_neg (by decide),iU rfl]
  rw [e,oY hs 6] at hf
  cases hf
 | true =>
  refine ⟨rfl,fun hn=>?_⟩
  have e:h.findH v cc=h.raise 1:=by unfold Hp.findH;rw [hz,if_pos (by unfold Hp.mustB;rw [ho];rfl),if_pos hn]
  rw [e,(oZ hs 1 aE).2] at hf
  cases hf
theorem Hh {qs:List Qb} {ms:List Me} {rt:Int} (H:RX 1 X wx w0 g w h qs a c) (S:Has w0 g h c ms rt i) (hop:i.op<=9∨i.op=13∨i.op=14∨i.op=17∨i.op=19∨i.op=22∨i.op=24) (hs:(cy h c i).stops=false):1<=(bR h c i).kind/\(bR h c i).kind<=3:=by
 have h1:1<=i.op:=S.ok.op.1
 obtain ⟨ho,iG⟩:=S.ho
 have nP:=(aF hs).1
 have c1:∀k n:Int,1<=k/\k<=3->1<=(⟨k,n⟩:Va).kind/\(⟨k,n⟩:Va).kind<=3:=fun k n x=>x
 rcases (by omega:i.op=1∨i.op=2∨i.op=3∨i.op=4∨i.op=5∨i.op=6∨i.op=7∨i.op=8∨i.op=9∨i.op=13∨i.op=14∨i.op=17∨i.op=19∨i.op=22∨i.op=24) with e|e|e|e|e|e|e|e|e|e|e|e|e|e|e
 ·rw [show bR h c i=⟨1,i.n⟩ from by simp [bR,aG,e]];exact c1 _ _ (by omega)
 ·rw [show bR h c i=⟨2,i.n⟩ from by simp [bR,aG,e]];exact c1 _ _ (by omega)
 ·rw [show bR h c i=⟨3,-1⟩ from by simp [bR,aG,e]];exact c1 _ _ (by omega)
 ·rw [show bR h c i=c.rd i.b from by simp [bR,aG,e]]
  rw [show cy h c i=h.rdH c i.b i.c from by simp [cy,givesH,e]] at nP
  have:=(oP nP).1
  have:=S.ok.move e
  omega
 ·rw [show bR h c i=h.reckV (c.rd i.b) (c.rd i.c) 1 i.n from by simp [bR,aG,e]]
  rw [show cy h c i=h.reckH (c.rd i.b) (c.rd i.c) 1 i.n from by simp [cy,givesH,e]] at hs
  rw [qi hs ho iG];omega
 ·rw [show bR h c i=h.reckV (c.rd i.b) (c.rd i.c) 2 i.n from by simp [bR,aG,e]]
  rw [show cy h c i=h.reckH (c.rd i.b) (c.rd i.c) 2 i.n from by simp [cy,givesH,e]] at hs
  rw [qi hs ho iG];omega
 ·rw [show bR h c i=⟨2,(c.rd i.b).n⟩ from by simp [bR,aG,e]];exact c1 _ _ (by omega)
 ·rw [show bR h c i=⟨1,wrap32 (c.rd i.b).n⟩ from by simp [bR,aG,e]];exact c1 _ _ (by omega)
 ·rw [show bR h c i=⟨1,lh (c.rd i.b).n (c.rd i.c).n⟩ from by simp [bR,aG,e]];exact c1 _ _ (by omega)
 ·rw [show bR h c i=h.newV from by simp [bR,aG,e]]
  rw [show cy h c i=h.new i.b from by simp [cy,givesH,e]] at nP
  unfold Hp.newV
  split
  ·rename_i hf
   unfold Hp.new at nP
   rw [if_pos hf,(mv ho 4).1] at nP
   cases nP
  ·exact c1 _ _ (by omega)
 ·have eH:cy h c i=(if (h.rdH c i.b 3).over=true then h.rdH c i.b 3 else (h.rdH c i.b 3).findH (c.rd i.b) i.c):=by simp [cy,givesH,e]
  have eV:bR h c i=(if (h.rdH c i.b 3).over=true then aE else (h.rdH c i.b 3).getV (c.rd i.b) i.c i.n):=by simp [bR,aG,e]
  rw [eH] at hs nP
  by_cases e1:(c.rd i.b).kind=3
  ·rw [de e1,if_neg (by rw [ho];decide)] at hs
   rw [eV,de e1,if_neg (by rw [ho];decide)]
   obtain ⟨hz,hn⟩:=Lc S.hs hs
   have hfl:=S.ok.fld (Or.inl e)
   obtain ⟨cc,hcc⟩:∃cc:Nat,i.c=cc:=⟨i.c.toNat,by omega⟩
   obtain ⟨k,hk⟩:∃k:Nat,i.n=k:=⟨i.n.toNat,by omega⟩
   rw [hcc,hk] at hfl ⊢
   rw [hcc] at hz
   rw [Int.toNat_natCast] at hfl
   have ny:k<(nth bL h.file.classes cc).fields.length:=by omega
   have PC:=(S.gd (S.ok.b (by omega)) e1).2
   obtain ⟨o,j,q1,q2,q3,q4,q5,q6,q7⟩:=get_at H hz (by unfold Hp.mustB;rw [ho];rfl) hn PC ny
   have Bf:o<h.objs.length:=q2
   rw [q7,S.kd _ (bE (d:=cF) Bf) _ (bE (d:=cE) q3),q5,q6]
   exact gX S.F.may (by omega) ny
  ·rw [fO e1,if_pos (mv ho 6).1,(mv ho 6).1] at nP
   cases nP
 ·have eV:bR h c i=(if (h.rdH c i.b 3).over=true then aE else (h.rdH c i.b 3).isV (c.rd i.b) i.c):=by simp [bR,aG,e]
  have eH:cy h c i=(if (h.rdH c i.b 3).over=true then h.rdH c i.b 3 else (h.rdH c i.b 3).must (isRef (c.rd i.b))):=by simp [cy,givesH,e]
  rw [eV]
  rw [eH] at nP
  split
  ·rename_i hx;rw [if_pos hx,hx] at nP;cases nP
  ·exact c1 _ _ (by omega)
 ·rw [show bR h c i=c.giv from by simp [bR,e]]
  rw [show cy h c i=h.must (decide (c.giv.kind=i.b)) from by simp [cy,e]] at nP
  have:=of_decide_eq_true (iP nP).1
  have:=S.ok.res e
  omega
 ·rw [show bR h c i=c.cau from by simp [bR,e]]
  rw [show cy h c i=h.must (isRef c.cau) from by simp [cy,e]] at nP
  have:=of_decide_eq_true (iP nP).1
  omega
 ·rw [show bR h c i=h.inV from by simp [bR,aG,e]]
  rw [show cy h c i=h.input' from by simp [cy,givesH,e]] at nP
  unfold Hp.inV
  split
  ·rename_i hd
   unfold Hp.input' at nP
   rw [if_pos hd,(mv ho 3).1] at nP
   cases nP
  ·exact c1 _ _ (by omega)
theorem Hi (ho:h.over=true) (c:aL) (n k:Int):h.rdH c n k=h:=by
 unfold Hp.rdH Hp.must
 split
 ·rfl
 ·unfold Hp.fin;rw [if_pos ho]
theorem BR (hs:h.stops=false) (hn:h.of (c.rd i.a) (bI h.file.classes i.c i.n)=false∨h.of (c.rd i.b) ⟨3,i.c⟩=false):(pQ h c i).h=h.fin 6:=by
 obtain ⟨ho,-⟩:=aF hs
 have Up:=(mv ho 6).1
 unfold pQ
 dsimp only
 by_cases e1:(c.rd i.b).kind=3
 ·rw [de e1]
  by_cases e2:(c.rd i.a).kind=(bI h.file.classes i.c i.n).kind
  ·rw [de e2,if_neg (by rw [ho];decide)]
   unfold Hp.put
   cases hv:h.of (c.rd i.a) (bI h.file.classes i.c i.n) with
   | false=>rw [if_neg (by unfold Hp.mustB;simp),iU rfl]
   | true =>
    have hu:h.of (c.rd i.b) ⟨3,i.c⟩=false:=by
     rcases hn with q|q
     ·rw [q] at hv;cases hv
     ·exact q
    rw [if_pos (by unfold Hp.mustB;rw [ho];rfl),if_pos]
    ·unfold Hp.findH Hp.mustB;rw [hu,Bool.false_and,if_neg (by decide),iU rfl]
    ·unfold Hp.findN Hp.mustB;rw [hu,Bool.false_and,if_neg (by decide)];decide
  ·rw [fO e2,if_pos Up]
 ·rw [fO e1,Hi Up,if_pos Up]
theorem OE (hs:h.stops=false) (hv:h.of (c.rd i.a) (bI h.file.classes i.c i.n)=true) (hu:h.of (c.rd i.b) ⟨3,i.c⟩=true):(pQ h c i).h=if h.findN (c.rd i.b) i.c i.n<0 then h.findH (c.rd i.b) i.c else (h.findH (c.rd i.b) i.c).setV (c.rd i.b).n.toNat (h.findN (c.rd i.b) i.c i.n).toNat (c.rd i.a):=by
 obtain ⟨ho,-⟩:=aF hs
 have e1:(c.rd i.b).kind=3:=kD hu
 have e2:(c.rd i.a).kind=(bI h.file.classes i.c i.n).kind:=by
  have:=hv
  unfold Hp.of at this
  rw [Bool.and_eq_true] at this
  exact of_decide_eq_true this.1
 unfold pQ
 dsimp only
 rw [de e1,de e2,if_neg (by rw [ho];decide)]
 unfold Hp.put
 rw [hv,if_pos (by unfold Hp.mustB;rw [ho];rfl)]
theorem Hj (h:Hp) (c:aL) (i:In):pQ h c i=⟨(pQ h c i).h,c.clr,c.pc+1⟩:=rfl
section
variable (X:Nat->Prop) (wx w0:World) (g:Mg) (h:Hp)
theorem DN (qs:List Qb) (a:Mc) (c:aL) (ia ib ic ii:Int) (args:List Int) (ms:List Me) (rt:Int) (Q:Option Addr) (nl q:Nat) (w:World) (H:RX 1 X wx w0 g w h qs a c) (S:Has w0 g h c ms rt ⟨15,ia,ib,ic,ii,args⟩) :
  χ 134 #[π a.q 0,.agg #[ι 15,ι ia,ι ib,ι ic,ι ii,.slice Q nl q]] w fun e w'=>iT X wx w0 g qs a c (bV h c ⟨15,ia,ib,ic,ii,args⟩) e w':=by
 have hs:=S.hs
 have ho:=S.ho.1
 have hd:bV h c ⟨15,ia,ib,ic,ii,args⟩=pQ h c ⟨15,ia,ib,ic,ii,args⟩:=rfl
 rw [hd,Hj]
 have ha:=S.ok.a (Or.inr (Or.inl ⟨by show (13:Int)<=15;decide,by show (15:Int)<=17;decide⟩))
 have hb:=S.ok.b (Or.inr (Or.inr (Or.inl rfl)))
 have hfl:=S.ok.fld (Or.inr rfl)
 have h2:(bI h.file.classes ic ii).kind=2->ia+1<c.locs.length:=fun x=>S.reg2 (S.tw.a2 (Or.inl ⟨rfl,x⟩))
 dsimp only at ha hb hfl
 have yH:=S.gd ha
 have hvb:=S.gd hb
 cases hv:h.of (c.rd ia) (bI h.file.classes ic ii) with
 | false =>
  rw [BR hs (Or.inl hv)]
  exact Ag X wx w0 g h qs a c ia ib ic ii args Q nl q w H hs (S.reg ha) (S.reg hb) S.F S.gh.len yH hvb hfl h2 hv
 | true =>
  cases hu:h.of (c.rd ib) ⟨3,ic⟩ with
  | false =>
   rw [BR hs (Or.inr hu)]
   exact Ah X wx w0 g h qs a c ia ib ic ii args Q nl q w H hs (S.reg ha) (S.reg hb) S.F S.gh.len yH hvb hfl h2 hv hu
  | true =>
   rw [OE hs hv hu]
   dsimp only
   have hm:h.mustB true=true:=by unfold Hp.mustB;rw [ho];rfl
   by_cases hn:(c.rd ib).n<0
   ·have e1:h.findN (c.rd ib) ic ii<0:=by unfold Hp.findN;rw [hu,if_pos hm,if_pos hn];decide
    have e2:h.findH (c.rd ib) ic=h.raise 1:=by unfold Hp.findH;rw [hu,if_pos hm,if_pos hn]
    rw [if_pos e1,e2]
    exact Ai X wx w0 g h qs a c ia ib ic ii args Q nl q w H hs (S.reg ha) (S.reg hb) S.F S.gh.len yH hvb hfl h2 hv hu hn
   ·obtain ⟨cc,rfl⟩:∃cc:Nat,ic=cc:=⟨ic.toNat,by omega⟩
    obtain ⟨k,rfl⟩:∃k:Nat,ii=k:=⟨ii.toNat,by omega⟩
    have Uq:=hfl
    rw [Int.toNat_natCast] at hfl
    obtain ⟨o,j,q1,q2,q3,q4,q5,q6,q7⟩:=get_at H hu hm hn (hvb (kD hu)).2 (by omega:k<(nth bL h.file.classes cc).fields.length)
    have G4:h.obj (c.rd ib).n=nth cF h.objs o:=by unfold Hp.obj;rw [q1,Int.toNat_natCast]
    have e1:h.findN (c.rd ib) cc k=j:=by unfold Hp.findN;rw [hu,if_pos hm,if_neg hn,G4];exact q4
    have e2:h.findH (c.rd ib) cc=h:=by unfold Hp.findH;rw [hu,if_pos hm,if_neg hn]
    rw [e1,if_neg (by omega),e2,q1,Int.toNat_natCast,Int.toNat_natCast]
    have hst:=S.gh.steps
    have Zc:=S.gh.fuel
    exact Aj X wx w0 g h qs a c ia ib cc k args Q nl q w H hs (S.reg ha) (S.reg hb) S.F S.gh.len yH hvb Uq h2 hv hu o j q1 q2 q3 q5 q6 (by omega)
theorem Hl (qs:List Qb) (a:Mc) (c:aL) (op ia ib ic ii:Int) (args:List Int) (ms:List Me) (rt:Int) (Q:Option Addr) (nl q:Nat) (w:World) (H:RX 1 X wx w0 g w h qs a c) (S:Has w0 g h c ms rt ⟨op,ia,ib,ic,ii,args⟩) (rZ:op≠10) (lP:op≠11) (jU:op≠12) (oA:op≠18) (kV:op≠20) :
  χ 134 #[π a.q 0,.agg #[ι op,ι ia,ι ib,ι ic,ι ii,.slice Q nl q]] w fun e w'=>iT X wx w0 g qs a c (bV h c ⟨op,ia,ib,ic,ii,args⟩) e w':=by
 have hop:=S.ok.op
 have ha:=S.ok.a
 dsimp only at hop ha
 by_cases PY:op=15
 ·subst PY;exact DN X wx w0 g h qs a c ia ib ic ii args ms rt Q nl q w H S
 by_cases Nb:op=16
 ·subst Nb;exact DH X wx w0 g h qs a c ia ib ic ii args Q nl q w H S.hs (S.reg (ha (by omega))) S.F S.gh.len (S.gd (ha (by omega)))
 by_cases PZ:op=21
 ·subst PZ;exact DI X wx w0 g h qs a c ia ib ic ii args Q nl q w H S.hs (S.reg (ha (by omega))) S.gh.len (S.gd (ha (by omega)))
 by_cases Nc:op=23
 ·subst Nc
  have hst:=S.gh.steps
  have Zc:=S.gh.fuel
  have G8:=S.gh.o
  exact DJ X wx w0 g h qs a c ia ib ic ii args Q nl q w H S.hs (S.reg (ha (by omega))) (S.ok.emit rfl) (fun x=>S.reg2 (S.tw.a2 (Or.inr ⟨rfl,x⟩))) (by omega)
 have hv:op<=9∨op=13∨op=14∨op=17∨op=19∨op=22∨op=24:=by omega
 refine G7 op X wx w0 g h qs a c ia ib ic ii args Q nl q w H S.hs (S.reg (ha (by omega))) hv (fun X wx w H=>DM X wx w0 g h qs a c op ia ib ic ii args ms rt Q nl q w H S hv) (fun st=>Hh H S hv st) (fun st x=>S.reg2 ?_)
 exact (Ot S.gh S.kd S.gc S.hs S.mc S.ok S.iok hv st).2 x
end
section
open Go.Maps (Keyed has)
structure vY (w:World) (a:Mc) (c:aL) (i:In) (cb co:Nat) (Q:Option Addr) (q n:Nat):Prop where
 C:a.C=some ⟨cb,co,none⟩
 pc:c.pc=n
 lt:n<c.m.code.length
 len:c.m.code.length<=maxLen
 c0:w.cell? ⟨cb,co+n*6,none⟩=some (ι i.op)
 c1:w.cell? ⟨cb,co+n*6+1,none⟩=some (ι i.a)
 c2:w.cell? ⟨cb,co+n*6+2,none⟩=some (ι i.b)
 c3:w.cell? ⟨cb,co+n*6+3,none⟩=some (ι i.c)
 c4:w.cell? ⟨cb,co+n*6+4,none⟩=some (ι i.n)
 c5:w.cell? ⟨cb,co+n*6+5,none⟩=some (.slice Q i.args.length q)
theorem vY.bl {w':World} {cb co:Nat} {Q:Option Addr} {q n:Nat} (H:vY w a c i cb co Q q n) (hb:Bl w w'):vY w' a c i cb co Q q n:=⟨H.C,H.pc,H.lt,H.len,hb.cell H.c0,hb.cell H.c1,hb.cell H.c2,hb.cell H.c3,hb.cell H.c4,hb.cell H.c5⟩
theorem RX.ati {s:Nat} {qs:List Qb} (H:RX s X wx w0 g w h qs a c) (hp:0<=c.pc/\c.pc<c.m.code.length):∃cb co Q q,vY w a c (nth eR c.m.code c.pc.toNat) cb co Q q c.pc.toNat:=by
 obtain ⟨vc,vo,vx,vs,l,H⟩:=H
 have hm:=H.ca.me.2.1.bl H.rh.bl
 rcases hm.2 with h0|⟨cb,co,hC,hi⟩
 ·omega
 obtain ⟨k0,k1,k2,k3,k4,-,Q,q,k5,-⟩:=hi c.pc.toNat (by omega)
 exact ⟨cb,co,Q,q,hC,by omega,by omega,hm.1,k0,k1,k2,k3,k4,k5⟩
theorem Hm (h:Hp) (c:aL) (i:In):(bV h c i).c.cau=aE:=by
 unfold bV
 split
 ·rfl
 split
 ·rfl
 split
 ·rfl
 split
 ·rfl
 split
 ·rfl
 split
 ·unfold wN;dsimp only;split
  ·exact (ln ..).2.2.2
  ·rfl
 split
 ·rfl
 split
 ·unfold wO;dsimp only;split
  ·exact (ln ..).2.2.2
  ·rfl
 split
 ·rfl
 ·exact (ln ..).2.2.2
theorem Ld (h:Hp) (c:aL) (i:In) (h1:i.op≠10) (h2:i.op≠11) (h3:i.op≠12):(bV h c i).nx=c.pc+1:=by
 unfold bV
 rw [if_neg h1,if_neg h2,if_neg h3]
 split
 ·rfl
 split
 ·rfl
 split
 ·rfl
 split
 ·rfl
 split
 ·rfl
 split
 ·rfl
 ·rfl
structure SG (X:Nat->Prop) (wx w0:World) (g:Mg) (qs:List Qb) (a:Mc) (c:aL) (d:nr) (e:Ending) (w':World):Prop where
 how:e=mV d
 stop:d.h.stops=true->RS 0 X wx w0 g w' d.h qs a c
 go:d.h.stops=false->RX 0 X wx w0 g w' d.h qs a { d.c with pc:=d.nx }
abbrev WR (w:World) (q:Nat) (n k1 n1 k2 n2:Int):World:=((((w.setCell ⟨q,11,none⟩ (ι n)).setCell ⟨q,12,none⟩ (ι k1)).setCell ⟨q,13,none⟩ (ι n1)).setCell ⟨q,14,none⟩ (ι k2)).setCell ⟨q,15,none⟩ (ι n2)
section
variable {s:Nat} {X:Nat->Prop} {wx w0 w:World} {g:Mg} {h:Hp}
theorem RX.setP {qs:List Qb} (H:RX s X wx w0 g w h qs a c) (n:Int) (u v:Va) (hu:0<=u.kind/\u.kind<=3) (hv:0<=v.kind/\v.kind<=3):RX s X wx w0 g (WR w a.q n u.kind (im u).n v.kind (im v).n) h qs a { c with giv:=u,cau:=v,pc:=n }:=by
 obtain ⟨vc,vo,vx,vs,l,H⟩:=H
 refine ⟨vc,vo,vx,vs,l,H.setQ (dy (dy (dy (dy (cD _ _ _) (cD _ _ _)) (cD _ _ _)) (cD _ _ _)) (cD _ _ _)) ?_ rfl rfl ⟨hu,hv⟩⟩
 rw [ay (ay (ay (ay (ay H.ca.blk _) _) _) _) _]
 rfl
theorem RX.set0 {qs:List Qb} (H:RX s X wx w0 g w h qs a c) (n:Int):RX s X wx w0 g (WR w a.q n 0 0 0 0) h qs a { c with giv:=aE,cau:=aE,pc:=n }:=H.setP n aE aE (by decide) (by decide)
theorem RX.cp {qs:List Qb} (H:RX s X wx w0 g w h qs a c):w.cell? ⟨a.q,11,none⟩=some (ι c.pc)/\(∀i,w.frozen? ⟨a.q,i,none⟩=false)/\w.cell? ⟨a.q,12,none⟩=some (ι c.giv.kind)/\w.cell? ⟨a.q,13,none⟩=some (ι (im c.giv).n)/\w.cell? ⟨a.q,14,none⟩=some (ι c.cau.kind)/\w.cell? ⟨a.q,15,none⟩=some (ι (im c.cau).n):=by
 obtain ⟨vc,vo,vx,vs,l,H⟩:=H
 exact ⟨H.ca.cells.c11,H.ca.free,H.ca.cells.c12,H.ca.cells.c13,H.ca.cells.c14,H.ca.cells.c15⟩
theorem RX.c10 {qs:List Qb} (H:RX s X wx w0 g w h qs a c):w.cell? ⟨a.q,11,none⟩=some (ι c.pc)/\(∀i,w.frozen? ⟨a.q,i,none⟩=false)/\w.cell? ⟨a.q,8,none⟩=some (.slice a.C c.m.code.length a.c):=by
 obtain ⟨vc,vo,vx,vs,l,H⟩:=H
 exact ⟨H.ca.cells.c11,H.ca.free,H.ca.cells.c8⟩
end
theorem OG (X:Nat->Prop) (wx w0:World) (g:Mg) (h:Hp) (qs:List Qb) (a:Mc) (c:aL) (w:World) (H:RX 1 X wx w0 g w h qs a c) (hs:h.stops=false) (hp:(c.m.code.length:Int)<=c.pc) (JJ:c.m.code.length<=maxLen) :
  χ 70 #[π a.q 0] w fun e w'=>e=bF 6 0 0/\RX 1 X wx w0 g w' h qs a c:=by
 have HH:=ae H
 obtain ⟨c10,fz,c8⟩:=H.c10
 have hq:=H.qlt
 clear H
 go_enter func70,ntmps70
 go_wp2
 go_quiet (fail)
 go_wp2_with (go_at_call 86;refine (mL _).mono ?_;rintro e w1 ⟨rfl,hw⟩;rw [hw];clear hw w1)
 exact ⟨rfl,rfl,HH.o.bl (aR (Bl.refl w) _)⟩
theorem Lg (w:World) (b:Nat) (hb:b=w.heap.size) (T:TypeId):(w.alloc (.cells #[ι 0,ι 0,ι 0,ι 0,ι 0,.slice none 0 0] T)).cell? ⟨b,0,none⟩=some (ι 0)/\(w.alloc (.cells #[ι 0,ι 0,ι 0,ι 0,ι 0,.slice none 0 0] T)).cell? ⟨b,1,none⟩=some (ι 0)/\(w.alloc (.cells #[ι 0,ι 0,ι 0,ι 0,ι 0,.slice none 0 0] T)).cell? ⟨b,2,none⟩=some (ι 0)/\(w.alloc (.cells #[ι 0,ι 0,ι 0,ι 0,ι 0,.slice none 0 0] T)).cell? ⟨b,3,none⟩=some (ι 0)/\(w.alloc (.cells #[ι 0,ι 0,ι 0,ι 0,ι 0,.slice none 0 0] T)).cell? ⟨b,4,none⟩=some (ι 0)/\(w.alloc (.cells #[ι 0,ι 0,ι 0,ι 0,ι 0,.slice none 0 0] T)).cell? ⟨b,5,none⟩=some (.slice none 0 0)/\∀i,(w.alloc (.cells #[ι 0,ι 0,ι 0,ι 0,ι 0,.slice none 0 0] T)).frozen? ⟨b,i,none⟩=false:=by
 subst hb
 exact ⟨ai rfl,ai rfl,ai rfl,ai rfl,ai rfl,ai rfl,fun i=>by unfold World.frozen?;rw [aB];simp⟩
theorem cR (w:World) (b:Nat) {o o':Nat} (v:Value) (h:o≠o'):(w.setCell ⟨b,o,none⟩ v).cell? ⟨b,o',none⟩=w.cell? ⟨b,o',none⟩:=World.cell?_setCell_other w _ _ _ (by intro e;injection e with _ e _;exact h e)
theorem Lh {u0 u1 u2 u3 u4 u5:Value} (h0:w.cell? ⟨b,0,none⟩=some u0) (h1:w.cell? ⟨b,1,none⟩=some u1) (h2:w.cell? ⟨b,2,none⟩=some u2) (h3:w.cell? ⟨b,3,none⟩=some u3) (h4:w.cell? ⟨b,4,none⟩=some u4) (h5:w.cell? ⟨b,5,none⟩=some u5) (hf:∀i,w.frozen? ⟨b,i,none⟩=false) (y0 y1 y2 y3 y4 y5:Value):((((((w.setCell ⟨b,0,none⟩ y0).setCell ⟨b,1,none⟩ y1).setCell ⟨b,2,none⟩ y2).setCell ⟨b,3,none⟩ y3).setCell ⟨b,4,none⟩ y4).setCell ⟨b,5,none⟩ y5).cell? ⟨b,0,none⟩=some y0/\((((((w.setCell ⟨b,0,none⟩ y0).setCell ⟨b,1,none⟩ y1).setCell ⟨b,2,none⟩ y2).setCell ⟨b,3,none⟩ y3).setCell ⟨b,4,none⟩ y4).setCell ⟨b,5,none⟩ y5).cell? ⟨b,1,none⟩=some y1/\((((((w.setCell ⟨b,0,none⟩ y0).setCell ⟨b,1,none⟩ y1).setCell ⟨b,2,none⟩ y2).setCell ⟨b,3,none⟩ y3).setCell ⟨b,4,none⟩ y4).setCell ⟨b,5,none⟩ y5).cell? ⟨b,2,none⟩=some y2/\((((((w.setCell ⟨b,0,none⟩ y0).setCell ⟨b,1,none⟩ y1).setCell ⟨b,2,none⟩ y2).setCell ⟨b,3,none⟩ y3).setCell ⟨b,4,none⟩ y4).setCell ⟨b,5,none⟩ y5).cell? ⟨b,3,none⟩=some y3/\((((((w.setCell ⟨b,0,none⟩ y0).setCell ⟨b,1,none⟩ y1).setCell ⟨b,2,none⟩ y2).setCell ⟨b,3,none⟩ y3).setCell ⟨b,4,none⟩ y4).setCell ⟨b,5,none⟩ y5).cell? ⟨b,4,none⟩=some y4/\((((((w.setCell ⟨b,0,none⟩ y0).setCell ⟨b,1,none⟩ y1).setCell ⟨b,2,none⟩ y2).setCell ⟨b,3,none⟩ y3).setCell ⟨b,4,none⟩ y4).setCell ⟨b,5,none⟩ y5).cell? ⟨b,5,none⟩=some y5/\∀i,((((((w.setCell ⟨b,0,none⟩ y0).setCell ⟨b,1,none⟩ y1).setCell ⟨b,2,none⟩ y2).setCell ⟨b,3,none⟩ y3).setCell ⟨b,4,none⟩ y4).setCell ⟨b,5,none⟩ y5).frozen? ⟨b,i,none⟩=false:=by
 refine ⟨?_,?_,?_,?_,?_,?_,fun i=>by simp only [World.frozen?_setCell];exact hf i⟩
 ·rw [cR _ _ _ (by decide)];rw [cR _ _ _ (by decide)];rw [cR _ _ _ (by decide)];rw [cR _ _ _ (by decide)];rw [cR _ _ _ (by decide)];refine World.cell?_setCell_same _ _ _ (u:=u0) ?_;exact h0
 ·rw [cR _ _ _ (by decide)];rw [cR _ _ _ (by decide)];rw [cR _ _ _ (by decide)];rw [cR _ _ _ (by decide)];refine World.cell?_setCell_same _ _ _ (u:=u1) ?_;rw [cR _ _ _ (by decide)];exact h1
 ·rw [cR _ _ _ (by decide)];rw [cR _ _ _ (by decide)];rw [cR _ _ _ (by decide)];refine World.cell?_setCell_same _ _ _ (u:=u2) ?_;rw [cR _ _ _ (by decide)];rw [cR _ _ _ (by decide)];exact h2
 ·rw [cR _ _ _ (by decide)];rw [cR _ _ _ (by decide)];refine World.cell?_setCell_same _ _ _ (u:=u3) ?_;rw [cR _ _ _ (by decide)];rw [cR _ _ _ (by decide)];rw [cR _ _ _ (by decide)];exact h3
 ·rw [cR _ _ _ (by decide)];refine World.cell?_setCell_same _ _ _ (u:=u4) ?_;rw [cR _ _ _ (by decide)];rw [cR _ _ _ (by decide)];rw [cR _ _ _ (by decide)];rw [cR _ _ _ (by decide)];exact h4
 ·refine World.cell?_setCell_same _ _ _ (u:=u5) ?_;rw [cR _ _ _ (by decide)];rw [cR _ _ _ (by decide)];rw [cR _ _ _ (by decide)];rw [cR _ _ _ (by decide)];rw [cR _ _ _ (by decide)];exact h5
theorem OH {v:World} (h:Bl w v) (hb:w.heap.size<=b) (y0 y1 y2 y3 y4 y5:Value):Bl w ((((((v.setCell ⟨b,0,none⟩ y0).setCell ⟨b,1,none⟩ y1).setCell ⟨b,2,none⟩ y2).setCell ⟨b,3,none⟩ y3).setCell ⟨b,4,none⟩ y4).setCell ⟨b,5,none⟩ y5):=((((((h.setCell (p:=⟨b,0,none⟩) hb y0).setCell (p:=⟨b,1,none⟩) hb y1).setCell (p:=⟨b,2,none⟩) hb y2).setCell (p:=⟨b,3,none⟩) hb y3).setCell (p:=⟨b,4,none⟩) hb y4).setCell (p:=⟨b,5,none⟩) hb y5)
theorem DP {s:Nat} {qs:List Qb} {op ia ib ic ii:Int} {args:List Int} {cb co:Nat} {Q:Option Addr} {q n:Nat} (H:RX s X wx w0 g w h qs a c) (A:vY w a c ⟨op,ia,ib,ic,ii,args⟩ cb co Q q n) :
  w.cell? ⟨a.q,11,none⟩=some (ι (n:Int))/\(∀i,w.frozen? ⟨a.q,i,none⟩=false)/\w.cell? ⟨a.q,8,none⟩=some (.slice (some ⟨cb,co,none⟩) c.m.code.length a.c)/\a.q<w.heap.size/\c.m.code.length<=2 ^ 63-1/\n<c.m.code.length/\Θ (c.pc=n)/\(0:Int)<=(n:Int)/\(n:Int)<(c.m.code.length:Int)/\decide ((c.m.code.length:Int)<=(n:Int))=false
   /\ Θ (∀w',Bl w w'->w'.cell? ⟨a.q,8,none⟩=some (.slice (some ⟨cb,co,none⟩) c.m.code.length a.c)/\w'.cell? ⟨a.q,11,none⟩=some (ι (n:Int))/\w'.cell? ⟨cb,co+n*6,none⟩=some (ι op)/\w'.cell? ⟨cb,co+n*6+1,none⟩=some (ι ia)/\w'.cell? ⟨cb,co+n*6+2,none⟩=some (ι ib)/\w'.cell? ⟨cb,co+n*6+3,none⟩=some (ι ic)/\w'.cell? ⟨cb,co+n*6+4,none⟩=some (ι ii)/\w'.cell? ⟨cb,co+n*6+5,none⟩=some (.slice Q args.length q))/\(∀i,w.frozen? ⟨w.heap.size,i,none⟩=false)/\∀i n,(w.drewN n).frozen? ⟨w.heap.size,i,none⟩=false:=by
 obtain ⟨c10,fz,c8⟩:=H.c10
 have hcl:=A.len
 have hlt:=A.lt
 rw [A.pc] at c10
 rw [A.C] at c8
 unfold maxLen at hcl
 have Ak:∀i,w.frozen? ⟨w.heap.size,i,none⟩=false:=fun i=>by simp [World.frozen?]
 exact ⟨c10,fz,c8,H.qlt,hcl,hlt,A.pc,by omega,by omega,by simpa using hlt,fun w' hb=>⟨hb.cell c8,hb.cell c10,hb.cell A.c0,hb.cell A.c1,hb.cell A.c2,hb.cell A.c3,hb.cell A.c4,hb.cell A.c5⟩,Ak,fun i n=>by rw [World.frozen?_drewN];exact Ak i⟩
theorem o5 (w:World) (m B:Nat) (hB:B=w.heap.size):Θ (Bl w ((w.drewN m).alloc (.cells #[ι 0,ι 0,ι 0,ι 0,ι 0,.slice none 0 0] 55)))/\((w.drewN m).alloc (.cells #[ι 0,ι 0,ι 0,ι 0,ι 0,.slice none 0 0] 55)).cell? ⟨B,0,none⟩=some (ι 0)/\((w.drewN m).alloc (.cells #[ι 0,ι 0,ι 0,ι 0,ι 0,.slice none 0 0] 55)).cell? ⟨B,1,none⟩=some (ι 0)/\((w.drewN m).alloc (.cells #[ι 0,ι 0,ι 0,ι 0,ι 0,.slice none 0 0] 55)).cell? ⟨B,2,none⟩=some (ι 0)/\((w.drewN m).alloc (.cells #[ι 0,ι 0,ι 0,ι 0,ι 0,.slice none 0 0] 55)).cell? ⟨B,3,none⟩=some (ι 0)/\((w.drewN m).alloc (.cells #[ι 0,ι 0,ι 0,ι 0,ι 0,.slice none 0 0] 55)).cell? ⟨B,4,none⟩=some (ι 0)/\((w.drewN m).alloc (.cells #[ι 0,ι 0,ι 0,ι 0,ι 0,.slice none 0 0] 55)).cell? ⟨B,5,none⟩=some (.slice none 0 0)
  /\ (∀i,((w.drewN m).alloc (.cells #[ι 0,ι 0,ι 0,ι 0,ι 0,.slice none 0 0] 55)).frozen? ⟨B,i,none⟩=false)/\Θ (((w.drewN m).alloc (.cells #[ι 0,ι 0,ι 0,ι 0,ι 0,.slice none 0 0] 55)).heap[B]?=some (.cells #[ι 0,ι 0,ι 0,ι 0,ι 0,.slice none 0 0] 55 (0,0)))/\Θ (w.heap.size<=B):=by
 subst hB
 obtain ⟨v0,v1,v2,v3,v4,v5,kB⟩:=Lg (w.drewN m) w.heap.size rfl 55
 exact ⟨(aR (Bl.refl w) _).alloc _,v0,v1,v2,v3,v4,v5,kB,aB _ _ _,Nat.le_refl _⟩
theorem Li {t:TypeId} (q:w.heap[b]?=some (.cells #[ι 0,ι 0,ι 0,ι 0,ι 0,.slice none 0 0] t (0,0))) (y0 y1 y2 y3 y4 y5:Value):((((((w.setCell ⟨b,0,none⟩ y0).setCell ⟨b,1,none⟩ y1).setCell ⟨b,2,none⟩ y2).setCell ⟨b,3,none⟩ y3).setCell ⟨b,4,none⟩ y4).setCell ⟨b,5,none⟩ y5).heap[b]?=some (.cells #[y0,y1,y2,y3,y4,y5] t (0,0)):=by
 rw [ay (ay (ay (ay (ay (ay q _) _) _) _) _) _];rfl
theorem o6 {v:World} {u0 u1 u2 u3 u4 u5:Value} (h:Θ (Bl w v)) (hb:Θ (w.heap.size<=b)) (h0:κ v b 0 u0) (h1:κ v b 1 u1) (h2:κ v b 2 u2) (h3:κ v b 3 u3) (h4:κ v b 4 u4) (h5:κ v b 5 u5) (hf:∀i,v.frozen? ⟨b,i,none⟩=false) (qB:Θ (v.heap[b]?=some (.cells #[ι 0,ι 0,ι 0,ι 0,ι 0,.slice none 0 0] 55 (0,0)))) (y0 y1 y2 y3 y4 y5:Value) :
  Θ (Bl w ((((((v.setCell ⟨b,0,none⟩ y0).setCell ⟨b,1,none⟩ y1).setCell ⟨b,2,none⟩ y2).setCell ⟨b,3,none⟩ y3).setCell ⟨b,4,none⟩ y4).setCell ⟨b,5,none⟩ y5))/\Θ (((((((v.setCell ⟨b,0,none⟩ y0).setCell ⟨b,1,none⟩ y1).setCell ⟨b,2,none⟩ y2).setCell ⟨b,3,none⟩ y3).setCell ⟨b,4,none⟩ y4).setCell ⟨b,5,none⟩ y5).cell? ⟨b,0,none⟩=some y0/\((((((v.setCell ⟨b,0,none⟩ y0).setCell ⟨b,1,none⟩ y1).setCell ⟨b,2,none⟩ y2).setCell ⟨b,3,none⟩ y3).setCell ⟨b,4,none⟩ y4).setCell ⟨b,5,none⟩ y5).cell? ⟨b,1,none⟩=some y1/\((((((v.setCell ⟨b,0,none⟩ y0).setCell ⟨b,1,none⟩ y1).setCell ⟨b,2,none⟩ y2).setCell ⟨b,3,none⟩ y3).setCell ⟨b,4,none⟩ y4).setCell ⟨b,5,none⟩ y5).cell? ⟨b,2,none⟩=some y2/\((((((v.setCell ⟨b,0,none⟩ y0).setCell ⟨b,1,none⟩ y1).setCell ⟨b,2,none⟩ y2).setCell ⟨b,3,none⟩ y3).setCell ⟨b,4,none⟩ y4).setCell ⟨b,5,none⟩ y5).cell? ⟨b,3,none⟩=some y3/\((((((v.setCell ⟨b,0,none⟩ y0).setCell ⟨b,1,none⟩ y1).setCell ⟨b,2,none⟩ y2).setCell ⟨b,3,none⟩ y3).setCell ⟨b,4,none⟩ y4).setCell ⟨b,5,none⟩ y5).cell? ⟨b,4,none⟩=some y4/\((((((v.setCell ⟨b,0,none⟩ y0).setCell ⟨b,1,none⟩ y1).setCell ⟨b,2,none⟩ y2).setCell ⟨b,3,none⟩ y3).setCell ⟨b,4,none⟩ y4).setCell ⟨b,5,none⟩ y5).cell? ⟨b,5,none⟩=some y5/\∀i,((((((v.setCell ⟨b,0,none⟩ y0).setCell ⟨b,1,none⟩ y1).setCell ⟨b,2,none⟩ y2).setCell ⟨b,3,none⟩ y3).setCell ⟨b,4,none⟩ y4).setCell ⟨b,5,none⟩ y5).frozen? ⟨b,i,none⟩=false)/\Θ (((((((v.setCell ⟨b,0,none⟩ y0).setCell ⟨b,1,none⟩ y1).setCell ⟨b,2,none⟩ y2).setCell ⟨b,3,none⟩ y3).setCell ⟨b,4,none⟩ y4).setCell ⟨b,5,none⟩ y5).heap[b]?=some (.cells #[y0,y1,y2,y3,y4,y5] 55 (0,0))) :=
 ⟨OH h.o hb.o _ _ _ _ _ _,Lh h0 h1 h2 h3 h4 h5 hf _ _ _ _ _ _,Li qB.o _ _ _ _ _ _⟩
end
end Go.Proofs.YtgiiapenmjollaaGreat
