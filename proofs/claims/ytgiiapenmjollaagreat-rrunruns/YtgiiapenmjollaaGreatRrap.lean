import Derived.Test.YtgiiapenmjollaaGreatRrao
import Derived.Laws.EntriesVeiled
import Derived.BigQuiet
namespace Go.Proofs.YtgiiapenmjollaaGreat
set_option linter.all false
set_option maxHeartbeats 40000000
set_option maxRecDepth 100000
open Go.RowKit
open Tryz
variable {c:aL} {h:Hp} {k:Kl} {L:List Kl} {a:Mc} {g:Mg} {s:Nat} {X Z:Nat->Prop} {w w0 wx:World}
theorem RX.c0910 {qs:List Qb} (H:RX s X wx w0 g w h qs a c):w.cell? ⟨a.q,0,none⟩=some (π g.hb 0)/\w.cell? ⟨a.q,9,none⟩=some (.slice a.K c.m.hands.length a.k)/\w.cell? ⟨a.q,11,none⟩=some (ι c.pc):=by
 obtain ⟨vc,vo,vx,vs,l,H⟩:=H
 refine ⟨?_,?_,?_⟩<;>(rw [ab H.ca.blk];rfl)
section
variable (s:Nat) (X:Nat->Prop) (wx w0:World) (g:Mg) (h:Hp)
theorem Hz (qs:List Qb) (a:Mc) (c:aL) (v:Va) (w:World) (H:RX s X wx w0 g w h qs a c) (F:Fix w0 g h) (hf:h.objs.length<=100) (hv:v.kind=3) (h0:0<=v.n) (hn:v.n<h.objs.length) (ht:h.thrown=v.n) (hok:∀q,q<c.m.hands.length->0<=(nth eK c.m.hands q).fr/\(nth eK c.m.hands q).til<=3000/\0<=(nth eK c.m.hands q).til/\0<=(nth eK c.m.hands q).pc) (Bn:0<=c.pc/\c.pc<=3000) (hcl:h.caughtL c.pc c.m.hands<0) :
  χ 71 #[π a.q 0,cm (im v)] w fun e w'=>e=.returned (.bool false)/\RX s X wx w0 g w' h qs a c:=by
 have HH:=ae H
 have bM:Θ (Bl w (w.alloc (eS (im v)))):=(Bl.refl w).alloc _
 have QY:Θ (∀w',Bl w w'->χ 96 #[π g.hb 0,.slice a.K c.m.hands.length a.k,ι c.pc,cm (im v)] w' fun e w2=>TE h c.pc c.m.hands w' e w2):=fun w' hb=>by
  have H':=H.bl hb
  obtain ⟨vc,vo,vx,vs,l,HA⟩:=H'
  exact pG g h v c.m.hands a.K a.k c.pc w' (HA.rh.rd F hf) (HA.ca.me.2.2.1.bl HA.rh.bl) hv h0 hn ht hok Bn
 obtain ⟨k0,k9,QZ⟩:=H.c0910
 have HT:Θ (∀w',Bl (w.alloc (eS (im v))) w'->(fun w'=>Θ (Bl (w.alloc (eS (im v))) w')/\w'.cell? ⟨a.q,0,none⟩=some (π g.hb 0)/\w'.cell? ⟨a.q,9,none⟩=some (.slice a.K c.m.hands.length a.k)/\w'.cell? ⟨a.q,11,none⟩=some (ι c.pc)/\w'.cell? ⟨w.heap.size,0,none⟩=some (ι (im v).kind)/\w'.cell? ⟨w.heap.size,1,none⟩=some (ι (im v).n)) w'):=fun w' hb=>by
  have dQ:=bM.o.trans hb
  exact ⟨hb,dQ.cell k0,dQ.cell k9,dQ.cell QZ,hb.cell (ai rfl),hb.cell (ai rfl)⟩
 have rp:=ae hcl
 have HZ:Θ (((w.alloc (eS (im v))).alloc FZ).heap[w.heap.size+1]?=some (.cells #[ι 0,ι 0,ι 0,ι 0] 108 (0,0))):=by
  have:=aB (w.alloc (eS (im v))) #[ι 0,ι 0,ι 0,ι 0] 108
  rwa [World.size_alloc] at this
 have hq:=H.qlt
 clear H F hf hv h0 hn ht hok Bn hcl k0 k9 QZ
 go_enter func71,ntmps71
 go_wp2
 refine wp_region_held_drew (S:=fun w'=>Θ (Bl (w.alloc (eS (im v))) w')/\κ w' a.q 0 (π g.hb 0)/\κ w' a.q 9 (.slice a.K c.m.hands.length a.k)/\κ w' a.q 11 (ι c.pc)/\κ w' w.heap.size 0 (ι (im v).kind)/\κ w' w.heap.size 1 (ι (im v).n)) (by kernel_rfl) ?_ (fun aa=>?_)
 ·exact HT.o _ (Bl.refl _).drew
 iterate 15 (refine tn rfl (by kernel_rfl) (fun _ _ _ h=>h) (by intro _ h;go_split_ands;go_simp<;>with_reducible rfl) aa ?_;try simp only [aZ])
 refine wpAnyH_ready (rs:=[15,19]) (by kernel_rfl) (by simp) ?_
 refine AllReadyH.cons rfl (fun K hK=>?_) (AllReadyH.cons rfl (fun K hK=>?_) (AllReadyH.nil))
 ·go_simp
  go_at_call 96
  refine (QY.o _ (bM.o.trans aa.1.o)).mono ?_
  rintro e w1 ⟨b1,x,hx⟩
  have he:∃x:Hd,e=.returned (.tuple #[.agg (JH x),.bool false]):=by
   rcases hx with ⟨z,-⟩|⟨-,z⟩
   ·exact absurd z (by have:=rp.o;omega)
   ·exact ⟨x,z⟩
  obtain ⟨y,rfl⟩:=he
  clear hx
  unfold JH
  have hb1:=ae (aa.1.o.trans b1)
  clear b1
  go_wp2_with fail
  refine hK.out _ _ (HT.o _ hb1.o) (fun ah=>?_)
  try simp only [aZ]
  iterate 3 (refine tn rfl (by kernel_rfl) (fun _ _ _ h=>h) (by intro _ h;go_split_ands;go_simp<;>with_reducible rfl) ah ?_;try simp only [aZ])
  refine aY (i:=19) (by kernel_rfl) rfl fun K hK=>?_
  go_simp
  have pV:=ae (hb1.o.alloc FZ)
  have iY:(w1.alloc FZ).heap[w1.heap.size]?=some (.cells #[ι 0,ι 0,ι 0,ι 0] 108 (0,0)):=aB _ _ _
  have CH:=hb1.o.size
  obtain ⟨B,eX⟩:∃B,B=w1.heap.size:=⟨_,rfl⟩
  rw [<-eX] at iY CH
  simp only [<-eX]
  have hB:=ae CH
  clear eX CH
  replace iY:=ae iY
  generalize w1.alloc FZ=V at *
  refine hK.out _ _ (HT.o _ pV.o) (fun aH=>?_)
  try simp only [aZ]
  refine aY (i:=20) (by kernel_rfl) rfl fun K hK=>?_
  have y0:V.cell? ⟨B,0,none⟩=some (ι 0):=(ab iY.o).trans rfl
  have y1:V.cell? ⟨B,1,none⟩=some (ι 0):=(ab iY.o).trans rfl
  have y2:V.cell? ⟨B,2,none⟩=some (ι 0):=(ab iY.o).trans rfl
  have y3:V.cell? ⟨B,3,none⟩=some (ι 0):=(ab iY.o).trans rfl
  have fz:=aA iY.o
  have E3:=ae aH
  clear aH
  go_simp
  have DZ:=ae (l7 pV.o hB.o (ι y.fr) (ι y.til) (ι y.pc) (ι y.cls))
  have OK:=ae (j9 iY.o (ι y.fr) (ι y.til) (ι y.pc) (ι y.cls))
  clear y0 y1 y2 y3 fz
  refine hK.out _ _ (HT.o _ DZ.o) (fun bG=>?_)
  try simp only [aZ]
  refine tn rfl (by kernel_rfl) (fun _ _ _ h=>h) (by intro _ h;go_split_ands;go_simp<;>with_reducible rfl) bG ?_
  try simp only [aZ]
  refine wpAnyH_done (by kernel_rfl) ?_ _
  go_wp2
  go_ret
  exact ⟨rfl,HH.o.bl (bM.o.trans bG.1.o)⟩
 ·go_simp
  refine hK.out _ _ (HT.o _ (aa.1.o.alloc _)) (fun bd=>?_)
  try simp only [aZ]
  refine aY (i:=15) (by kernel_rfl) rfl fun K hK=>?_
  go_simp
  go_at_call 96
  refine (QY.o _ (bM.o.trans bd.1.o)).mono ?_
  rintro e V ⟨b1,x,hx⟩
  have he:∃x:Hd,e=.returned (.tuple #[.agg (JH x),.bool false]):=by
   rcases hx with ⟨z,-⟩|⟨-,z⟩
   ·exact absurd z (by have:=rp.o;omega)
   ·exact ⟨x,z⟩
  obtain ⟨y,rfl⟩:=he
  clear hx
  unfold JH
  have pV:=ae (bd.1.o.trans b1)
  have iY:V.heap[w.heap.size+1]?=some (.cells #[ι 0,ι 0,ι 0,ι 0] 108 (0,0)):=ax b1 (show _=_ from HZ.o)
  obtain ⟨B,eX⟩:∃B,B=w.heap.size+1:=⟨_,rfl⟩
  rw [<-eX] at iY
  simp only [<-eX]
  have hB:Θ ((w.alloc (eS (im v))).heap.size<=B):=by show (w.alloc (eS (im v))).heap.size<=B;rw [eX,World.size_alloc];exact Nat.le_refl _
  clear eX b1
  replace iY:=ae iY
  go_wp2_with fail
  refine hK.out _ _ (HT.o _ pV.o) (fun cQ=>?_)
  try simp only [aZ]
  iterate 3 (refine tn rfl (by kernel_rfl) (fun _ _ _ h=>h) (by intro _ h;go_split_ands;go_simp<;>with_reducible rfl) cQ ?_;try simp only [aZ])
  refine aY (i:=20) (by kernel_rfl) rfl fun K hK=>?_
  have y0:V.cell? ⟨B,0,none⟩=some (ι 0):=(ab iY.o).trans rfl
  have y1:V.cell? ⟨B,1,none⟩=some (ι 0):=(ab iY.o).trans rfl
  have y2:V.cell? ⟨B,2,none⟩=some (ι 0):=(ab iY.o).trans rfl
  have y3:V.cell? ⟨B,3,none⟩=some (ι 0):=(ab iY.o).trans rfl
  have fz:=aA iY.o
  have E3:=ae cQ
  clear cQ
  go_simp
  have DZ:=ae (l7 pV.o hB.o (ι y.fr) (ι y.til) (ι y.pc) (ι y.cls))
  have OK:=ae (j9 iY.o (ι y.fr) (ι y.til) (ι y.pc) (ι y.cls))
  clear y0 y1 y2 y3 fz
  refine hK.out _ _ (HT.o _ DZ.o) (fun cd=>?_)
  try simp only [aZ]
  refine tn rfl (by kernel_rfl) (fun _ _ _ h=>h) (by intro _ h;go_split_ands;go_simp<;>with_reducible rfl) cd ?_
  try simp only [aZ]
  refine wpAnyH_done (by kernel_rfl) ?_ _
  go_wp2
  go_ret
  exact ⟨rfl,HH.o.bl (bM.o.trans cd.1.o)⟩
theorem Du (qs:List Qb) (a:Mc) (c:aL) (v:Va) (w:World) (H:RX s X wx w0 g w h qs a c) (F:Fix w0 g h) (hf:h.objs.length<=100) (hv:v.kind=3) (h0:0<=v.n) (hn:v.n<h.objs.length) (ht:h.thrown=v.n) (hok:∀q,q<c.m.hands.length->0<=(nth eK c.m.hands q).fr/\(nth eK c.m.hands q).til<=3000/\0<=(nth eK c.m.hands q).til/\0<=(nth eK c.m.hands q).pc) (Bn:0<=c.pc/\c.pc<=3000) (hcl:0<=h.caughtL c.pc c.m.hands) :
  χ 71 #[π a.q 0,cm (im v)] w fun e w'=>e=.returned (.bool true)/\RX s X wx w0 g w' h qs a { c with giv:=aE,cau:=v,pc:=h.caughtL c.pc c.m.hands }:=by
 have HH:=ae H
 have bM:Θ (Bl w (w.alloc (eS (im v)))):=(Bl.refl w).alloc _
 have QY:Θ (∀w',Bl w w'->χ 96 #[π g.hb 0,.slice a.K c.m.hands.length a.k,ι c.pc,cm (im v)] w' fun e w2=>TE h c.pc c.m.hands w' e w2):=fun w' hb=>by
  have H':=H.bl hb
  obtain ⟨vc,vo,vx,vs,l,HA⟩:=H'
  exact pG g h v c.m.hands a.K a.k c.pc w' (HA.rh.rd F hf) (HA.ca.me.2.2.1.bl HA.rh.bl) hv h0 hn ht hok Bn
 obtain ⟨k0,k9,QZ⟩:=H.c0910
 have HT:Θ (∀w',Bl (w.alloc (eS (im v))) w'->(fun w'=>Θ (Bl (w.alloc (eS (im v))) w')/\w'.cell? ⟨a.q,0,none⟩=some (π g.hb 0)/\w'.cell? ⟨a.q,9,none⟩=some (.slice a.K c.m.hands.length a.k)/\w'.cell? ⟨a.q,11,none⟩=some (ι c.pc)/\w'.cell? ⟨w.heap.size,0,none⟩=some (ι (im v).kind)/\w'.cell? ⟨w.heap.size,1,none⟩=some (ι (im v).n)) w'):=fun w' hb=>by
  have dQ:=bM.o.trans hb
  exact ⟨hb,dQ.cell k0,dQ.cell k9,dQ.cell QZ,hb.cell (ai rfl),hb.cell (ai rfl)⟩
 have rp:=ae hcl
 have HZ:Θ (((w.alloc (eS (im v))).alloc FZ).heap[w.heap.size+1]?=some (.cells #[ι 0,ι 0,ι 0,ι 0] 108 (0,0))):=by
  have:=aB (w.alloc (eS (im v))) #[ι 0,ι 0,ι 0,ι 0] 108
  rwa [World.size_alloc] at this
 have hq:=H.qlt
 have SM:Θ (0<=v.kind/\v.kind<=3):=by show 0<=v.kind/\v.kind<=3;omega
 clear H F hf hv h0 hn ht hok Bn hcl k0 k9 QZ
 go_enter func71,ntmps71
 go_wp2
 refine wp_region_held_drew (S:=fun w'=>Θ (Bl (w.alloc (eS (im v))) w')/\κ w' a.q 0 (π g.hb 0)/\κ w' a.q 9 (.slice a.K c.m.hands.length a.k)/\κ w' a.q 11 (ι c.pc)/\κ w' w.heap.size 0 (ι (im v).kind)/\κ w' w.heap.size 1 (ι (im v).n)) (by kernel_rfl) ?_ (fun aa=>?_)
 ·exact HT.o _ (Bl.refl _).drew
 iterate 15 (refine tn rfl (by kernel_rfl) (fun _ _ _ h=>h) (by intro _ h;go_split_ands;go_simp<;>with_reducible rfl) aa ?_;try simp only [aZ])
 refine wpAnyH_ready (rs:=[15,19]) (by kernel_rfl) (by simp) ?_
 refine AllReadyH.cons rfl (fun K hK=>?_) (AllReadyH.cons rfl (fun K hK=>?_) (AllReadyH.nil))
 ·go_simp
  go_at_call 96
  refine (QY.o _ (bM.o.trans aa.1.o)).mono ?_
  rintro e w1 ⟨b1,x,hx⟩
  have he:∃x:Hd,x.pc=h.caughtL c.pc c.m.hands/\e=.returned (.tuple #[.agg (JH x),.bool true]):=by
   rcases hx with ⟨-,z,z2⟩|⟨z,-⟩
   ·exact ⟨x,z,z2⟩
   ·exact absurd z (by have:=rp.o;omega)
  obtain ⟨y,hy,rfl⟩:=he
  replace hy:=ae hy
  clear hx
  unfold JH
  have hb1:=ae (aa.1.o.trans b1)
  clear b1
  go_wp2_with fail
  refine hK.out _ _ (HT.o _ hb1.o) (fun ah=>?_)
  try simp only [aZ]
  iterate 3 (refine tn rfl (by kernel_rfl) (fun _ _ _ h=>h) (by intro _ h;go_split_ands;go_simp<;>with_reducible rfl) ah ?_;try simp only [aZ])
  refine aY (i:=19) (by kernel_rfl) rfl fun K hK=>?_
  go_simp
  have pV:=ae (hb1.o.alloc FZ)
  have iY:(w1.alloc FZ).heap[w1.heap.size]?=some (.cells #[ι 0,ι 0,ι 0,ι 0] 108 (0,0)):=aB _ _ _
  have CH:=hb1.o.size
  obtain ⟨B,eX⟩:∃B,B=w1.heap.size:=⟨_,rfl⟩
  rw [<-eX] at iY CH
  simp only [<-eX]
  have hB:=ae CH
  clear eX CH
  replace iY:=ae iY
  generalize w1.alloc FZ=V at *
  refine hK.out _ _ (HT.o _ pV.o) (fun aH=>?_)
  try simp only [aZ]
  refine aY (i:=20) (by kernel_rfl) rfl fun K hK=>?_
  have y0:V.cell? ⟨B,0,none⟩=some (ι 0):=(ab iY.o).trans rfl
  have y1:V.cell? ⟨B,1,none⟩=some (ι 0):=(ab iY.o).trans rfl
  have y2:V.cell? ⟨B,2,none⟩=some (ι 0):=(ab iY.o).trans rfl
  have y3:V.cell? ⟨B,3,none⟩=some (ι 0):=(ab iY.o).trans rfl
  have fz:=aA iY.o
  have E3:=ae aH
  clear aH
  go_simp
  have DZ:=ae (l7 pV.o hB.o (ι y.fr) (ι y.til) (ι y.pc) (ι y.cls))
  have OK:=ae (j9 iY.o (ι y.fr) (ι y.til) (ι y.pc) (ι y.cls))
  clear y0 y1 y2 y3 fz
  refine hK.out _ _ (HT.o _ DZ.o) (fun bG=>?_)
  try simp only [aZ]
  refine tn rfl (by kernel_rfl) (fun _ _ _ h=>h) (by intro _ h;go_split_ands;go_simp<;>with_reducible rfl) bG ?_
  try simp only [aZ]
  refine wpAnyH_done (by kernel_rfl) ?_ _
  obtain ⟨W4,HJ⟩:∃W4,W4=(((V.setCell ⟨B,0,none⟩ (ι y.fr)).setCell ⟨B,1,none⟩ (ι y.til)).setCell ⟨B,2,none⟩ (ι y.pc)).setCell ⟨B,3,none⟩ (ι y.cls):=⟨_,rfl⟩
  have JO:Bl w W4:=by rw [HJ];exact bM.o.trans DZ.o
  have Hu:W4.heap[B]?=some (.cells #[ι y.fr,ι y.til,ι y.pc,ι y.cls] 108 (0,0)):=by rw [HJ];exact OK.o
  have OL:W4.heap[w.heap.size]?=some (.cells #[ι (im v).kind,ι (im v).n] 100 (0,0)):=ax (by rw [HJ];exact DZ.o) (aB w _ _)
  have Us:Θ (w.heap.size<=B):=Nat.le_trans bM.o.size hB.o
  rw [<-HJ]
  clear HJ bG DZ OK E3 pV iY
  clear V
  have HY:=HH.o.bl JO
  obtain ⟨QU,fz,SI,SJ,SK,SL⟩:=HY.cp
  have e0:=aO OL
  have e1:=aJ OL
  have p2:W4.cell? ⟨B,2,none⟩=some (ι y.pc):=(ab Hu).trans rfl
  have Aq:=ae (HY.setP y.pc aE v (by decide) SM.o)
  have Ut:B≠a.q:=by have:=Us.o;omega
  have Uv:w.heap.size≠a.q:=by omega
  clear HY Hu OL JO
  go_wp2
  go_ret
  have tP:=Aq.o
  rw [hy.o] at tP ⊢
  exact ⟨rfl,tP⟩
 ·go_simp
  refine hK.out _ _ (HT.o _ (aa.1.o.alloc _)) (fun bd=>?_)
  try simp only [aZ]
  refine aY (i:=15) (by kernel_rfl) rfl fun K hK=>?_
  go_simp
  go_at_call 96
  refine (QY.o _ (bM.o.trans bd.1.o)).mono ?_
  rintro e V ⟨b1,x,hx⟩
  have he:∃x:Hd,x.pc=h.caughtL c.pc c.m.hands/\e=.returned (.tuple #[.agg (JH x),.bool true]):=by
   rcases hx with ⟨-,z,z2⟩|⟨z,-⟩
   ·exact ⟨x,z,z2⟩
   ·exact absurd z (by have:=rp.o;omega)
  obtain ⟨y,hy,rfl⟩:=he
  replace hy:=ae hy
  clear hx
  unfold JH
  have pV:=ae (bd.1.o.trans b1)
  have iY:V.heap[w.heap.size+1]?=some (.cells #[ι 0,ι 0,ι 0,ι 0] 108 (0,0)):=ax b1 (show _=_ from HZ.o)
  obtain ⟨B,eX⟩:∃B,B=w.heap.size+1:=⟨_,rfl⟩
  rw [<-eX] at iY
  simp only [<-eX]
  have hB:Θ ((w.alloc (eS (im v))).heap.size<=B):=by show (w.alloc (eS (im v))).heap.size<=B;rw [eX,World.size_alloc];exact Nat.le_refl _
  clear eX b1
  replace iY:=ae iY
  go_wp2_with fail
  refine hK.out _ _ (HT.o _ pV.o) (fun cQ=>?_)
  try simp only [aZ]
  iterate 3 (refine tn rfl (by kernel_rfl) (fun _ _ _ h=>h) (by intro _ h;go_split_ands;go_simp<;>with_reducible rfl) cQ ?_;try simp only [aZ])
  refine aY (i:=20) (by kernel_rfl) rfl fun K hK=>?_
  have y0:V.cell? ⟨B,0,none⟩=some (ι 0):=(ab iY.o).trans rfl
  have y1:V.cell? ⟨B,1,none⟩=some (ι 0):=(ab iY.o).trans rfl
  have y2:V.cell? ⟨B,2,none⟩=some (ι 0):=(ab iY.o).trans rfl
  have y3:V.cell? ⟨B,3,none⟩=some (ι 0):=(ab iY.o).trans rfl
  have fz:=aA iY.o
  have E3:=ae cQ
  clear cQ
  go_simp
  have DZ:=ae (l7 pV.o hB.o (ι y.fr) (ι y.til) (ι y.pc) (ι y.cls))
  have OK:=ae (j9 iY.o (ι y.fr) (ι y.til) (ι y.pc) (ι y.cls))
  clear y0 y1 y2 y3 fz
  refine hK.out _ _ (HT.o _ DZ.o) (fun cd=>?_)
  try simp only [aZ]
  refine tn rfl (by kernel_rfl) (fun _ _ _ h=>h) (by intro _ h;go_split_ands;go_simp<;>with_reducible rfl) cd ?_
  try simp only [aZ]
  refine wpAnyH_done (by kernel_rfl) ?_ _
  obtain ⟨W4,HJ⟩:∃W4,W4=(((V.setCell ⟨B,0,none⟩ (ι y.fr)).setCell ⟨B,1,none⟩ (ι y.til)).setCell ⟨B,2,none⟩ (ι y.pc)).setCell ⟨B,3,none⟩ (ι y.cls):=⟨_,rfl⟩
  have JO:Bl w W4:=by rw [HJ];exact bM.o.trans DZ.o
  have Hu:W4.heap[B]?=some (.cells #[ι y.fr,ι y.til,ι y.pc,ι y.cls] 108 (0,0)):=by rw [HJ];exact OK.o
  have OL:W4.heap[w.heap.size]?=some (.cells #[ι (im v).kind,ι (im v).n] 100 (0,0)):=ax (by rw [HJ];exact DZ.o) (aB w _ _)
  have Us:Θ (w.heap.size<=B):=Nat.le_trans bM.o.size hB.o
  rw [<-HJ]
  clear HJ cd DZ OK E3 pV iY
  clear V
  have HY:=HH.o.bl JO
  obtain ⟨QU,fz,SI,SJ,SK,SL⟩:=HY.cp
  have e0:=aO OL
  have e1:=aJ OL
  have p2:W4.cell? ⟨B,2,none⟩=some (ι y.pc):=(ab Hu).trans rfl
  have Aq:=ae (HY.setP y.pc aE v (by decide) SM.o)
  have Ut:B≠a.q:=by have:=Us.o;omega
  have Uv:w.heap.size≠a.q:=by omega
  clear HY Hu OL JO
  go_wp2
  go_ret
  have tP:=Aq.o
  rw [hy.o] at tP ⊢
  exact ⟨rfl,tP⟩
end
section
variable {w:World} {base:Nat} {e:TypeId}
theorem o9 {vs:Value} {l:List Qb} {v:Qb} (h:w.ownsRow base e 3 vs (l.length+1) (ct (l++[v]))):∃gb cap,vs=.slice (some ⟨gb,0,none⟩) (l.length+1) cap/\l.length+1<=cap/\cap<=maxLen/\gb<w.heap.size
  /\ w.cell? ⟨gb,l.length*3,none⟩=some (.func (.func 70) #[π v.q 0] #[])/\w.cell? ⟨gb,l.length*3+1,none⟩=some (.func (.func 69) #[] #[π v.bx 0])/\w.cell? ⟨gb,l.length*3+2,none⟩=some (.func (.func 71) #[π v.q 0] #[]):=by
 rcases h.2 with ⟨_,h0⟩|⟨gb,cap,cur,rfl,hg,hh,hn,Ln,hsz,BU⟩
 ·omega
 ·have hl:=gQ l
  have hx:∀i,i<3->(ct (l++[v]))[l.length*3+i]?=(eN v)[i]?:=by
   intro i hi
   rw [gR,List.getElem?_append_right (by omega),hl]
   simp [ct]
  have hy:∀i,i<3->w.cell? ⟨gb,l.length*3+i,none⟩=(eN v)[i]?:=by
   intro i hi
   rw [<-hx i hi,<-BU,List.getElem?_take,if_pos (by omega),ab hh]
   simp
  exact ⟨gb,cap,rfl,hn,Ln,af hh,hy 0 (by decide),hy 1 (by decide),hy 2 (by decide)⟩
theorem H8 {gb cap:Nat} {l:List Qb} {v:Qb} (h:w.ownsRow base e 3 (.slice (some ⟨gb,0,none⟩) (l.length+1) cap) (l.length+1) (ct (l++[v]))) :
  w.ownsRow base e 3 (.slice (some ⟨gb,0,none⟩) l.length cap) l.length (ct l):=by
 obtain ⟨h1,h2⟩:=h
 rcases h2 with ⟨h0,_⟩|⟨g',Ze,cur,hv,hg,hh,hn,Ln,hsz,BU⟩
 ·cases h0
 ·cases hv
  refine ⟨gQ l,.inr ⟨gb,cap,cur,rfl,hg,hh,by omega,Ln,hsz,?_⟩⟩
  have h3:(cur.toList.take ((l.length+1)*3)).take (l.length*3)=(ct (l++[v])).take (l.length*3):=by rw [BU]
  rw [List.take_take,Nat.min_eq_left (by omega)] at h3
  rw [h3,gR,<-gQ l]
  simp
end
theorem HX.setc {qs wB:List Qb} {vc vo vx sS:Value} (R:RH s w0 g w h qs vc vo vx) (hf:∀b,X b->lj g vc vo vx b) (hK:je X wx w) (ho:w.ownsRow w0.heap.size 85 3 sS wB.length (ct wB)) (hb:sS.ownBlock=vc.ownBlock):HX s X wx w0 g (w.setCell ⟨g.r,3,none⟩ sS) h wB:=by
 have hg:=cD (w:=w) g.r 3 sS
 obtain ⟨n,D,F⟩:=R.fld
 have Ia:g.r≠g.mp:=iE R.run F.own
 have hne:∀v:Value,v.ownBlock≠some g.r->(v.ownBlock=none∨v.ownBlock≠some g.r):=fun v hv=>Or.inr hv
 refine ⟨sS,vo,vx,⟨R.ownr,R.ownh,R.ownm,Below.grown R.bl hg R.bl.size (fun k hk=>by cases hk;exact R.ownr),?_,?_,?_,?_,?_,n,D,?_,F.few,F.hit,F.miss,F.new,F.ks,F.kd⟩,fun b hx=>?_,hK.kept hg (fun b e hx=>?_)⟩
 ·rw [ay R.run];rfl
 ·exact aV hg R.hp (fun e=>cC R.run R.hp (by decide) (Option.some.inj e))
 ·exact R.o.kept hg (Or.inr (bg R.o R.run (by decide)))
 ·exact R.obs.kept hg (Or.inr (bg R.obs R.run (by decide)))
 ·exact ho.kept hg (Or.inr (bg ho R.run (by decide)))
 ·exact F.own.kept hg (fun e=>Ia (Option.some.inj e.symm))
 ·have:=hf b hx
  exact ⟨this.r,this.h,this.m,by rw [hb];exact this.c,this.o,this.x⟩
 ·cases e;exact (hf g.r hx).r rfl
theorem nY (s:Nat) (X:Nat->Prop) (wx w0:World) (g:Mg) (h:Hp) (qs:List Qb) (q:Qb) (w:World) (H:HX s X wx w0 g w h (qs++[q])) :
  χ 147 #[π g.r 0] w fun e w'=>e=.returned (.tuple #[])/\HX s X wx w0 g w' h qs:=by
 obtain ⟨vc,vo,vx,R,hf,hK⟩:=H
 have hk:=R.calls
 have e1:(qs++[q]).length=qs.length+1:=by simp
 rw [e1] at hk
 obtain ⟨gb,cap,rfl,h1,h2,h3,h4,h5,h6⟩:=o9 hk
 have HP:=ae (H8 hk)
 have hr:w.cell? ⟨g.r,3,none⟩=some (.slice (some ⟨gb,0,none⟩) (qs.length+1) cap):=by rw [ab R.run];rfl
 have fz:∀i,w.frozen? ⟨g.r,i,none⟩=false:=aA R.run
 have HE:Θ (HX s X wx w0 g (w.setCell ⟨g.r,3,none⟩ (.slice (some ⟨gb,0,none⟩) qs.length cap)) h qs):=HX.setc R hf hK HP.o rfl
 clear hk R hf hK h4 h5 h6 e1
 unfold maxLen at h2
 have fT:((qs.length:Int)+1-1)=(qs.length:Int):=by omega
 have hw:IntKind.i64.wrap (qs.length:Int)=(qs.length:Int):=by rw [IntKind.wrap_i64];omega
 go_enter func147,ntmps147
 go_wp2
 go_region
 all_goals go_wp2
 all_goals go_end0
 all_goals exact ⟨rfl,HE.o.bl (Bl.refl _).drew⟩
theorem mi:(Tryz.prog.info? 85).map (·.size)=some 3:=by kernel_rfl
theorem mj (s:Nat) (X:Nat->Prop) (wx w0:World) (g:Mg) (h:Hp) (qs:List Qb) (q:Qb) (w:World) (H:HX s X wx w0 g w h (qs++[q])) :
  χ 148 #[π g.r 0] w fun e w'=>e=.returned (.agg (eN q).toArray)/\Bl w w':=by
 obtain ⟨vc,vo,vx,R,hf,hK⟩:=H
 have hk:=R.calls
 have e1:(qs++[q]).length=qs.length+1:=by simp
 rw [e1] at hk
 obtain ⟨gb,cap,rfl,h1,h2,h3,h4,h5,h6⟩:=o9 hk
 have hr:w.cell? ⟨g.r,3,none⟩=some (.slice (some ⟨gb,0,none⟩) (qs.length+1) cap):=by rw [ab R.run];rfl
 have PX:=af R.run
 clear hk R hf hK e1
 unfold maxLen at h2
 have fT:((qs.length:Int)+1-1)=(qs.length:Int):=by omega
 have hw:IntKind.i64.wrap (qs.length:Int)=(qs.length:Int):=by rw [IntKind.wrap_i64];omega
 go_enter func148,ntmps148
 go_wp2
 have jL:Θ (Bl w (w.alloc (.cells #[.nilFunc,.nilFunc,.nilFunc] 85))):=(Bl.refl w).alloc _
 have q0:=aB w #[.nilFunc,.nilFunc,.nilFunc] 85
 have k3:=jL.o.cell hr
 have k4:=jL.o.cell h4
 have k5:=jL.o.cell h5
 have k6:=jL.o.cell h6
 obtain ⟨B,eX⟩:∃B,B=w.heap.size:=⟨_,rfl⟩
 rw [<-eX] at q0
 simp only [<-eX]
 have hB:Θ (w.heap.size<=B):=Nat.le_of_eq eX.symm
 have hne:B≠g.r:=by omega
 have NM:B≠gb:=by omega
 have hlt:(qs.length:Int)<(qs.length:Int)+1:=by omega
 have m3:=ae hr
 have m4:=ae h4
 have m5:=ae h5
 have m6:=ae h6
 clear eX
 generalize w.alloc (.cells #[.nilFunc,.nilFunc,.nilFunc] 85)=V at *
 have v0:V.cell? ⟨B,0,none⟩=some .nilFunc:=by rw [ab q0];rfl
 have v1:V.cell? ⟨B,1,none⟩=some .nilFunc:=by rw [ab q0];rfl
 have v2:V.cell? ⟨B,2,none⟩=some .nilFunc:=by rw [ab q0];rfl
 have fz:=aA q0
 replace q0:=ae q0
 clear hr h4 h5 h6
 refine wp_region_held_drew (S:=fun w'=>κ w' g.r 3 (.slice (some ⟨gb,0,none⟩) (qs.length+1) cap)/\κ w' gb (qs.length*3) (.func (.func 70) #[π q.q 0] #[])/\κ w' gb (qs.length*3+1) (.func (.func 69) #[] #[π q.bx 0])/\κ w' gb (qs.length*3+2) (.func (.func 71) #[π q.q 0] #[])) (by kernel_rfl) ?_ (fun aa=>?_)
 ·exact ⟨k3,k4,k5,k6⟩
 refine tk (i:=0) (d:=some 3) rfl rfl (by kernel_rfl) (fun _ _ _ h=>h) (by rfl) (by intro _ h;(try dsimp only at h);go_split_ands;go_simp<;>with_reducible rfl) aa ?_
 try simp only [aZ]
 refine tk (i:=1) (d:=some 4) rfl rfl (by kernel_rfl) (fun _ _ _ h=>h) (by rfl) (by intro _ h;(try dsimp only at h);go_split_ands;go_simp<;>with_reducible rfl) aa ?_
 try simp only [aZ]
 refine tk (i:=2) (d:=some 5) rfl rfl (by kernel_rfl) (fun _ _ _ h=>h) (by rfl) (by intro _ h;(try dsimp only at h);go_split_ands;go_simp<;>with_reducible rfl) aa ?_
 try simp only [aZ]
 refine tk (i:=3) (d:=some 6) rfl rfl (by kernel_rfl) (fun _ _ _ h=>h) (by rfl) (by intro _ h;(try dsimp only at h);go_split_ands;go_simp<;>with_reducible rfl) aa ?_
 try simp only [aZ]
 refine tk (i:=4) (d:=some 7) rfl rfl (by kernel_rfl) (fun _ _ _ h=>h) (by rfl) (by intro _ h;(try dsimp only at h);go_split_ands;go_simp<;>with_reducible rfl) aa ?_
 try simp only [aZ]
 refine tk (i:=5) (d:=some 8) rfl rfl (by kernel_rfl) (fun _ _ _ h=>h) (by rfl) (by intro _ h;(try dsimp only at h);go_split_ands;go_simp<;>with_reducible rfl) aa ?_
 try simp only [aZ]
 refine tk (i:=6) (d:=some 9) rfl rfl (by kernel_rfl) (fun _ _ _ h=>h) (by rfl) (by intro _ h;(try dsimp only at h);go_split_ands;go_simp<;>with_reducible rfl) aa ?_
 try simp only [aZ]
 refine tk (i:=7) (d:=some 10) rfl rfl (by kernel_rfl) (fun _ _ _ h=>h) (by rfl) (by intro _ h;(try dsimp only at h);go_split_ands;go_simp<;>with_reducible rfl) aa ?_
 try simp only [aZ]
 refine tk (i:=8) (d:=some 11) rfl rfl (by kernel_rfl) (fun _ _ _ h=>h) (by rfl) (by intro _ h;(try dsimp only at h);go_split_ands;go_simp<;>with_reducible rfl) aa ?_
 try simp only [aZ]
 refine tk (i:=9) (d:=some 12) rfl rfl (by kernel_rfl) (fun _ _ _ h=>h) (by rfl) (by intro _ h;(try dsimp only at h);go_split_ands;go_simp<;>with_reducible rfl) aa ?_
 try simp only [aZ]
 refine tk (i:=10) (d:=some 13) rfl rfl (by kernel_rfl) (fun _ _ _ h=>h) (by rfl) (by intro _ h;(try dsimp only at h);go_split_ands;go_simp<;>with_reducible rfl) aa ?_
 try simp only [aZ]
 refine tk (i:=11) (d:=some 14) rfl rfl (by kernel_rfl) (fun _ _ _ h=>h) (by rfl) (by intro _ h;(try dsimp only at h);go_split_ands;go_simp<;>with_reducible rfl) aa ?_
 try simp only [aZ]
 refine aY (i:=12) (by kernel_rfl) rfl fun K hK=>?_
 go_wp2_with fail
 have OM:Bl w (((V.setCell ⟨B,0,none⟩ (.func (.func 70) #[π q.q 0] #[])).setCell ⟨B,1,none⟩ (.func (.func 69) #[] #[π q.bx 0])).setCell ⟨B,2,none⟩ (.func (.func 71) #[π q.q 0] #[])):=((jL.o.setCell (p:=⟨B,0,none⟩) hB.o _).setCell (p:=⟨B,1,none⟩) hB.o _).setCell (p:=⟨B,2,none⟩) hB.o _
 have q3:(((V.setCell ⟨B,0,none⟩ (.func (.func 70) #[π q.q 0] #[])).setCell ⟨B,1,none⟩ (.func (.func 69) #[] #[π q.bx 0])).setCell ⟨B,2,none⟩ (.func (.func 71) #[π q.q 0] #[])).heap[B]?=some (.cells (eN q).toArray 85 (0,0)):=by rw [ay (ay (ay q0.o _) _) _];rfl
 refine hK.out _ _ ⟨OM.cell m3.o,OM.cell m4.o,OM.cell m5.o,OM.cell m6.o⟩ (fun ah=>?_)
 try simp only [aZ]
 refine wpAnyH_done (by kernel_rfl) ?_ _
 replace OM:=ae OM
 replace q3:=ae q3
 go_wp2
 refine bodyPost_ret (results_cell_row rfl _ _ B _ _ _ _ rfl q3.o underlying85 rfl mi) rfl ?_
 exact ⟨rfl,OM.o.drew⟩
theorem Ib (s:Nat) (X:Nat->Prop) (wx w0:World) (g:Mg) (h:Hp) (qs:List Qb) (a:Mc) (c:aL) (v:Va) (w:World) (H:RX s X wx w0 g w h qs a c) (hp:0<=c.pc/\c.pc<9223372036854775807) (hv:0<=v.kind/\v.kind<=3) :
  χ 69 #[cm (im v),π a.bx 0] w fun e w'=>e=.returned (.tuple #[])/\RX s X wx w0 g w' h qs a { c with giv:=v,cau:=aE,pc:=c.pc+1 }:=by
 have hq:=H.qlt
 have HS:=ae (H.setP (c.pc+1) v aE hv (by decide))
 obtain ⟨QU,fz,SI,SJ,SK,SL⟩:=H.cp
 have hbx:w.cell? ⟨a.bx,0,none⟩=some (π a.q 0):=by
  obtain ⟨vc,vo,vx,vs,l,H⟩:=H
  rw [ab H.ca.box];rfl
 have hlb:a.bx<w.heap.size:=by
  obtain ⟨vc,vo,vx,vs,l,H⟩:=H
  exact af H.ca.box
 have VQ:a.bx≠a.q:=by
  obtain ⟨vc,vo,vx,vs,l,H⟩:=H
  exact cC H.ca.box H.ca.blk (by decide)
 have hn:w.heap.size≠a.q:=by omega
 clear H
 go_enter func69,ntmps69
 go_wp2
 go_region
 all_goals go_wp2
 all_goals go_end0
 all_goals exact ⟨rfl,HS.o.bl (by repeat (first|exact Bl.refl _|apply Bl.drew|apply Bl.alloc))⟩
section
open Go.Maps (Keyed has)
theorem iz (k:Kl) (L:List Kl):kM (k::L)=kM L++[k.a.qb]:=by simp [kM]
theorem Ar (a b c:Value) (w:World):(Instr.field 85 (.agg #[a,b,c]) 1).run Tryz.prog w=.ok b w:=by
 simp [Instr.field,go_sem,underlying85,run_underlying underlying85,asAgg]
section
variable {s:Nat} {Z:Nat->Prop} {wx w0 w w':World}
theorem RR.hxB (H:RR s Z wx w0 g w h (k::L)) (hb:Bl w w'):HX s (fun b=>mw (k::L) Z b∨(w.heap.size<=b/\b<w'.heap.size)) w' w0 g w' h (kM L++[k.a.qb]):=by
 obtain ⟨vc,vo,vx,R,hl,z1,z2,K⟩:=H
 rw [iz] at R
 have R':=R.kept (df hb none) (fun b e=>by cases e)
 have KZ:=hl.kz K
 refine ⟨vc,vo,vx,R',?_,Nat.le_refl _,fun b hx=>⟨?_,rfl⟩⟩
 ·rintro b ((hx|hx)|hx)
  ·obtain ⟨y,-,hk,hy⟩:=hl.blks hx
   exact hy.farK R hk
  ·exact z1 b hx
  ·exact R.farNew hx.1
 ·rcases hx with hx|hx
  ·exact Nat.lt_of_lt_of_le (KZ.blk b hx).1 hb.size
  ·exact hx.2
theorem RR.drops {w1:World} (H:RR s Z wx w0 g w h (k::L)) (hb:Bl w w') (H':HX s (fun b=>mw (k::L) Z b∨(w.heap.size<=b/\b<w'.heap.size)) w' w0 g w1 h (kM L)):RR s Z wx w0 g w1 h L/\(∀b,w.heap.size<=b->b<w'.heap.size->w1.heap[b]?=w'.heap[b]?)/\∀b,k.own b->w1.heap[b]?=w.heap[b]?:=by
 obtain ⟨vc,vo,vx,R,hl,z1,z2,K⟩:=H
 obtain ⟨sS,wW,wX,R',f,K'⟩:=H'
 have KZ:=hl.kz K
 have hk:∀b,mw (k::L) Z b->w1.heap[b]?=w.heap[b]?:=fun b hx=>((K'.blk b (Or.inl hx)).2).trans (hb.block b (KZ.blk b hx).1)
 exact ⟨⟨sS,wW,wX,R',hl.2.2.same (fun b ⟨y,hy,z⟩=>hk b (Or.inl ⟨y,List.mem_cons_of_mem _ hy,z⟩)),fun b z=>f b (Or.inl (Or.inr z)),fun b z y hy=>z2 b z y (List.mem_cons_of_mem _ hy),Nat.le_trans K.size (Nat.le_trans hb.size K'.size),fun b z=>⟨(K.blk b z).1,(hk b (Or.inr z)).trans (K.blk b z).2⟩⟩,fun b h1 h2=>(K'.blk b (Or.inr ⟨h1,h2⟩)).2,fun b z=>hk b (Or.inl ⟨k,List.mem_cons_self,z⟩)⟩
end
theorem RX.sub {X':Nat->Prop} {qs:List Qb} (H:RX s X wx w0 g w h qs a c) (hx:∀b,X' b->X b):RX s X' wx w0 g w h qs a c:=by
 obtain ⟨vc,vo,vx,vs,l,H⟩:=H
 exact ⟨vc,vo,vx,vs,l,H.rh,H.ca,fun b z=>H.farr b (hx b z),fun b z=>H.farc b (hx b z),H.kept.size,fun b z=>H.kept.blk b (hx b z)⟩
section
variable {s:Nat} {Z:Nat->Prop} {wx w0 w:World}
theorem RR.topB (H:RR s Z wx w0 g w h (k::L)) {Y:Nat->Prop} (hZ:∀b,Y b->∃cs t,w.heap[b]?=some (.cells cs t (0,0))/\(t=143∨t=100∨t=139)) (Uw:∀b,Y b->mq k.a k.vs b):RX s (fun b=>mw L Z b∨Y b) w w0 g w h (kM (k::L)) k.a k.c:=by
 obtain ⟨vc,vo,vx,R,⟨hc,hf,hl⟩,z1,z2,K⟩:=H
 obtain ⟨n,D,F⟩:=R.fld
 have KZ:=hl.kz K
 refine ⟨vc,vo,vx,k.vs,k.l,R,hc,?_,?_,Nat.le_refl _,fun b hx=>⟨?_,rfl⟩⟩
 ·rintro b ((hx|hx)|hx)
  ·obtain ⟨y,-,hk,hy⟩:=hl.blks hx
   exact hy.farK R hk
  ·exact z1 b hx
  ·obtain ⟨cs,t,hB,ht⟩:=hZ b hx
   refine ⟨cC hB R.run ?_,cC hB R.hp ?_,iE hB F.own,bg R.calls hB ?_,bg R.obs hB ?_,bg R.o hB ?_⟩<;>rcases ht with rfl|rfl|rfl<;>decide
 ·rintro b ((hx|hx)|hx)
  ·exact hf b hx
  ·exact z2 b hx k List.mem_cons_self
  ·exact Uw b hx
 ·rcases hx with hx|hx
  ·exact (KZ.blk b hx).1
  ·obtain ⟨cs,t,hB,ht⟩:=hZ b hx
   exact af hB
theorem RR.topD {w1:World} {h1:Hp} {k2:Kl} (H:RR s Z wx w0 g w h (k::k2::L)) (H1:RR s Z wx w0 g w1 h1 (k2::L)) {cs:Array Value} (hB:w1.heap[w.heap.size]?=some (.cells cs 100 (0,0))) (hk:∀b,k.own b->w1.heap[b]?=w.heap[b]?):RX s (fun b=>mw L Z b∨(b=w.heap.size∨k.own b)) w1 w0 g w1 h1 (kM (k2::L)) k2.a k2.c:=by
 obtain ⟨vc,vo,vx,R,⟨hc,hf,hl⟩,z1,z2,K⟩:=H
 refine H1.topB ?_ ?_
 ·rintro b (rfl|hb)
  ·exact ⟨_,_,hB,Or.inr (Or.inl rfl)⟩
  ·obtain ⟨-,cs,t,e,ht⟩:=hc.blks hb
   exact ⟨cs,t,(hk b hb).trans e,ht⟩
 ·have hlt:∀b,k2.own b->b<w.heap.size:=fun b hb=>hl.lt ⟨k2,List.mem_cons_self,hb⟩
  have hn:∀b,k2.own b->¬k.own b:=fun b hb hz=>by
   have:=hf b ⟨k2,List.mem_cons_self,hb⟩
   rcases hz with z|z|z|z
   ·exact this.q z
   ·exact this.l z
   ·exact this.s z
   ·exact this.x z
  rintro b (rfl|hb)
  ·exact ⟨fun e=>Nat.lt_irrefl _ (hlt _ (Or.inl e)),fun e=>Nat.lt_irrefl _ (hlt _ (Or.inr (Or.inl e))),fun e=>Nat.lt_irrefl _ (hlt _ (Or.inr (Or.inr (Or.inl e)))),fun e=>Nat.lt_irrefl _ (hlt _ (Or.inr (Or.inr (Or.inr e))))⟩
  ·exact ⟨fun e=>hn b (Or.inl e) hb,fun e=>hn b (Or.inr (Or.inl e)) hb,fun e=>hn b (Or.inr (Or.inr (Or.inl e))) hb,fun e=>hn b (Or.inr (Or.inr (Or.inr e))) hb⟩
end
theorem RX.keptB {qs:List Qb} (H:RX s X wx w0 g w h qs a c) {b:Nat} (hb:X b):w.heap[b]?=wx.heap[b]?:=by
 obtain ⟨vc,vo,vx,vs,l,H⟩:=H
 exact (H.kept.blk b hb).2
theorem RR.c3 (H:RR s Z wx w0 g w h (k::L)):∃gb cap,w.cell? ⟨g.r,3,none⟩=some (.slice (some ⟨gb,0,none⟩) (L.length+1) cap):=by
 obtain ⟨vc,vo,vx,R,-⟩:=H
 have hk:=R.calls
 rw [iz] at hk
 have e1:(kM L++[k.a.qb]).length=(kM L).length+1:=by simp
 have e2:(kM L).length=L.length:=by simp [kM]
 rw [e1] at hk
 obtain ⟨gb,cap,e,-⟩:=o9 hk
 refine ⟨gb,cap,?_⟩
 rw [ab R.run,<-e2,<-e]
 rfl
theorem ye (s:Nat) (Z:Nat->Prop) (wx w0:World) (g:Mg) (h:Hp) (k k2:Kl) (L:List Kl) (v:Va) (w:World) (H:RR s Z wx w0 g w h (k::k2::L)) (hlen:L.length<=100) (c2:aL) (E:Ending) (hE:E=.returned (.tuple #[])∨E=bF 6 0 0) (PI:∀X wx w,RX s X wx w0 g w h (kM (k2::L)) k2.a k2.c->χ 69 #[cm (im v),π k2.a.bx 0] w fun e w'=>e=E/\RX s X wx w0 g w' h (kM (k2::L)) k2.a c2) :
  χ 92 #[π g.r 0,cm (im v)] w fun e w'=>e=E/\(∃vs l,RR s Z wx w0 g w' h (⟨k2.a,c2,vs,l⟩::L))/\∀b,k.own b->w'.heap[b]?=w.heap[b]?:=by
 have HH:=ae H
 have HB:Θ (Bl w (w.alloc (.cells #[ι (im v).kind,ι (im v).n] 100))):=(Bl.refl w).alloc _
 have HQ:=ae (aB w #[ι (im v).kind,ι (im v).n] 100)
 have HK:=ae PI
 have Qu:=fun a b c w=>Ar a b c w
 have hr:g.r<w.heap.size:=by obtain ⟨vc,vo,vx,R,-⟩:=H;exact af R.run
 have vl:((L.length:Int)+1==0)=false:=by simp;omega
 clear H PI
 rcases hE with rfl|rfl
 ·go_enter func92,ntmps92
  go_wp2_with (go_at_call 147;refine (nY s _ _ w0 g h (kM (k2::L)) k.a.qb _ (HH.o.hxB HB.o)).mono ?_;rintro e w1 ⟨rfl,H1⟩;have HD:=ae (HH.o.drops HB.o H1);clear H1;have mH:=ae ((HD.o.2.1 w.heap.size (Nat.le_refl _) (xd w _)).trans HQ.o);have n0:=ae (aO mH.o);have n1:=ae (aJ mH.o);have HR:=ae HD.o.1;have Ux:=ae HR.o.hx;have Q1:=ae HD.o.2.2;have Uy:=ae (HH.o.topD HR.o mH.o Q1.o);clear HD;obtain ⟨gb,cap,hrc⟩:=HR.o.c3)
  refine wp_region_held_drew (S:=fun w'=>κ w' w.heap.size 0 (ι (im v).kind)/\κ w' w.heap.size 1 (ι (im v).n)) (by kernel_rfl) ?_ (fun aa=>?_)
  ·exact ⟨n0.o,n1.o⟩
  iterate 2 (refine tn rfl (by kernel_rfl) (fun _ _ _ h=>h) (by intro _ h;go_split_ands;go_simp<;>with_reducible rfl) aa ?_;try simp only [aZ])
  refine aY (i:=1) (by kernel_rfl) rfl fun K hK=>?_
  go_simp
  go_at_call 148
  refine (mj s (mw (k2::L) Z) w1 w0 g h (kM L) k2.a.qb _ (by rw [<-iz];exact Ux.o.bl (Bl.refl _).drew)).mono ?_
  rintro e w2 ⟨rfl,b2⟩
  have d0:=ae (b2.cell (w':=w2) n0.o)
  have d1:=ae (b2.cell (w':=w2) n1.o)
  replace b2:=ae b2
  simp only [eN,Mc.qb]
  go_wp2_with fail
  refine hK.out _ _ (⟨d0.o,d1.o⟩) (fun ah=>?_)
  try simp only [aZ]
  refine tn rfl (by kernel_rfl) (fun _ _ _ h=>h) (by intro _ h;go_split_ands;go_simp<;>with_reducible rfl) ah ?_
  try simp only [aZ]
  refine aY (i:=4) (by kernel_rfl) rfl fun K hK=>?_
  go_simp
  go_at_call 69
  refine (Uy.o.y.useY ((Bl.refl w1).drew.trans b2.o) HK.o).mono ?_
  rintro e w3 ⟨rfl,H3,K3⟩
  have yE:=ae (HR.o.of (H3.x.sub (fun b z=>Or.inl z)))
  have Uz:=(H3.x.keptB (Or.inr (Or.inl rfl))).trans mH.o
  have SM:=ae (fun b (z:k.own b)=>(H3.x.keptB (Or.inr (Or.inr z))).trans (Q1.o b z))
  have j0:=ae (aO Uz)
  have j1:=ae (aJ Uz)
  clear H3 K3 Uz
  go_wp2_with fail
  refine hK.out _ _ (⟨j0.o,j1.o⟩) (fun aH=>?_)
  try simp only [aZ]
  refine wpAnyH_done (by kernel_rfl) ?_ _
  go_wp2
  go_end0
  exact ⟨rfl,yE.o,SM.o⟩
 ·go_enter func92,ntmps92
  go_wp2_with (go_at_call 147;refine (nY s _ _ w0 g h (kM (k2::L)) k.a.qb _ (HH.o.hxB HB.o)).mono ?_;rintro e w1 ⟨rfl,H1⟩;have HD:=ae (HH.o.drops HB.o H1);clear H1;have mH:=ae ((HD.o.2.1 w.heap.size (Nat.le_refl _) (xd w _)).trans HQ.o);have n0:=ae (aO mH.o);have n1:=ae (aJ mH.o);have HR:=ae HD.o.1;have Ux:=ae HR.o.hx;have Q1:=ae HD.o.2.2;have Uy:=ae (HH.o.topD HR.o mH.o Q1.o);clear HD;obtain ⟨gb,cap,hrc⟩:=HR.o.c3)
  refine wp_region_held_drew (S:=fun w'=>κ w' w.heap.size 0 (ι (im v).kind)/\κ w' w.heap.size 1 (ι (im v).n)) (by kernel_rfl) ?_ (fun aa=>?_)
  ·exact ⟨n0.o,n1.o⟩
  iterate 2 (refine tn rfl (by kernel_rfl) (fun _ _ _ h=>h) (by intro _ h;go_split_ands;go_simp<;>with_reducible rfl) aa ?_;try simp only [aZ])
  refine aY (i:=1) (by kernel_rfl) rfl fun K hK=>?_
  go_simp
  go_at_call 148
  refine (mj s (mw (k2::L) Z) w1 w0 g h (kM L) k2.a.qb _ (by rw [<-iz];exact Ux.o.bl (Bl.refl _).drew)).mono ?_
  rintro e w2 ⟨rfl,b2⟩
  have d0:=ae (b2.cell (w':=w2) n0.o)
  have d1:=ae (b2.cell (w':=w2) n1.o)
  replace b2:=ae b2
  simp only [eN,Mc.qb]
  go_wp2_with fail
  refine hK.out _ _ (⟨d0.o,d1.o⟩) (fun ah=>?_)
  try simp only [aZ]
  refine tn rfl (by kernel_rfl) (fun _ _ _ h=>h) (by intro _ h;go_split_ands;go_simp<;>with_reducible rfl) ah ?_
  try simp only [aZ]
  refine aY (i:=4) (by kernel_rfl) rfl fun K hK=>?_
  go_simp
  go_at_call 69
  refine (Uy.o.y.useY ((Bl.refl w1).drew.trans b2.o) HK.o).mono ?_
  rintro e w3 ⟨rfl,H3,K3⟩
  exact ⟨rfl,rfl,HR.o.of (H3.x.sub (fun b z=>Or.inl z)),fun b (z:k.own b)=>(H3.x.keptB (Or.inr (Or.inr z))).trans (Q1.o b z)⟩
end
theorem D1 {base:Nat} {e:TypeId} {vs:Value} {xs:List Value} (h:w.ownsRow base e 3 vs 0 xs):∃A cap,vs=.slice A 0 cap:=by
 rcases h.2 with ⟨rfl,h0⟩|⟨gb,cap,cur,rfl,hg,hh,hn,Ln,hsz,BU⟩
 ·exact ⟨_,_,rfl⟩
 ·exact ⟨_,_,rfl⟩
theorem RR.c3n (H:RR s Z wx w0 g w h []):∃A cap,w.cell? ⟨g.r,3,none⟩=some (.slice A 0 cap):=by
 obtain ⟨vc,vo,vx,R,-⟩:=H
 obtain ⟨A,cap,e⟩:=D1 R.calls
 refine ⟨A,cap,?_⟩
 rw [ab R.run,<-e]
 rfl
theorem yf (s:Nat) (Z:Nat->Prop) (wx w0:World) (g:Mg) (h:Hp) (k:Kl) (v:Va) (w:World) (H:RR s Z wx w0 g w h [k]) :
  χ 92 #[π g.r 0,cm (im v)] w fun e w'=>e=bF 1 (im v).kind (im v).n/\RR s Z wx w0 g w' h []:=by
 have HH:=ae H
 have HB:Θ (Bl w (w.alloc (.cells #[ι (im v).kind,ι (im v).n] 100))):=(Bl.refl w).alloc _
 have HQ:=ae (aB w #[ι (im v).kind,ι (im v).n] 100)
 have hr:g.r<w.heap.size:=by obtain ⟨vc,vo,vx,R,-⟩:=H;exact af R.run
 clear H
 go_enter func92,ntmps92
 go_wp2_with (go_at_call 147;refine (nY s _ _ w0 g h (kM []) k.a.qb _ (HH.o.hxB HB.o)).mono ?_;rintro e w1 ⟨rfl,H1⟩;have HD:=ae (HH.o.drops HB.o H1);clear H1;have mH:=(HD.o.2.1 w.heap.size (Nat.le_refl _) (xd w _)).trans HQ.o;have n0:=aO mH;have n1:=aJ mH;have HR:=ae HD.o.1;clear HD mH;obtain ⟨A,cap,hrc⟩:=HR.o.c3n)
 exact ⟨rfl,rfl,HR.o⟩
theorem RR.bl {w':World} (H:RR s Z wx w0 g w h L) (hb:Bl w w'):RR s Z wx w0 g w' h L:=H.ofx (H.hx.bl hb)
theorem Ic (hb:h.stepB=true):h.step={ h with sh:={ h.sh with steps:=h.sh.steps+1 } }:=by
 unfold Hp.stepB at hb
 simp at hb
 unfold Hp.step
 rw [if_neg (by rw [hb.1];decide),if_neg (by omega)]
section
variable {s:Nat} {X:Nat->Prop} {wx w0 w:World} {g:Mg} {h:Hp}
theorem HX.sets {qs:List Qb} (H:HX s X wx w0 g w h qs) (hb:h.stepB=true):HX (s+1) X wx w0 g (w.setCell ⟨g.r,6,none⟩ (ι (h.sh.steps+1))) h.step qs:=by
 obtain ⟨vc,vo,vx,R,hf,hK⟩:=H
 have hg:=cD (w:=w) g.r 6 (ι (h.sh.steps+1))
 obtain ⟨n,D,F⟩:=R.fld
 have Ia:g.r≠g.mp:=iE R.run F.own
 rw [Ic hb]
 refine ⟨vc,vo,vx,⟨R.ownr,R.ownh,R.ownm,Below.grown R.bl hg R.bl.size (fun k hk=>by cases hk;exact R.ownr),?_,?_,?_,?_,?_,n,D,?_,?_,F.hit,F.miss,F.new,F.ks,F.kd⟩,hf,hK.kept hg (fun b e hx=>?_)⟩
 ·rw [ay R.run];rfl
 ·exact aV hg R.hp (fun e=>cC R.run R.hp (by decide) (Option.some.inj e))
 ·exact R.o.kept hg (Or.inr (bg R.o R.run (by decide)))
 ·exact R.obs.kept hg (Or.inr (bg R.obs R.run (by decide)))
 ·exact R.calls.kept hg (Or.inr (bg R.calls R.run (by decide)))
 ·exact F.own.kept hg (fun e=>Ia (Option.some.inj e.symm))
 ·have:=F.few
  show (n:Int)+((s+1:Nat):Int)<=h.sh.steps+1
  omega
 ·cases e;exact (hf g.r hx).r rfl
theorem HX.c56 {qs:List Qb} (H:HX s X wx w0 g w h qs):w.cell? ⟨g.r,5,none⟩=some (ι h.fuel)/\w.cell? ⟨g.r,6,none⟩=some (ι h.sh.steps)/\(∀i,w.frozen? ⟨g.r,i,none⟩=false):=by
 obtain ⟨vc,vo,vx,R,-,-⟩:=H
 exact ⟨R.runCells.2.2.2.2.2.1,R.runCells.2.2.2.2.2.2.1,aA R.run⟩
end
theorem yg (a b c:Value) (w:World):(Instr.field 85 (.agg #[a,b,c]) 0).run Tryz.prog w=.ok a w:=by
 simp [Instr.field,go_sem,underlying85,run_underlying underlying85,asAgg]
section
variable (s:Nat) (Z:Nat->Prop) (wx w0:World) (g:Mg) (h:Hp)
theorem D2 (L:List Kl) (w:World) (H:RR s Z wx w0 g w h L) (hb:h.fuel<=h.sh.steps) :
  χ 105 #[π g.r 0] w fun e w'=>e=bF 0 0 0/\RR s Z wx w0 g w' h L:=by
 have HH:=ae H
 obtain ⟨c5,c6,fz⟩:=H.hx.c56
 clear H
 go_enter func105,ntmps105
 go_wp2
 go_quiet (fail)
 go_wp2_with (go_at_call 99;refine (ly 0 _).mono ?_;rintro e w1 ⟨rfl,hw⟩;rw [hw];clear hw w1)
 exact ⟨rfl,rfl,HH.o.bl (aR (Bl.refl w) _)⟩
theorem v7 (k:Kl) (L:List Kl) (w:World) (H:RR s Z wx w0 g w h (k::L)) (hb:h.stepB=true) (hlim:0<=h.sh.steps/\h.sh.steps<1000000) (E:Ending) (Q':World->Prop) (hE:E=.returned (.tuple #[])∨∃ch,E=.panicked ch) (WU:∀w,RR (s+1) Z wx w0 g w h.step (k::L)->χ 70 #[π k.a.q 0] w fun e w'=>e=E/\Q' w') :
  χ 105 #[π g.r 0] w fun e w'=>e=E/\Q' w':=by
 have HH:=ae H
 have HB:=ae hb
 have WV:=ae WU
 obtain ⟨c5,c6,fz⟩:=H.hx.c56
 have hst:¬h.fuel<=h.sh.steps:=by unfold Hp.stepB at hb;simp at hb;omega
 have Qu:=fun a b c w=>yg a b c w
 clear H hb WU
 have HS:Θ (∀n,RR (s+1) Z wx w0 g ((w.drewN n).setCell ⟨g.r,6,none⟩ (ι (h.sh.steps+1))) h.step (k::L)):=fun n=>by
  have H1:=HH.o.bl (aR (Bl.refl w) n)
  obtain ⟨vc,vo,vx,R,hl,z1,z2,K⟩:=H1
  exact RR.ofx ⟨vc,vo,vx,R,hl,z1,z2,K⟩ (HX.sets (RR.hx ⟨vc,vo,vx,R,hl,z1,z2,K⟩) HB.o)
 rcases hE with rfl|⟨ch,rfl⟩
 ·go_enter func105,ntmps105
  go_wp2
  go_quiet (fail)
  go_wp2_with (first
   | (go_at_call 148;refine (mj (s+1) (mw (k::L) Z) _ w0 g h.step (kM L) k.a.qb _ (by rw [<-iz];exact (HS.o _).hx)).mono ?_;rintro e w1 ⟨rfl,b1⟩;have jG:=ae ((HS.o _).bl b1);simp only [eN,Mc.qb];clear b1)
   | (go_at_call 70;refine (WV.o _ jG.o).mono ?_;rintro e w2 ⟨rfl,hq⟩;replace hq:=ae hq))
  go_end0
  exact ⟨rfl,hq.o⟩
 ·go_enter func105,ntmps105
  go_wp2
  go_quiet (fail)
  go_wp2_with (first
   | (go_at_call 148;refine (mj (s+1) (mw (k::L) Z) _ w0 g h.step (kM L) k.a.qb _ (by rw [<-iz];exact (HS.o _).hx)).mono ?_;rintro e w1 ⟨rfl,b1⟩;have jG:=ae ((HS.o _).bl b1);simp only [eN,Mc.qb];clear b1)
   | (go_at_call 70;refine (WV.o _ jG.o).mono ?_;rintro e w2 ⟨rfl,hq⟩;replace hq:=ae hq))
  exact ⟨rfl,rfl,hq.o⟩
end
section
open Go.Maps (Keyed has)
def BV (f:Nat->Va) (n q:Nat):List Va:=(List.range n).map (fun j=>if j<q then f j else aE)
section
variable (f:Nat->Va) (n:Nat)
theorem Ie:BV f n 0=List.replicate n aE:=by
 unfold BV
 apply List.ext_getElem
 ·simp
 ·intro i h1 h2;simp
theorem mX (q:Nat):(BV f n q).length=n:=by simp [BV]
theorem Lp (q:Nat):(BV f n q).set q (f q)=BV f n (q+1):=by
 unfold BV
 apply List.ext_getElem
 ·simp
 ·intro i h1 h2
  simp only [List.getElem_set,List.getElem_map,List.getElem_range]
  by_cases hi:q=i
  ·subst hi;simp
  ·rw [if_neg hi]
   by_cases hlt:i<q
   ·rw [if_pos hlt,if_pos (by omega)]
   ·rw [if_neg hlt,if_neg (by omega)]
end
theorem qw (c:aL):∀(l:List Int) (ts:List Ty) (k:Nat),l.length=ts.length->k<ts.length->nth aE (c.rds l ts) k=c.rd (nth (0:Int) l k)
 | [],[],k,_,hk=>absurd hk (Nat.not_lt_zero _)
 | [],_::_,k,h,_=>by simp at h
 | _::_,[],k,h,_=>by simp at h
 | a::l,t::ts,0,h,_=>rfl
 | a::l,t::ts,k+1,h,hk=>qw c l ts k (by simpa using h) (by simpa using hk)
theorem Lq (c:aL) (l:List Int) (ts:List Ty) (hl:l.length=ts.length):BV (fun j=>im (c.rd (nth (0:Int) l j))) ts.length ts.length=(c.rds l ts).map im:=by
 apply List.ext_getElem
 ·rw [mX,List.length_map,dG c l ts hl]
 ·intro i h1 h2
  rw [mX] at h1
  have h3:i<(c.rds l ts).length:=by simpa using h2
  have:=qw c l ts i hl h1
  rw [cg h3] at this
  simp only [BV,List.getElem_map,List.getElem_range,if_pos h1,this]
def WW (h:Hp) (c:aL) (args:List Int) (ts:List Ty) (w:World) (e:Ending) (w':World):Prop :=
 (h.enterL (c.rds args ts) ts=true/\e=.returned (.slice (some ⟨w.heap.size,0,none⟩) ts.length ts.length)/\cu w' w.heap.size ((c.rds args ts).map im)/\Bl w w')
 ∨ (h.enterL (c.rds args ts) ts=false/\e=bF 6 0 0/\Bl w w')
structure Q3 (h:Hp) (c:aL) (args:List Int) (ts:List Ty):Prop where
 len:args.length=ts.length
 few:ts.length<=4
 reg:∀k,k<ts.length->0<=nth (0:Int) args k/\nth (0:Int) args k<c.locs.length
 kind:∀k,k<ts.length->1<=(nth bS ts k).kind/\(nth bS ts k).kind<=3
 two:∀k,k<ts.length->(nth bS ts k).kind=2->nth (0:Int) args k+1<c.locs.length
 gd:∀k,k<ts.length->(c.rd (nth (0:Int) args k)).kind=3->-1<=(c.rd (nth (0:Int) args k)).n/\(c.rd (nth (0:Int) args k)).n<h.objs.length
theorem OO {b b' i j j':Nat} {k n x:Value} (h:w.cell? ⟨b,i,none⟩=some x) (hb:b≠b'):((w.setCell ⟨b',j,none⟩ k).setCell ⟨b',j',none⟩ n).cell? ⟨b,i,none⟩=some x:=by
 rw [World.cell?_setCell_far _ _ _ _ (Ne.symm hb),World.cell?_setCell_far _ _ _ _ (Ne.symm hb)];exact h
theorem s8 (s:Nat) (X:Nat->Prop) (wx w0:World) (g:Mg) (h:Hp) (qs:List Qb) (a:Mc) (c:aL) (A Q:Option Addr) (cap qc:Nat) (ts:List Ty) (args:List Int) (w:World) (H:RX s X wx w0 g w h qs a c) (F:Fix w0 g h) (hf:h.objs.length<=100) (hT:cX w0 A ts) (hR:aU w0 Q args) (O:Q3 h c args ts) :
  χ 132 #[π a.q 0,.slice Q args.length qc,.slice A ts.length cap] w fun e w'=>WW h c args ts w e w':=by
 have HH:=ae H
 have E6:Bl w0 w:=by
  obtain ⟨vc,vo,vx,vs,l,H⟩:=H
  exact H.rh.bl
 have HT:=ae (hT.bl E6)
 have HR:=ae (hR.bl E6)
 have HO:=ae O
 have HF:=ae (And.intro F hf)
 have hl:=O.len
 have h4:=O.few
 have NL:=Bk ts.length (by omega)
 have HS:Θ (Bl w (w.alloc (.cells (bh (List.replicate ts.length aE)).toArray 100))/\cu (w.alloc (.cells (bh (List.replicate ts.length aE)).toArray 100)) w.heap.size (BV (fun j=>im (c.rd (nth (0:Int) args j))) ts.length 0)/\∀j,j<0->h.of (c.rd (nth (0:Int) args j)) (nth bS ts j)=true) :=
  ⟨(Bl.refl w).alloc _,by rw [Ie];exact cu.new w _,fun j hj=>absurd hj (Nat.not_lt_zero _)⟩
 rw [hl]
 have HL:=ae hl
 clear H hT hR hl O F hf E6
 go_enter func132,ntmps132
 go_wp2
 go_loopw [15] (fun i wr=>∃q:Nat,q<=ts.length/\i=ι q/\Θ (Bl w wr/\cu wr w.heap.size (BV (fun j=>im (c.rd (nth (0:Int) args j))) ts.length q)/\∀j,j<q->h.of (c.rd (nth (0:Int) args j)) (nth bS ts j)=true)) (fun i _=>ts.length-(intOf i).toNat)
 case atStart=>exact ⟨0,Nat.zero_le _,rfl,HS.o⟩
 case round =>
  clear HS NL
  obtain ⟨q,hq,rfl,HB⟩:=hrel
  by_cases dI:q<ts.length
  ·rcases (HT.o.bl HB.o.1).2 with z0|⟨tb,to,rfl,hcell⟩
   ·omega
   rcases (HR.o.bl HB.o.1).2 with z0|⟨rb,ro,rfl,hrc⟩
   ·have:=HL.o;omega
   obtain ⟨x0,x1,-,-⟩:=hcell q dI
   obtain ⟨y0,-⟩:=hrc q (by rw [HL.o];exact dI)
   have hreg:=HO.o.reg q dI
   have hkd:=HO.o.kind q dI
   have h2:=HO.o.two q dI
   have hgd:=HO.o.gd q dI
   have Qn:Θ ((BV (fun j=>im (c.rd (nth (0:Int) args j))) ts.length q).set q (im (c.rd (nth (0:Int) args q)))=BV (fun j=>im (c.rd (nth (0:Int) args j))) ts.length (q+1)):=Lp _ _ _
   have hqa:q<args.length:=by have:=HL.o;omega
   have WX:Θ (∃t,nth bS ts q=t):=⟨_,rfl⟩
   obtain ⟨t,ht⟩:=WX.o
   obtain ⟨ar,dx⟩:∃ar,nth (0:Int) args q=ar:=⟨_,rfl⟩
   rw [ht] at x0 x1 hkd h2
   rw [dx] at y0 hreg h2 hgd
   rw [dx] at Qn
   have Sn:=ae ht
   have WY:=ae dx
   clear hcell hrc ht dx WX
   have Tz:rb<w.heap.size:=by
    rcases HR.o.2 with z0|⟨Ye,Yf,ee,hrc⟩
    ·have:=HL.o;omega
    ·cases ee
     exact br (hrc q (by rw [HL.o];exact dI)).1
   have VW:rb≠w.heap.size:=by omega
   have TA:(wr.alloc (iv t)).cell? ⟨rb,ro+q,none⟩=some (ι ar):=((Bl.refl wr).alloc _).cell y0
   have hlt:=af HB.o.2.1.blk
   have hne:wr.heap.size≠w.heap.size:=by omega
   have JG:=ae (aB wr #[ι t.kind,ι t.cls] 45)
   have C5:Θ (q<(BV (fun j=>im (c.rd (nth (0:Int) args j))) ts.length q).length):=by rw [mX];exact dI
   have mG:Θ (Bl w (wr.alloc (iv t))):=HB.o.1.alloc _
   cases ho:h.of (c.rd ar) t with
   | false =>
    have Ig:Θ (∀w',RX s X wx w0 g w' h qs a c->χ 183 #[π a.q 0,ι ar,iC t] w' fun e w2=>e=bF 6 0 0/\Bl w' w2):=fun w' H=>rL s X wx w0 g h qs a c ar t w' H HF.o.1 HF.o.2 hreg hkd h2 hgd ho
    have Q4:=ae ho
    have HQ:=ae dI
    clear ho hreg hkd h2 hgd hq
    go_wp2
    refine wp_region_held_drew (S:=fun w'=>κ w' rb (ro+q) (ι ar)/\κ w' wr.heap.size 0 (ι t.kind)/\κ w' wr.heap.size 1 (ι t.cls)) (by kernel_rfl) ?_ (fun aa=>?_)
    ·exact ⟨TA,aO JG.o,aJ JG.o⟩
    iterate 8 (refine tn rfl (by kernel_rfl) (fun _ _ _ h=>h) (by intro _ h;go_split_ands;go_simp<;>with_reducible rfl) aa ?_;try simp only [aZ])
    refine aY (i:=8) (by kernel_rfl) rfl fun K hK=>?_
    go_simp
    go_at_call 183
    refine (Ig.o _ (HH.o.bl mG.o.drew)).mono ?_
    rintro e w1 ⟨rfl,b1⟩
    refine ⟨rfl,Or.inr ⟨?_,rfl,mG.o.drew.trans b1⟩⟩
    cases hE:h.enterL (c.rds args ts) ts with
    | false=>rfl
    | true =>
     exfalso
     have:=(ma h _ _ (dG c args ts HL.o)).1 hE q HQ.o
     rw [qw c args ts q HL.o HQ.o,WY.o,Sn.o,Q4.o] at this
     cases this
   | true =>
    have Ig:Θ (∀w',RX s X wx w0 g w' h qs a c->χ 183 #[π a.q 0,ι ar,iC t] w' fun e w2=>e=.returned (cm (im (c.rd ar)))/\Bl w' w2):=fun w' H=>jJ s X wx w0 g h qs a c ar t w' H HF.o.1 HF.o.2 hreg hkd h2 hgd ho
    have Q4:=ae ho
    clear ho hreg hkd h2 hgd
    go_wp2
    refine wp_region_held_drew (S:=fun w'=>κ w' rb (ro+q) (ι ar)/\κ w' wr.heap.size 0 (ι t.kind)/\κ w' wr.heap.size 1 (ι t.cls)) (by kernel_rfl) ?_ (fun aa=>?_)
    ·exact ⟨TA,aO JG.o,aJ JG.o⟩
    iterate 8 (refine tn rfl (by kernel_rfl) (fun _ _ _ h=>h) (by intro _ h;go_split_ands;go_simp<;>with_reducible rfl) aa ?_;try simp only [aZ])
    refine aY (i:=8) (by kernel_rfl) rfl fun K hK=>?_
    go_simp
    go_at_call 183
    refine (Ig.o _ (HH.o.bl mG.o.drew)).mono ?_
    rintro e w1 ⟨rfl,b1⟩
    have jT:=ae (b1.cell aa.1)
    have ko:=ae (b1.cell aa.2.1)
    have nX:=ae (b1.cell aa.2.2)
    replace b1:=ae b1
    have L1:=HB.o.2.1.bl (((Bl.refl wr).alloc (iv t)).drew.trans b1.o)
    have v0:=L1.c0 C5.o
    have v1:=L1.c1 C5.o
    have Vu:=aA L1.blk
    replace L1:=ae L1
    go_wp2_with fail
    refine hK.out _ _ (⟨jT.o,ko.o,nX.o⟩) (fun ah=>?_)
    try simp only [aZ]
    refine tn rfl (by kernel_rfl) (fun _ _ _ h=>h) (by intro _ h;go_split_ands;go_simp<;>with_reducible rfl) ah ?_
    try simp only [aZ]
    refine aY (i:=10) (by kernel_rfl) rfl fun K hK=>?_
    go_wp2_with fail
    refine hK.out _ _ (⟨OO jT.o VW,OO ko.o hne,OO nX.o hne⟩) (fun aH=>?_)
    try simp only [aZ]
    refine wpAnyH_done (by kernel_rfl) ?_ _
    go_wp2
    go_roundw
    case rel =>
     refine ⟨q+1,by omega,by go_num,?_,?_,?_⟩
     ·exact ((mG.o.drew.trans b1.o).setCell (p:=⟨w.heap.size,q*2,none⟩) (Nat.le_refl _) _).setCell (p:=⟨w.heap.size,q*2+1,none⟩) (Nat.le_refl _) _
     ·rw [<-Qn.o]
      exact L1.o.set C5.o (im (c.rd ar))
     ·intro j hj
      by_cases SN:j=q
      ·subst SN;rw [WY.o,Sn.o];exact Q4.o
      ·exact HB.o.2.2 j (by omega)
    case measure=>simp [intOf];omega
  ·have Zf:q=ts.length:=by omega
   subst Zf
   go_wp2
   go_ret
   refine Or.inl ⟨?_,rfl,?_,HB.o.1⟩
   ·rw [ma h _ _ (dG c args ts HL.o)]
    intro j hj
    rw [qw c args ts j HL.o hj]
    exact HB.o.2.2 j hj
   ·rw [<-Lq c args ts HL.o]
    exact HB.o.2.1
end
end Go.Proofs.YtgiiapenmjollaaGreat
