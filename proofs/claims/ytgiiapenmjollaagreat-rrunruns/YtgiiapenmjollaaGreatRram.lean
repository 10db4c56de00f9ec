import Derived.Test.YtgiiapenmjollaaGreatRral
namespace Go.Proofs.YtgiiapenmjollaaGreat
set_option linter.all false
set_option maxHeartbeats 40000000
set_option maxRecDepth 100000
open Go.RowKit
open Tryz
variable {c:aL} {h:Hp} {a:Mc} {g:Mg} {cc j k o:Nat} {X:Nat->Prop} {v:Va} {w w0 wx:World}
section
open Go.Maps (Keyed has)
theorem vW {l:List Cl} (h:dt l=true) {d:Nat} (hd:d<l.length):l.length<=12/\(nth bL l d).fields.length<=6/\∀t∈(nth bL l d).fields,fP l.length t=true:=by
 unfold dt at h
 rw [Bool.and_eq_true,List.all_eq_true] at h
 have h1:=of_decide_eq_true h.1
 have h2:=h.2 d (by simpa using hd)
 unfold qC at h2
 rw [Bool.and_eq_true,List.all_eq_true] at h2
 have h3:=of_decide_eq_true h2.1
 exact ⟨h1.2.1,h3.2,h2.2⟩
theorem gV (cs:List Cl) (c k:Nat):bI cs (c:Int) (k:Int)=nth bS (nth bL cs c).fields k:=by unfold bI;rw [Int.toNat_natCast,Int.toNat_natCast]
theorem gX {l:List Cl} (h:dt l=true) {c:Nat} (hc:c<l.length) (hk:k<(nth bL l c).fields.length):1<=(bI l (c:Int) (k:Int)).kind/\(bI l (c:Int) (k:Int)).kind<=3:=by
 rw [gV]
 exact vH ((vW h hc).2.2 _ (bE hk))
theorem RX.find {s:Nat} {qs:List Qb} (H:RX s X wx w0 g w h qs a c) (ho:o<h.objs.length) (hb:fu h.file.classes (nth cF h.objs o).cls (cc:Int)=true) (hk:k<(nth bL h.file.classes cc).fields.length) :
  ∃j:Nat,j<(nth cF h.objs o).held.length/\eB (nth cF h.objs o).held cc k=j/\(nth cE (nth cF h.objs o).held j).cls=cc/\(nth cE (nth cF h.objs o).held j).fld=k/\(nth cE (nth cF h.objs o).held j).v.kind=(bI h.file.classes (cc:Int) (k:Int)).kind:=by
 obtain ⟨vc,vo,vx,vs,l,H⟩:=H
 obtain ⟨n,D,F⟩:=H.rh.fld
 obtain ⟨j,h1,h2,h3,h4⟩:=DE (F.ks o ho) hb hk
 refine ⟨j,h1,h2,h3,h4,?_⟩
 have:=F.kd o ho _ (bE (d:=cE) h1)
 rw [h3,h4] at this
 exact this
end
section
open Go.Maps (Keyed has)
theorem G0 (s:Nat) (X:Nat->Prop) (wx w0:World) (g:Mg) (h:Hp) (qs:List Qb) (a:Mc) (c:aL) (o cc k j:Nat) (w:World) (H:RX s X wx w0 g w h qs a c) (F:Fix w0 g h) (eT:h.objs.length<=100) (ho:o<h.objs.length) (hc:cc<h.file.classes.length) (hk:k<(nth bL h.file.classes cc).fields.length) (hj:j<(nth cF h.objs o).held.length) (h3:(nth cE (nth cF h.objs o).held j).cls=cc) (h4:(nth cE (nth cF h.objs o).held j).fld=k) :
  χ 196 #[π g.hb 0,cm ⟨3,(o:Int)+1⟩,ι cc,ι k] w fun e w'=>e=.returned (cm (im (nth cE (nth cF h.objs o).held j).v))/\RX s X wx w0 g w' h qs a c:=by
 have H0:=H
 obtain ⟨vc,vo,vx,vs,l,H⟩:=H
 obtain ⟨n,D,FF⟩:=H.rh.fld
 obtain ⟨m1,m2,m3⟩:=vW F.may hc
 have ic:cJ (cc:Int):=by unfold cJ;omega
 have ik:cJ (k:Int):=by unfold cJ;omega
 have hx:∃x∈(nth cF h.objs o).held,x.cls=(cc:Int)/\x.fld=(k:Int)/\x.v=(nth cE (nth cF h.objs o).held j).v:=⟨_,bE hj,h3,h4,rfl⟩
 cases hh:has D (jY ((o:Int)+1) cc k) with
 | true=>exact Gu s X wx w0 g h qs a c o cc k _ n D w H0 F FF.own (by omega) hc hk m1 m2 hh (FF.hit o cc k _ ho ic ik hx hh)
 | false =>
  have e:=FF.miss o cc k _ ho ic ik hx hh
  rw [e,K8,gV]
  exact DG s X wx w0 g h qs a c o cc k aE n D w H0 F FF.own (by omega) hc hk m1 m2 hh
end
section
open Go.Maps (Keyed has)
section
variable (X:Nat->Prop) (wx w0:World) (g:Mg) (h:Hp)
theorem zZ (qs:List Qb) (a:Mc) (c:aL) (ia ib ic ii:Int) (args:List Int) (Q:Option Addr) (nl q:Nat) (w:World) (H:RX 1 X wx w0 g w h qs a c) (hs:h.stops=false) (eT:h.objs.length<=100) :
  χ 187 #[π a.q 0,.agg #[ι 13,ι ia,ι ib,ι ic,ι ii,.slice Q nl q]] w fun e w'=>cM X wx w0 g qs a c (cy h c ⟨13,ia,ib,ic,ii,args⟩) (bR h c ⟨13,ia,ib,ic,ii,args⟩) e w':=by
 have ho:=(aF hs).1
 have HH:=ae H
 have HS:=ae hs
 have hq:=H.qlt
 obtain ⟨L0,L1⟩:=bc w #[ι 13,ι ia,ι ib,ι ic,ι ii,.slice Q nl q] #[ι 0,ι 0] 55 100
 have HB:Θ (Bl w ((w.alloc (.cells #[ι 13,ι ia,ι ib,ι ic,ι ii,.slice Q nl q] 55)).alloc fa)):=((Bl.refl w).alloc _).alloc _
 have dK:=ae L0
 have ey:=ae L1
 have iw:w.heap.size≠a.q:=by omega
 have fT:w.heap.size+1≠a.q:=by omega
 have lv:w.heap.size≠w.heap.size+1:=by omega
 clear L0 L1
 have eH:cy h c ⟨13,ia,ib,ic,ii,args⟩=h.new ib:=by simp [cy,givesH]
 have eV:bR h c ⟨13,ia,ib,ic,ii,args⟩=h.newV:=by simp [bR,aG]
 rw [eH,eV]
 clear eH eV
 have z0:=ae (H.y.bl HB.o).hb
 have z1:=ae (dr dK.o)
 cases hf:h.full with
 | true =>
  have e1:h.new ib=h.fin 4:=by unfold Hp.new;rw [if_pos hf]
  rw [e1]
  generalize h.newV=V
  have HF:=ae (And.intro hf eT)
  clear H hs e1 hf eT
  go_enter func187,ntmps187
  go_wp2
  refine wp_region_held_drew (S:=fun w'=>κ w' a.q 0 (π g.hb 0)/\κ w' w.heap.size 2 (ι ib)) (by kernel_rfl) ?_ (fun aa=>?_)
  ·exact ⟨z0.o,z1.o.2.2.1⟩
  iterate 6 (refine tn rfl (by kernel_rfl) (fun _ _ _ h=>h) (by intro _ h;go_split_ands;go_simp<;>with_reducible rfl) aa ?_;try simp only [aZ])
  refine aY (i:=6) (by kernel_rfl) rfl fun K hK=>?_
  go_simp
  go_at_call 195
  refine (HH.o.y.useY HB.o.drew (fun X wx w H=>Bh 1 X wx w0 g h qs a c ib w H HF.o.1 HF.o.2)).mono ?_
  rintro e w1 ⟨rfl,H1,K1⟩
  exact ⟨rfl,fC (aF HS.o).1 rfl H1.x.rs⟩
 | false =>
  have e1:h.new ib=h.mk' ib:=by unfold Hp.new Hp.mk';rw [if_neg (by rw [hf];decide)]
  have e5:h.newV=⟨3,(h.objs.length:Nat)⟩:=by unfold Hp.newV;rw [if_neg (by rw [hf];decide)]
  have tt:(h.mk' ib).stops=false:=hs
  rw [e1,e5]
  have HR:Θ (∀X wx w,RX 1 X wx w0 g w h qs a c->χ 195 #[π g.hb 0,ι ib] w fun e w'=>e=.returned (cm (im ⟨3,(h.objs.length:Nat)⟩))/\RX 1 X wx w0 g w' (h.mk' ib) qs a c):=fun X wx w H=>wu 1 X wx w0 g h qs a c ib w H hf
  have HE:Θ (∀w',RX 1 X wx w0 g w' (h.mk' ib) qs a c->cM X wx w0 g qs a c (h.mk' ib) ⟨3,(h.objs.length:Nat)⟩ (.returned (cm (im ⟨3,(h.objs.length:Nat)⟩))) w'):=fun w' H=>ea tt rfl H
  generalize im (⟨3,(h.objs.length:Nat)⟩:Va)=V at HR HE
  clear H hs e1 e5 hf eT tt
  go_enter func187,ntmps187
  go_wp2
  refine wp_region_held_drew (S:=fun w'=>κ w' a.q 0 (π g.hb 0)/\κ w' w.heap.size 2 (ι ib)) (by kernel_rfl) ?_ (fun aa=>?_)
  ·exact ⟨z0.o,z1.o.2.2.1⟩
  iterate 6 (refine tn rfl (by kernel_rfl) (fun _ _ _ h=>h) (by intro _ h;go_split_ands;go_simp<;>with_reducible rfl) aa ?_;try simp only [aZ])
  refine aY (i:=6) (by kernel_rfl) rfl fun K hK=>?_
  go_simp
  go_at_call 195
  refine (HH.o.y.useY HB.o.drew HR.o).mono ?_
  rintro e w1 ⟨rfl,H1,K1⟩
  have q0:=K1.at (Xp.new (Nat.le_refl _) (oJ w _ _)) dK.o
  have q1:=K1.at (Xp.new (Nat.le_succ _) (dg w _ _)) ey.o
  have d0:=ae H1.hb
  have d1:=ae (dr q0).2.2.1
  have c4:=aO q1
  have c5:=aJ q1
  have fz:=aA q1
  replace q1:=ae q1
  replace H1:=ae H1
  clear K1 q0
  go_wp2_with fail
  refine hK.out _ _ (⟨d0.o,d1.o⟩) (fun ah=>?_)
  try simp only [aZ]
  refine aY (i:=7) (by kernel_rfl) rfl fun K hK=>?_
  go_wp2_with fail
  refine hK.out _ _ (⟨aD d0.o (Ne.symm fT),aD d1.o lv⟩) (fun aH=>?_)
  try simp only [aZ]
  refine wpAnyH_done (by kernel_rfl) ?_ _
  go_wp2
  refine bodyPost_ret (results_cell_row rfl _ _ (w.heap.size+1) _ _ _ _ rfl (ba q1.o) underlying100 rfl au) rfl ?_
  refine HE.o _ (dz.x (dz.set (dz.set H1.o ?_ 0 _) ?_ 1 _))<;>exact (Xp.new (Nat.le_succ _) (dg w _ _))
theorem zu (qs:List Qb) (a:Mc) (c:aL) (ia ib ic ii:Int) (args:List Int) (Q:Option Addr) (nl q:Nat) (w:World) (H:RX 1 X wx w0 g w h qs a c) (hs:h.stops=false) :
  χ 187 #[π a.q 0,.agg #[ι 19,ι ia,ι ib,ι ic,ι ii,.slice Q nl q]] w fun e w'=>cM X wx w0 g qs a c (cy h c ⟨19,ia,ib,ic,ii,args⟩) (bR h c ⟨19,ia,ib,ic,ii,args⟩) e w':=by
 have ho:=(aF hs).1
 have HH:=ae H
 have HS:=ae hs
 have hq:=H.qlt
 obtain ⟨L0,L1⟩:=bc w #[ι 19,ι ia,ι ib,ι ic,ι ii,.slice Q nl q] #[ι 0,ι 0] 55 100
 have HB:Θ (Bl w ((w.alloc (.cells #[ι 19,ι ia,ι ib,ι ic,ι ii,.slice Q nl q] 55)).alloc fa)):=((Bl.refl w).alloc _).alloc _
 have dK:=ae L0
 have ey:=ae L1
 have iw:w.heap.size≠a.q:=by omega
 have fT:w.heap.size+1≠a.q:=by omega
 have lv:w.heap.size≠w.heap.size+1:=by omega
 clear L0 L1
 have eH:cy h c ⟨19,ia,ib,ic,ii,args⟩=h.must (decide (c.giv.kind=ib)):=by simp [cy]
 have eV:bR h c ⟨19,ia,ib,ic,ii,args⟩=c.giv:=by simp [bR]
 rw [eH,eV]
 clear eH eV
 obtain ⟨G3,C0⟩:=(H.bl HB.o).cells
 have z1:=ae (dr dK.o)
 have z2:=ae (And.intro C0.c12 C0.c13)
 clear C0
 by_cases e1:c.giv.kind=ib
 ·rw [nW (decide_eq_true e1)]
  have HM:Θ (∀w',χ 144 #[.agg #[ι c.giv.kind,ι (im c.giv).n],ι ib] w' fun e w2=>e=.returned (cm (im c.giv))/\Bl w' w2):=fun w'=>dZ (im c.giv) ib w' e1
  have HE:Θ (∀w',RX 1 X wx w0 g w' h qs a c->cM X wx w0 g qs a c h c.giv (.returned (cm (im c.giv))) w'):=fun w' H=>ea hs rfl H
  clear H hs e1
  go_enter func187,ntmps187
  go_wp2
  refine wp_region_held_drew (S:=fun w'=>κ w' a.q 12 (ι c.giv.kind)/\κ w' a.q 13 (ι (im c.giv).n)/\κ w' w.heap.size 2 (ι ib)) (by kernel_rfl) ?_ (fun aa=>?_)
  ·exact ⟨z2.o.1,z2.o.2,z1.o.2.2.1⟩
  iterate 7 (refine tn rfl (by kernel_rfl) (fun _ _ _ h=>h) (by intro _ h;go_split_ands;go_simp<;>with_reducible rfl) aa ?_;try simp only [aZ])
  refine aY (i:=7) (by kernel_rfl) rfl fun K hK=>?_
  go_simp
  go_at_call 144
  refine (HM.o _).mono ?_
  rintro e w1 ⟨rfl,b1⟩
  have jT:=ae (b1.cell aa.1)
  have ko:=ae (b1.cell aa.2.1)
  have nX:=ae (b1.cell aa.2.2)
  have q1:=ax b1 ey.o
  have c4:=aO q1
  have c5:=aJ q1
  have fz:=aA q1
  replace q1:=ae q1
  replace b1:=ae b1
  go_wp2_with fail
  refine hK.out _ _ (⟨jT.o,ko.o,nX.o⟩) (fun ah=>?_)
  try simp only [aZ]
  refine aY (i:=8) (by kernel_rfl) rfl fun K hK=>?_
  go_wp2_with fail
  refine hK.out _ _ (⟨aD jT.o (Ne.symm fT),aD ko.o (Ne.symm fT),aD nX.o lv⟩) (fun aH=>?_)
  try simp only [aZ]
  refine wpAnyH_done (by kernel_rfl) ?_ _
  go_wp2
  refine bodyPost_ret (results_cell_row rfl _ _ (w.heap.size+1) _ _ _ _ rfl (ba q1.o) underlying100 rfl au) rfl ?_
  exact HE.o _ (HH.o.bl (cT (HB.o.drew.trans b1.o) (by omega) _ _))
 ·rw [iU (decide_eq_false e1)]
  have HM:Θ (∀w',χ 144 #[.agg #[ι c.giv.kind,ι (im c.giv).n],ι ib] w' fun e w2=>e=bF 6 0 0/\Bl w' w2):=fun w'=>jV (im c.giv) ib w' e1
  clear H hs e1
  go_enter func187,ntmps187
  go_wp2
  refine wp_region_held_drew (S:=fun w'=>κ w' a.q 12 (ι c.giv.kind)/\κ w' a.q 13 (ι (im c.giv).n)/\κ w' w.heap.size 2 (ι ib)) (by kernel_rfl) ?_ (fun aa=>?_)
  ·exact ⟨z2.o.1,z2.o.2,z1.o.2.2.1⟩
  iterate 7 (refine tn rfl (by kernel_rfl) (fun _ _ _ h=>h) (by intro _ h;go_split_ands;go_simp<;>with_reducible rfl) aa ?_;try simp only [aZ])
  refine aY (i:=7) (by kernel_rfl) rfl fun K hK=>?_
  go_simp
  go_at_call 144
  refine (HM.o _).mono ?_
  rintro e w1 ⟨rfl,b1⟩
  exact ⟨rfl,fC (aF HS.o).1 rfl (HH.o.bl (HB.o.drew.trans b1)).rs⟩
theorem Aa (qs:List Qb) (a:Mc) (c:aL) (ia ib ic ii:Int) (args:List Int) (Q:Option Addr) (nl q:Nat) (w:World) (H:RX 1 X wx w0 g w h qs a c) (hs:h.stops=false) :
  χ 187 #[π a.q 0,.agg #[ι 22,ι ia,ι ib,ι ic,ι ii,.slice Q nl q]] w fun e w'=>cM X wx w0 g qs a c (cy h c ⟨22,ia,ib,ic,ii,args⟩) (bR h c ⟨22,ia,ib,ic,ii,args⟩) e w':=by
 have ho:=(aF hs).1
 have HH:=ae H
 have HS:=ae hs
 have hq:=H.qlt
 obtain ⟨L0,L1⟩:=bc w #[ι 22,ι ia,ι ib,ι ic,ι ii,.slice Q nl q] #[ι 0,ι 0] 55 100
 have HB:Θ (Bl w ((w.alloc (.cells #[ι 22,ι ia,ι ib,ι ic,ι ii,.slice Q nl q] 55)).alloc fa)):=((Bl.refl w).alloc _).alloc _
 have dK:=ae L0
 have ey:=ae L1
 have iw:w.heap.size≠a.q:=by omega
 have fT:w.heap.size+1≠a.q:=by omega
 have lv:w.heap.size≠w.heap.size+1:=by omega
 clear L0 L1
 have eH:cy h c ⟨22,ia,ib,ic,ii,args⟩=h.must (isRef c.cau):=by simp [cy]
 have eV:bR h c ⟨22,ia,ib,ic,ii,args⟩=c.cau:=by simp [bR]
 rw [eH,eV]
 clear eH eV
 obtain ⟨G3,C0⟩:=(H.bl HB.o).cells
 have z2:=C0.c14
 have z3:=C0.c15
 clear C0
 by_cases e1:c.cau.kind=3
 ·rw [nW (by unfold isRef;exact decide_eq_true e1)]
  have HM:Θ (∀w',χ 144 #[.agg #[ι c.cau.kind,ι (im c.cau).n],ι 3] w' fun e w2=>e=.returned (cm (im c.cau))/\Bl w' w2):=fun w'=>dZ (im c.cau) 3 w' e1
  have HE:Θ (∀w',RX 1 X wx w0 g w' h qs a c->cM X wx w0 g qs a c h c.cau (.returned (cm (im c.cau))) w'):=fun w' H=>ea hs rfl H
  clear H hs e1
  go_enter func187,ntmps187
  go_wp2_with (go_at_call 144;refine (HM.o _).mono ?_;rintro e w1 ⟨rfl,b1⟩;have q1:=ax b1 ey.o;have c4:=aO q1;have c5:=aJ q1;have fz:=aA q1;replace q1:=ae q1;replace b1:=ae b1)
  refine bodyPost_ret (results_cell_row rfl _ _ (w.heap.size+1) _ _ _ _ rfl (ba q1.o) underlying100 rfl au) rfl ?_
  exact HE.o _ (HH.o.bl (cT (HB.o.trans b1.o) (by omega) _ _))
 ·rw [iU (by unfold isRef;exact decide_eq_false e1)]
  have HM:Θ (∀w',χ 144 #[.agg #[ι c.cau.kind,ι (im c.cau).n],ι 3] w' fun e w2=>e=bF 6 0 0/\Bl w' w2):=fun w'=>jV (im c.cau) 3 w' e1
  clear H hs e1
  go_enter func187,ntmps187
  go_wp2_with (go_at_call 144;refine (HM.o _).mono ?_;rintro e w1 ⟨rfl,b1⟩;replace b1:=ae b1)
  exact ⟨rfl,fC (aF HS.o).1 rfl (HH.o.bl (HB.o.trans b1.o)).rs⟩
theorem Ab (qs:List Qb) (a:Mc) (c:aL) (ia ib ic ii:Int) (args:List Int) (Q:Option Addr) (nl q:Nat) (w:World) (H:RX 1 X wx w0 g w h qs a c) (hs:h.stops=false) (hI:aU w0 g.I h.input) (hu:0<=h.sh.used) (hl:h.input.length<=1000000) :
  χ 187 #[π a.q 0,.agg #[ι 24,ι ia,ι ib,ι ic,ι ii,.slice Q nl q]] w fun e w'=>cM X wx w0 g qs a c (cy h c ⟨24,ia,ib,ic,ii,args⟩) (bR h c ⟨24,ia,ib,ic,ii,args⟩) e w':=by
 have ho:=(aF hs).1
 have HH:=ae H
 have HS:=ae hs
 have hq:=H.qlt
 obtain ⟨L0,L1⟩:=bc w #[ι 24,ι ia,ι ib,ι ic,ι ii,.slice Q nl q] #[ι 0,ι 0] 55 100
 have HB:Θ (Bl w ((w.alloc (.cells #[ι 24,ι ia,ι ib,ι ic,ι ii,.slice Q nl q] 55)).alloc fa)):=((Bl.refl w).alloc _).alloc _
 have dK:=ae L0
 have ey:=ae L1
 have iw:w.heap.size≠a.q:=by omega
 have fT:w.heap.size+1≠a.q:=by omega
 have lv:w.heap.size≠w.heap.size+1:=by omega
 clear L0 L1
 have eH:cy h c ⟨24,ia,ib,ic,ii,args⟩=h.input':=by simp [cy,givesH]
 have eV:bR h c ⟨24,ia,ib,ic,ii,args⟩=h.inV:=by simp [bR,aG]
 rw [eH,eV]
 clear eH eV
 obtain ⟨G3,C0⟩:=(H.bl HB.o).cells
 have z2:=C0.c1
 clear C0
 cases hd:h.dry with
 | true =>
  have e1:h.input'=h.fin 3:=by unfold Hp.input';rw [if_pos hd]
  rw [e1]
  generalize h.inV=V
  have HR:Θ (∀X wx w,RX 1 X wx w0 g w h qs a c->χ 151 #[π g.r 0] w fun e w'=>e=bF 3 0 0/\RX 1 X wx w0 g w' h qs a c):=fun X wx w H=>NN 1 X wx w0 g h qs a c w H hd
  clear H hs e1 hd hI hu hl
  go_enter func187,ntmps187
  go_wp2_with (go_at_call 151;refine (HH.o.y.useY HB.o HR.o).mono ?_;rintro e w1 ⟨rfl,H1,K1⟩;clear K1;replace H1:=ae H1)
  exact ⟨rfl,fC (aF HS.o).1 rfl H1.o.x.rs⟩
 | false =>
  have e1:h.input'=h.uses:=by unfold Hp.input' Hp.uses;rw [if_neg (by rw [hd];decide)]
  have e2:h.inV=⟨2,nth 0 h.input h.sh.used.toNat⟩:=by unfold Hp.inV;rw [if_neg (by rw [hd];decide)]
  rw [e1,e2]
  have tt:h.uses.stops=false:=hs
  have HR:=ae (fun X wx w (H:RX 1 X wx w0 g w h qs a c)=>Kw 1 X wx w0 g h qs a c w H hI hd hu hl)
  have HE:Θ (∀w',RX 1 X wx w0 g w' h.uses qs a c->cM X wx w0 g qs a c h.uses ⟨2,nth 0 h.input h.sh.used.toNat⟩ (.returned (cm ⟨2,nth 0 h.input h.sh.used.toNat⟩)) w'):=fun w' H=>ea tt rfl H
  clear H hs e1 e2 hd hI hu hl tt
  go_enter func187,ntmps187
  go_wp2_with (go_at_call 151;refine (HH.o.y.useY HB.o HR.o).mono ?_;rintro e w1 ⟨rfl,H1,K1⟩;have q1:=K1.at (Xp.new (Nat.le_succ _) (dg w _ _)) ey.o;have c4:=aO q1;have c5:=aJ q1;have fz:=aA q1;clear K1;replace H1:=ae H1;replace q1:=ae q1)
  refine bodyPost_ret (results_cell_row rfl _ _ (w.heap.size+1) _ _ _ _ rfl (ba q1.o) underlying100 rfl au) rfl ?_
  refine HE.o _ (dz.x (dz.set (dz.set H1.o ?_ 0 _) ?_ 1 _))<;>exact (Xp.new (Nat.le_succ _) (dg w _ _))
end
end
section
open Go.Maps (Keyed has)
theorem get_at {s:Nat} {qs:List Qb} (H:RX s X wx w0 g w h qs a c) (hz:h.of v ⟨3,(cc:Int)⟩=true) (hm:h.mustB true=true) (hn:¬v.n<0) (hv:v.n<h.objs.length) (ny:k<(nth bL h.file.classes cc).fields.length) :
  ∃o j:Nat,v.n=o/\o<h.objs.length/\j<(nth cF h.objs o).held.length/\eB (nth cF h.objs o).held (cc:Int) (k:Int)=j/\(nth cE (nth cF h.objs o).held j).cls=cc/\(nth cE (nth cF h.objs o).held j).fld=k/\h.getV v cc k=(nth cE (nth cF h.objs o).held j).v:=by
 obtain ⟨o,ox⟩:∃o:Nat,v.n=o:=⟨v.n.toNat,by omega⟩
 have Bf:o<h.objs.length:=by omega
 have G4:h.obj v.n=nth cF h.objs o:=by unfold Hp.obj;rw [ox,Int.toNat_natCast]
 have Um:fu h.file.classes (nth cF h.objs o).cls (cc:Int)=true:=by
  have JR:=hz
  unfold Hp.of at JR
  rw [G4] at JR
  simp [hn] at JR
  exact JR.2
 obtain ⟨j,j1,j2,j3,j4,j5⟩:=H.find Bf Um ny
 have SE:h.getV v cc k=(nth cE (nth cF h.objs o).held j).v:=by
  have TW:h.findN v cc k=j:=by
   unfold Hp.findN
   rw [hz,if_pos hm,if_neg hn,G4]
   exact j2
  unfold Hp.getV
  rw [TW,if_neg (by omega),G4,Int.toNat_natCast]
 exact ⟨o,j,ox,Bf,j1,j2,j3,j4,SE⟩
section
variable (X:Nat->Prop) (wx w0:World) (g:Mg) (h:Hp)
theorem Ae (qs:List Qb) (a:Mc) (c:aL) (ia ib ic ii:Int) (args:List Int) (Q:Option Addr) (nl q:Nat) (w:World) (H:RX 1 X wx w0 g w h qs a c) (hs:h.stops=false) (hb:0<=ib/\ib<c.locs.length) (F:Fix w0 g h) (eT:h.objs.length<=100) (hvg:(c.rd ib).kind=3->-1<=(c.rd ib).n/\(c.rd ib).n<h.objs.length) :
  χ 187 #[π a.q 0,.agg #[ι 17,ι ia,ι ib,ι ic,ι ii,.slice Q nl q]] w fun e w'=>cM X wx w0 g qs a c (cy h c ⟨17,ia,ib,ic,ii,args⟩) (bR h c ⟨17,ia,ib,ic,ii,args⟩) e w':=by
 have ho:=(aF hs).1
 have HH:=ae H
 have HS:=ae hs
 have hq:=H.qlt
 obtain ⟨L0,L1⟩:=bc w #[ι 17,ι ia,ι ib,ι ic,ι ii,.slice Q nl q] #[ι 0,ι 0] 55 100
 have HB:Θ (Bl w ((w.alloc (.cells #[ι 17,ι ia,ι ib,ι ic,ι ii,.slice Q nl q] 55)).alloc fa)):=((Bl.refl w).alloc _).alloc _
 have dK:=ae L0
 have ey:=ae L1
 have iw:w.heap.size≠a.q:=by omega
 have fT:w.heap.size+1≠a.q:=by omega
 have lv:w.heap.size≠w.heap.size+1:=by omega
 clear L0 L1
 have z0:=ae (H.y.bl HB.o).hb
 have z1:=ae (dr dK.o)
 by_cases e1:(c.rd ib).kind=3
 ·have eH:cy h c ⟨17,ia,ib,ic,ii,args⟩=h:=by simp [cy,givesH,de e1,ho,isRef,e1,nW]
  have eV:bR h c ⟨17,ia,ib,ic,ii,args⟩=⟨1,if (decide (0<=(c.rd ib).n)&&fu h.file.classes (h.obj (c.rd ib).n).cls ic)=true then 1 else 0⟩:=by simp [bR,aG,de e1,ho,Hp.isV,isRef,e1,Hp.mustB]
  rw [eH,eV]
  have HR:Θ (∀w',RX 1 X wx w0 g w' h qs a c->χ 131 #[π a.q 0,ι ib,ι 3] w' fun e w2=>e=.returned (cm (im (c.rd ib)))/\Bl w' w2):=fun w' H=>fj 1 X wx w0 g h qs a c ib 3 w' H hb (by omega) (fun x=>by omega) e1
  have HF:=ae (And.intro F eT)
  have HV:=ae (And.intro e1 (hvg e1))
  have HG:Θ (∀w',RX 1 X wx w0 g w' h qs a c->χ 154 #[π g.hb 0,cm (im (c.rd ib)),ι ic] w' fun e w2=>e=.returned (.bool (decide (0<=(c.rd ib).n)&&fu h.file.classes (h.obj (c.rd ib).n).cls ic))/\Bl w' w2):=fun w' H=>qT g h (c.rd ib) ic w' (H.rd F eT) e1 (hvg e1).1 (hvg e1).2
  generalize (decide (0<=(c.rd ib).n)&&fu h.file.classes (h.obj (c.rd ib).n).cls ic)=bb at *
  generalize im (c.rd ib)=U at *
  have Y9:Θ (∀w',χ 197 #[.bool bb] w' fun e w2=>e=.returned (cm ⟨1,if bb=true then 1 else 0⟩)/\Bl w' w2):=fun w'=>CT bb w'
  generalize (if bb=true then (1:Int) else 0)=tb at *
  have HE:Θ (∀w',RX 1 X wx w0 g w' h qs a c->cM X wx w0 g qs a c h ⟨1,tb⟩ (.returned (cm ⟨1,tb⟩)) w'):=fun w' H=>ea hs rfl H
  clear H hs eH eV hb F eT hvg e1
  go_enter func187,ntmps187
  go_wp2
  refine wp_region_held_drew (S:=fun w'=>κ w' a.q 0 (π g.hb 0)/\κ w' w.heap.size 2 (ι ib)/\κ w' w.heap.size 3 (ι ic)) (by kernel_rfl) ?_ (fun aa=>?_)
  ·exact ⟨z0.o,z1.o.2.2.1,z1.o.2.2.2.1⟩
  iterate 9 (refine tn rfl (by kernel_rfl) (fun _ _ _ h=>h) (by intro _ h;go_split_ands;go_simp<;>with_reducible rfl) aa ?_;try simp only [aZ])
  refine aY (i:=7) (by kernel_rfl) rfl fun K hK=>?_
  go_simp
  go_at_call 131
  refine (HR.o _ (HH.o.bl (HB.o.drew))).mono ?_
  rintro e w1 ⟨rfl,b1⟩
  have jT:=ae (b1.cell aa.1)
  have ko:=ae (b1.cell aa.2.1)
  have nX:=ae (b1.cell aa.2.2)
  replace b1:=ae b1
  go_wp2_with fail
  refine hK.out _ _ (⟨jT.o,ko.o,nX.o⟩) (fun ah=>?_)
  try simp only [aZ]
  refine aY (i:=10) (by kernel_rfl) rfl fun K hK=>?_
  go_simp
  go_at_call 154
  refine (HG.o _ (HH.o.bl (HB.o.drew.trans b1.o))).mono ?_
  rintro e w2 ⟨rfl,b2⟩
  have o0:=ae (b2.cell ah.1)
  have rM:=ae (b2.cell ah.2.1)
  have xZ:=ae (b2.cell ah.2.2)
  replace b2:=ae b2
  go_wp2_with fail
  refine hK.out _ _ (⟨o0.o,rM.o,xZ.o⟩) (fun aH=>?_)
  try simp only [aZ]
  refine aY (i:=11) (by kernel_rfl) rfl fun K hK=>?_
  go_simp
  go_at_call 197
  refine (Y9.o _).mono ?_
  rintro e w3 ⟨rfl,b3⟩
  have GU:=ae (b3.cell aH.1)
  have GV:=ae (b3.cell aH.2.1)
  have M6:=ae (b3.cell aH.2.2)
  replace b3:=ae b3
  have bb3:=ae (((HB.o.drew.trans b1.o).trans b2.o).trans b3.o)
  have q1:=ax ((b1.o.trans b2.o).trans b3.o) ey.o
  have c4:=aO q1
  have c5:=aJ q1
  have fz:=aA q1
  replace q1:=ae q1
  go_wp2_with fail
  refine hK.out _ _ (⟨GU.o,GV.o,M6.o⟩) (fun bG=>?_)
  try simp only [aZ]
  refine aY (i:=12) (by kernel_rfl) rfl fun K hK=>?_
  go_wp2_with fail
  refine hK.out _ _ (⟨aD GU.o (Ne.symm fT),aD GV.o lv,aD M6.o lv⟩) (fun bd=>?_)
  try simp only [aZ]
  refine wpAnyH_done (by kernel_rfl) ?_ _
  go_wp2
  refine bodyPost_ret (results_cell_row rfl _ _ (w.heap.size+1) _ _ _ _ rfl (ba q1.o) underlying100 rfl au) rfl ?_
  exact HE.o _ (HH.o.bl (cT bb3.o (by omega) _ _))
 ·have eH:cy h c ⟨17,ia,ib,ic,ii,args⟩=h.fin 6:=by simp [cy,givesH,fO e1,(mv ho 6).1]
  rw [eH]
  have HR:Θ (∀w',RX 1 X wx w0 g w' h qs a c->χ 131 #[π a.q 0,ι ib,ι 3] w' fun e w2=>e=bF 6 0 0/\Bl w' w2):=fun w' H=>jI 1 X wx w0 g h qs a c ib 3 w' H hb (by omega) (fun x=>by omega) e1
  generalize bR h c ⟨17,ia,ib,ic,ii,args⟩=V
  clear H hs eH hb F eT hvg e1
  go_enter func187,ntmps187
  go_wp2
  refine wp_region_held_drew (S:=fun w'=>κ w' a.q 0 (π g.hb 0)/\κ w' w.heap.size 2 (ι ib)/\κ w' w.heap.size 3 (ι ic)) (by kernel_rfl) ?_ (fun aa=>?_)
  ·exact ⟨z0.o,z1.o.2.2.1,z1.o.2.2.2.1⟩
  iterate 9 (refine tn rfl (by kernel_rfl) (fun _ _ _ h=>h) (by intro _ h;go_split_ands;go_simp<;>with_reducible rfl) aa ?_;try simp only [aZ])
  refine aY (i:=7) (by kernel_rfl) rfl fun K hK=>?_
  go_simp
  go_at_call 131
  refine (HR.o _ (HH.o.bl (HB.o.drew))).mono ?_
  rintro e w1 ⟨rfl,b1⟩
  exact ⟨rfl,fC (aF HS.o).1 rfl (HH.o.bl (HB.o.drew.trans b1)).rs⟩
theorem Af (qs:List Qb) (a:Mc) (c:aL) (ia ib ic ii:Int) (args:List Int) (Q:Option Addr) (nl q:Nat) (w:World) (H:RX 1 X wx w0 g w h qs a c) (hs:h.stops=false) (hb:0<=ib/\ib<c.locs.length) (F:Fix w0 g h) (eT:h.objs.length<=100) (hvg:(c.rd ib).kind=3->-1<=(c.rd ib).n/\(c.rd ib).n<h.objs.length) (hfl:0<=ic/\ic<h.file.classes.length/\0<=ii/\ii<(nth bL h.file.classes ic.toNat).fields.length) :
  χ 187 #[π a.q 0,.agg #[ι 14,ι ia,ι ib,ι ic,ι ii,.slice Q nl q]] w fun e w'=>cM X wx w0 g qs a c (cy h c ⟨14,ia,ib,ic,ii,args⟩) (bR h c ⟨14,ia,ib,ic,ii,args⟩) e w':=by
 obtain ⟨cc,rfl⟩:∃cc:Nat,ic=cc:=⟨ic.toNat,by omega⟩
 obtain ⟨k,rfl⟩:∃k:Nat,ii=k:=⟨ii.toNat,by omega⟩
 rw [Int.toNat_natCast] at hfl
 have hc:cc<h.file.classes.length:=by omega
 have ny:k<(nth bL h.file.classes cc).fields.length:=by omega
 have ho:=(aF hs).1
 have HH:=ae H
 have HS:=ae hs
 have hq:=H.qlt
 obtain ⟨L0,L1⟩:=bc w #[ι 14,ι ia,ι ib,ι (cc:Int),ι (k:Int),.slice Q nl q] #[ι 0,ι 0] 55 100
 have HB:Θ (Bl w ((w.alloc (.cells #[ι 14,ι ia,ι ib,ι (cc:Int),ι (k:Int),.slice Q nl q] 55)).alloc fa)):=((Bl.refl w).alloc _).alloc _
 have dK:=ae L0
 have ey:=ae L1
 have iw:w.heap.size≠a.q:=by omega
 have fT:w.heap.size+1≠a.q:=by omega
 have lv:w.heap.size≠w.heap.size+1:=by omega
 clear L0 L1
 have z0:=ae (H.y.bl HB.o).hb
 have z1:=ae (dr dK.o)
 have TK:(1:Int)<=(⟨3,(cc:Int)⟩:Ty).kind/\(⟨3,(cc:Int)⟩:Ty).kind<=3:=⟨by show (1:Int)<=3;decide,by show (3:Int)<=3;decide⟩
 have T2:(⟨3,(cc:Int)⟩:Ty).kind=2->ib+1<c.locs.length:=fun x=>by have:(3:Int)=2:=x;omega
 cases hz:h.of (c.rd ib) ⟨3,(cc:Int)⟩ with
 | false =>
  have eH:cy h c ⟨14,ia,ib,(cc:Int),(k:Int),args⟩=h.fin 6:=by
   have e0:cy h c ⟨14,ia,ib,(cc:Int),(k:Int),args⟩=(if (h.rdH c ib 3).over=true then h.rdH c ib 3 else (h.rdH c ib 3).findH (c.rd ib) cc):=by simp [cy,givesH]
   rw [e0]
   by_cases e1:(c.rd ib).kind=3
   ·rw [de e1,if_neg (by rw [ho];decide)]
    unfold Hp.findH Hp.mustB
    rw [hz,Bool.false_and,if_neg (by decide),iU rfl]
   ·rw [fO e1,if_pos (mv ho 6).1]
  rw [eH]
  have HT:Θ (∀w',RX 1 X wx w0 g w' h qs a c->χ 183 #[π a.q 0,ι ib,iC ⟨3,(cc:Int)⟩] w' fun e w2=>e=bF 6 0 0/\Bl w' w2):=fun w' H=>rL 1 X wx w0 g h qs a c ib ⟨3,(cc:Int)⟩ w' H F eT hb TK T2 hvg hz
  generalize bR h c ⟨14,ia,ib,(cc:Int),(k:Int),args⟩=V
  clear H hs eH hb F eT hvg hz hfl hc ny TK T2
  go_enter func187,ntmps187
  go_wp2
  refine wp_region_held_drew (S:=fun w'=>κ w' a.q 0 (π g.hb 0)/\κ w' w.heap.size 2 (ι ib)/\κ w' w.heap.size 3 (ι (cc:Int))/\κ w' w.heap.size 4 (ι (k:Int))) (by kernel_rfl) ?_ (fun aa=>?_)
  ·exact ⟨z0.o,z1.o.2.2.1,z1.o.2.2.2.1,z1.o.2.2.2.2.1⟩
  iterate 13 (refine tn rfl (by kernel_rfl) (fun _ _ _ h=>h) (by intro _ h;go_split_ands;go_simp<;>with_reducible rfl) aa ?_;try simp only [aZ])
  refine aY (i:=9) (by kernel_rfl) rfl fun K hK=>?_
  go_simp
  go_at_call 185
  refine (fB (cc:Int) _).mono ?_
  rintro e w1 ⟨rfl,b1⟩
  have jT:=ae (b1.cell aa.1)
  have ko:=ae (b1.cell aa.2.1)
  have nX:=ae (b1.cell aa.2.2.1)
  have GR:=ae (b1.cell aa.2.2.2)
  replace b1:=ae b1
  go_wp2_with fail
  refine hK.out _ _ (⟨jT.o,ko.o,nX.o,GR.o⟩) (fun ah=>?_)
  try simp only [aZ]
  refine aY (i:=10) (by kernel_rfl) rfl fun K hK=>?_
  go_simp
  go_at_call 183
  refine (HT.o _ (HH.o.bl (HB.o.drew.trans b1.o))).mono ?_
  rintro e w2 ⟨rfl,b2⟩
  exact ⟨rfl,fC (aF HS.o).1 rfl (HH.o.bl ((HB.o.drew.trans b1.o).trans b2)).rs⟩
 | true =>
  have e1:(c.rd ib).kind=3:=kD hz
  have oz:=hvg e1
  have hm:h.mustB true=true:=by unfold Hp.mustB;rw [ho];rfl
  have e0:cy h c ⟨14,ia,ib,(cc:Int),(k:Int),args⟩=h.findH (c.rd ib) cc:=by simp [cy,givesH,de e1,ho]
  have e2:bR h c ⟨14,ia,ib,(cc:Int),(k:Int),args⟩=h.getV (c.rd ib) cc k:=by simp [bR,aG,de e1,ho]
  rw [e0,e2]
  have HT:Θ (∀w',RX 1 X wx w0 g w' h qs a c->χ 183 #[π a.q 0,ι ib,iC ⟨3,(cc:Int)⟩] w' fun e w2=>e=.returned (cm (im (c.rd ib)))/\Bl w' w2):=fun w' H=>jJ 1 X wx w0 g h qs a c ib ⟨3,(cc:Int)⟩ w' H F eT hb TK T2 hvg hz
  by_cases hn:(c.rd ib).n<0
  ·have eg:h.findH (c.rd ib) cc=h.raise 1:=by unfold Hp.findH;rw [hz,if_pos hm,if_pos hn]
   rw [eg]
   obtain ⟨ch,hch⟩:=jm h
   have HG:Θ (∀w',RX 1 X wx w0 g w' h qs a c->χ 196 #[π g.hb 0,cm (im (c.rd ib)),ι (cc:Int),ι (k:Int)] w' fun e w2=>e=.panicked ch/\RX 1 X wx w0 g w2 (h.raise 1) qs a c):=fun w' H=>hch▸GZ 1 X wx w0 g h qs a c (c.rd ib) cc k w' H eT ho e1 (by omega)
   generalize h.getV (c.rd ib) cc k=V
   have HE:Θ (∀w',RX 1 X wx w0 g w' (h.raise 1) qs a c->cM X wx w0 g qs a c (h.raise 1) V (.panicked ch) w'):=fun w' H=>hch▸tN hs rfl H.rs
   generalize im (c.rd ib)=U at *
   clear H hs e0 e2 eg hb F eT hvg hz hfl hc ny TK T2 e1 oz hm hn hch
   go_enter func187,ntmps187
   go_wp2
   refine wp_region_held_drew (S:=fun w'=>κ w' a.q 0 (π g.hb 0)/\κ w' w.heap.size 2 (ι ib)/\κ w' w.heap.size 3 (ι (cc:Int))/\κ w' w.heap.size 4 (ι (k:Int))) (by kernel_rfl) ?_ (fun aa=>?_)
   ·exact ⟨z0.o,z1.o.2.2.1,z1.o.2.2.2.1,z1.o.2.2.2.2.1⟩
   iterate 13 (refine tn rfl (by kernel_rfl) (fun _ _ _ h=>h) (by intro _ h;go_split_ands;go_simp<;>with_reducible rfl) aa ?_;try simp only [aZ])
   refine aY (i:=9) (by kernel_rfl) rfl fun K hK=>?_
   go_simp
   go_at_call 185
   refine (fB (cc:Int) _).mono ?_
   rintro e w1 ⟨rfl,b1⟩
   have jT:=ae (b1.cell aa.1)
   have ko:=ae (b1.cell aa.2.1)
   have nX:=ae (b1.cell aa.2.2.1)
   have GR:=ae (b1.cell aa.2.2.2)
   replace b1:=ae b1
   go_wp2_with fail
   refine hK.out _ _ (⟨jT.o,ko.o,nX.o,GR.o⟩) (fun ah=>?_)
   try simp only [aZ]
   refine aY (i:=10) (by kernel_rfl) rfl fun K hK=>?_
   go_simp
   go_at_call 183
   refine (HT.o _ (HH.o.bl (HB.o.drew.trans b1.o))).mono ?_
   rintro e w2 ⟨rfl,b2⟩
   have o0:=ae (b2.cell ah.1)
   have rM:=ae (b2.cell ah.2.1)
   have xZ:=ae (b2.cell ah.2.2.1)
   have Ov:=ae (b2.cell ah.2.2.2)
   replace b2:=ae b2
   go_wp2_with fail
   refine hK.out _ _ (⟨o0.o,rM.o,xZ.o,Ov.o⟩) (fun aH=>?_)
   try simp only [aZ]
   refine aY (i:=15) (by kernel_rfl) rfl fun K hK=>?_
   go_simp
   go_at_call 196
   refine (HG.o _ (HH.o.bl ((HB.o.drew.trans b1.o).trans b2.o))).mono ?_
   rintro e w3 ⟨rfl,H3⟩
   exact ⟨rfl,HE.o _ H3⟩
  ·have eg:h.findH (c.rd ib) cc=h:=by unfold Hp.findH;rw [hz,if_pos hm,if_neg hn]
   rw [eg]
   obtain ⟨o,j,ox,Bf,j1,j2,j3,j4,SE⟩:=get_at H hz hm hn oz.2 ny
   have QS:im (c.rd ib)=⟨3,(o:Int)+1⟩:=by rw [gp e1,ox]
   have HG:Θ (∀X wx w',RX 1 X wx w0 g w' h qs a c->χ 196 #[π g.hb 0,cm (im (c.rd ib)),ι (cc:Int),ι (k:Int)] w' fun e w2=>e=.returned (cm (im (h.getV (c.rd ib) cc k)))/\RX 1 X wx w0 g w2 h qs a c):=fun X wx w' H=>QS.symm▸SE.symm▸G0 1 X wx w0 g h qs a c o cc k j w' H F eT Bf hc ny j1 j3 j4
   generalize h.getV (c.rd ib) cc k=V at *
   have HE:Θ (∀w',RX 1 X wx w0 g w' h qs a c->cM X wx w0 g qs a c h V (.returned (cm (im V))) w'):=fun w' H=>ea hs rfl H
   generalize im V=VI at *
   generalize im (c.rd ib)=U at *
   clear H hs e0 e2 eg hb F eT hvg hz hfl hc ny TK T2 e1 oz hm hn QS SE j1 j2 j3 j4 ox Bf
   go_enter func187,ntmps187
   go_wp2
   refine wp_region_held_drew (S:=fun w'=>κ w' a.q 0 (π g.hb 0)/\κ w' w.heap.size 2 (ι ib)/\κ w' w.heap.size 3 (ι (cc:Int))/\κ w' w.heap.size 4 (ι (k:Int))) (by kernel_rfl) ?_ (fun aa=>?_)
   ·exact ⟨z0.o,z1.o.2.2.1,z1.o.2.2.2.1,z1.o.2.2.2.2.1⟩
   iterate 13 (refine tn rfl (by kernel_rfl) (fun _ _ _ h=>h) (by intro _ h;go_split_ands;go_simp<;>with_reducible rfl) aa ?_;try simp only [aZ])
   refine aY (i:=9) (by kernel_rfl) rfl fun K hK=>?_
   go_simp
   go_at_call 185
   refine (fB (cc:Int) _).mono ?_
   rintro e w1 ⟨rfl,b1⟩
   have jT:=ae (b1.cell aa.1)
   have ko:=ae (b1.cell aa.2.1)
   have nX:=ae (b1.cell aa.2.2.1)
   have GR:=ae (b1.cell aa.2.2.2)
   replace b1:=ae b1
   go_wp2_with fail
   refine hK.out _ _ (⟨jT.o,ko.o,nX.o,GR.o⟩) (fun ah=>?_)
   try simp only [aZ]
   refine aY (i:=10) (by kernel_rfl) rfl fun K hK=>?_
   go_simp
   go_at_call 183
   refine (HT.o _ (HH.o.bl (HB.o.drew.trans b1.o))).mono ?_
   rintro e w2 ⟨rfl,b2⟩
   have o0:=ae (b2.cell ah.1)
   have rM:=ae (b2.cell ah.2.1)
   have xZ:=ae (b2.cell ah.2.2.1)
   have Ov:=ae (b2.cell ah.2.2.2)
   replace b2:=ae b2
   go_wp2_with fail
   refine hK.out _ _ (⟨o0.o,rM.o,xZ.o,Ov.o⟩) (fun aH=>?_)
   try simp only [aZ]
   refine aY (i:=15) (by kernel_rfl) rfl fun K hK=>?_
   go_simp
   go_at_call 196
   refine (HH.o.y.useY ((HB.o.drew.trans b1.o).trans b2.o) HG.o).mono ?_
   rintro e w3 ⟨rfl,H3,K3⟩
   have x0:=K3.at (Xp.new (Nat.le_refl _) (af (ax (b1.o.trans b2.o) dK.o))) (ax (b1.o.trans b2.o) dK.o)
   have q1:=K3.at (Xp.new (Nat.le_succ _) (af (ax (b1.o.trans b2.o) ey.o))) (ax (b1.o.trans b2.o) ey.o)
   have vm:=ae (af (ax (b1.o.trans b2.o) ey.o))
   have GU:=ae H3.hb
   have GV:=ae (dr x0).2.2.1
   have M6:=ae (dr x0).2.2.2.1
   have QR:=ae (dr x0).2.2.2.2.1
   have c4:=aO q1
   have c5:=aJ q1
   have fz:=aA q1
   replace q1:=ae q1
   replace H3:=ae H3
   clear K3 x0
   go_wp2_with fail
   refine hK.out _ _ (⟨GU.o,GV.o,M6.o,QR.o⟩) (fun bG=>?_)
   try simp only [aZ]
   refine aY (i:=16) (by kernel_rfl) rfl fun K hK=>?_
   go_wp2_with fail
   refine hK.out _ _ (⟨aD GU.o (Ne.symm fT),aD GV.o lv,aD M6.o lv,aD QR.o lv⟩) (fun bd=>?_)
   try simp only [aZ]
   refine wpAnyH_done (by kernel_rfl) ?_ _
   go_wp2
   refine bodyPost_ret (results_cell_row rfl _ _ (w.heap.size+1) _ _ _ _ rfl (ba q1.o) underlying100 rfl au) rfl ?_
   refine HE.o _ (dz.x (dz.set (dz.set H3.o ?_ 0 _) ?_ 1 _))<;>exact Xp.new (Nat.le_succ _) vm.o
end
end
section
open Go.Maps (Keyed has)
theorem La {w':World} {qs:List Qb} {c':aL} {nx n:Int} (hs:h.stops=false) (hn:0<=n) (H:RS 0 X wx w0 g w' h qs a c):iT X wx w0 g qs a c ⟨{ h with thrown:=n },c',nx⟩ (vp n) w':=by
 obtain ⟨ho,-⟩:=aF hs
 refine ⟨?_,fun _=>H.eqv ⟨rfl,rfl,rfl,rfl,rfl,rfl,rfl⟩,fun q=>?_⟩
 ·unfold mV;dsimp only;rw [if_neg (by rw [ho];decide),if_pos hn]
 ·simp [Hp.stops,hn] at q
section
variable (X:Nat->Prop) (wx w0:World) (g:Mg) (h:Hp)
theorem DH (qs:List Qb) (a:Mc) (c:aL) (ia ib ic ii:Int) (args:List Int) (Q:Option Addr) (nl q:Nat) (w:World) (H:RX 1 X wx w0 g w h qs a c) (hs:h.stops=false) (ha:0<=ia/\ia<c.locs.length) (F:Fix w0 g h) (eT:h.objs.length<=100) (hvg:(c.rd ia).kind=3->-1<=(c.rd ia).n/\(c.rd ia).n<h.objs.length) :
  χ 134 #[π a.q 0,.agg #[ι 16,ι ia,ι ib,ι ic,ι ii,.slice Q nl q]] w fun e w'=>iT X wx w0 g qs a c (bV h c ⟨16,ia,ib,ic,ii,args⟩) e w':=by
 have ho:=(aF hs).1
 have HH:=ae H
 have HS:=ae hs
 have hq:=H.qlt
 have HB:Θ (Bl w (w.alloc (.cells #[ι 16,ι ia,ι ib,ι ic,ι ii,.slice Q nl q] 55))):=(Bl.refl w).alloc _
 have dK:=ae (aB w #[ι 16,ι ia,ι ib,ι ic,ι ii,.slice Q nl q] 55)
 have z0:=ae ((H.y.bl HB.o).hb)
 have z1:=ae (dr dK.o)
 have hd:bV h c ⟨16,ia,ib,ic,ii,args⟩=⟨if (h.rdH c ia 3).over=true then h.rdH c ia 3 else (h.rdH c ia 3).cast (c.rd ia) ib,c.clr,c.pc+1⟩:=rfl
 rw [hd]
 by_cases e1:(c.rd ia).kind=3
 ·obtain ⟨v1,v2⟩:=hvg e1
  rw [de e1,if_neg (by rw [ho];decide)]
  have ec:h.cast (c.rd ia) ib=if h.of (c.rd ia) ⟨3,ib⟩=true then h else h.raise 3:=by unfold Hp.cast Hp.mustB isRef;rw [decide_eq_true e1,ho];rfl
  rw [ec]
  have HR:Θ (∀w',RX 1 X wx w0 g w' h qs a c->χ 131 #[π a.q 0,ι ia,ι 3] w' fun e w2=>e=.returned (cm (im (c.rd ia)))/\Bl w' w2):=fun w' H=>fj 1 X wx w0 g h qs a c ia 3 w' H ha (by omega) (fun x=>by omega) e1
  have eof:h.of (c.rd ia) ⟨3,ib⟩=(decide ((c.rd ia).n<0)||fu h.file.classes (h.obj (c.rd ia).n).cls ib):=by unfold Hp.of;simp [e1]
  cases hz:h.of (c.rd ia) ⟨3,ib⟩ with
  | true =>
   rw [if_pos rfl]
   have HC:Θ (∀w',RX 1 X wx w0 g w' h qs a c->χ 186 #[π g.hb 0,cm (im (c.rd ia)),ι ib] w' fun e w2=>e=.returned (cm (im (c.rd ia)))/\Bl w' w2):=fun w' H=>by
    by_cases hn:(c.rd ia).n<0
    ·exact FX g.hb (c.rd ia) ib w' e1 (by omega)
    ·rw [eof] at hz
     simp [hn] at hz
     exact FY g h (c.rd ia) ib w' (H.rd F eT) e1 (by omega) v2 hz
   have HE:Θ (∀w',RX 1 X wx w0 g w' h qs a c->iT X wx w0 g qs a c ⟨h,c.clr,c.pc+1⟩ (.returned (.tuple #[])) w'):=fun w' H=>vP hs H.less
   generalize im (c.rd ia)=U at *
   clear H hs hd ec eof hz e1 ha F eT hvg v1 v2
   go_enter func134,ntmps134
   go_wp2
   refine wp_region_held_drew (S:=fun w'=>κ w' a.q 0 (π g.hb 0)/\κ w' w.heap.size 1 (ι ia)/\κ w' w.heap.size 2 (ι ib)) (by kernel_rfl) ?_ (fun aa=>?_)
   ·exact ⟨z0.o,z1.o.2.1,z1.o.2.2.1⟩
   iterate 9 (refine tn rfl (by kernel_rfl) (fun _ _ _ h=>h) (by intro _ h;go_split_ands;go_simp<;>with_reducible rfl) aa ?_;try simp only [aZ])
   refine aY (i:=7) (by kernel_rfl) rfl fun K hK=>?_
   go_simp
   go_at_call 131
   refine (HR.o _ (HH.o.bl (HB.o.drew))).mono ?_
   rintro e w1 ⟨rfl,b1⟩
   have jT:=ae (b1.cell aa.1)
   have ko:=ae (b1.cell aa.2.1)
   have nX:=ae (b1.cell aa.2.2)
   replace b1:=ae b1
   go_wp2_with fail
   refine hK.out _ _ (⟨jT.o,ko.o,nX.o⟩) (fun ah=>?_)
   try simp only [aZ]
   refine aY (i:=10) (by kernel_rfl) rfl fun K hK=>?_
   go_simp
   go_at_call 186
   refine (HC.o _ (HH.o.bl (HB.o.drew.trans b1.o))).mono ?_
   rintro e w2 ⟨rfl,b2⟩
   have o0:=ae (b2.cell ah.1)
   have rM:=ae (b2.cell ah.2.1)
   have xZ:=ae (b2.cell ah.2.2)
   replace b2:=ae b2
   go_wp2_with fail
   refine hK.out _ _ (⟨o0.o,rM.o,xZ.o⟩) (fun aH=>?_)
   try simp only [aZ]
   refine wpAnyH_done (by kernel_rfl) ?_ _
   go_wp2
   go_end0
   exact HE.o _ (HH.o.bl ((HB.o.drew.trans b1.o).trans b2.o))
  | false =>
   rw [if_neg (by decide)]
   rw [eof,Bool.or_eq_false_iff] at hz
   obtain ⟨ch,hch⟩:=jm h
   have HC:Θ (∀w',RX 1 X wx w0 g w' h qs a c->χ 186 #[π g.hb 0,cm (im (c.rd ia)),ι ib] w' fun e w2=>e=.panicked ch/\RX 1 X wx w0 g w2 (h.raise 3) qs a c):=fun w' H=>hch▸Kv 1 X wx w0 g h qs a c (c.rd ia) ib w' H F eT ho e1 (by have:=of_decide_eq_false hz.1;omega) v2 hz.2
   have HE:Θ (∀w',RX 1 X wx w0 g w' (h.raise 3) qs a c->iT X wx w0 g qs a c ⟨h.raise 3,c.clr,c.pc+1⟩ (.panicked ch) w'):=fun w' H=>hch▸ou hs rfl H.less.rs
   generalize im (c.rd ia)=U at *
   clear H hs hd ec eof hz e1 ha F eT hvg v1 v2 hch
   go_enter func134,ntmps134
   go_wp2
   refine wp_region_held_drew (S:=fun w'=>κ w' a.q 0 (π g.hb 0)/\κ w' w.heap.size 1 (ι ia)/\κ w' w.heap.size 2 (ι ib)) (by kernel_rfl) ?_ (fun aa=>?_)
   ·exact ⟨z0.o,z1.o.2.1,z1.o.2.2.1⟩
   iterate 9 (refine tn rfl (by kernel_rfl) (fun _ _ _ h=>h) (by intro _ h;go_split_ands;go_simp<;>with_reducible rfl) aa ?_;try simp only [aZ])
   refine aY (i:=7) (by kernel_rfl) rfl fun K hK=>?_
   go_simp
   go_at_call 131
   refine (HR.o _ (HH.o.bl (HB.o.drew))).mono ?_
   rintro e w1 ⟨rfl,b1⟩
   have jT:=ae (b1.cell aa.1)
   have ko:=ae (b1.cell aa.2.1)
   have nX:=ae (b1.cell aa.2.2)
   replace b1:=ae b1
   go_wp2_with fail
   refine hK.out _ _ (⟨jT.o,ko.o,nX.o⟩) (fun ah=>?_)
   try simp only [aZ]
   refine aY (i:=10) (by kernel_rfl) rfl fun K hK=>?_
   go_simp
   go_at_call 186
   refine (HC.o _ (HH.o.bl (HB.o.drew.trans b1.o))).mono ?_
   rintro e w2 ⟨rfl,H2⟩
   exact ⟨rfl,HE.o _ H2⟩
 ·rw [fO e1,if_pos (mv ho 6).1]
  have HR:Θ (∀w',RX 1 X wx w0 g w' h qs a c->χ 131 #[π a.q 0,ι ia,ι 3] w' fun e w2=>e=bF 6 0 0/\Bl w' w2):=fun w' H=>jI 1 X wx w0 g h qs a c ia 3 w' H ha (by omega) (fun x=>by omega) e1
  clear H hs hd e1 ha F eT hvg
  go_enter func134,ntmps134
  go_wp2
  refine wp_region_held_drew (S:=fun w'=>κ w' a.q 0 (π g.hb 0)/\κ w' w.heap.size 1 (ι ia)/\κ w' w.heap.size 2 (ι ib)) (by kernel_rfl) ?_ (fun aa=>?_)
  ·exact ⟨z0.o,z1.o.2.1,z1.o.2.2.1⟩
  iterate 9 (refine tn rfl (by kernel_rfl) (fun _ _ _ h=>h) (by intro _ h;go_split_ands;go_simp<;>with_reducible rfl) aa ?_;try simp only [aZ])
  refine aY (i:=7) (by kernel_rfl) rfl fun K hK=>?_
  go_simp
  go_at_call 131
  refine (HR.o _ (HH.o.bl (HB.o.drew))).mono ?_
  rintro e w1 ⟨rfl,b1⟩
  exact ⟨rfl,jK (aF HS.o).1 rfl (HH.o.bl (HB.o.drew.trans b1)).less.rs⟩
theorem DI (qs:List Qb) (a:Mc) (c:aL) (ia ib ic ii:Int) (args:List Int) (Q:Option Addr) (nl q:Nat) (w:World) (H:RX 1 X wx w0 g w h qs a c) (hs:h.stops=false) (ha:0<=ia/\ia<c.locs.length) (eT:h.objs.length<=100) (hvg:(c.rd ia).kind=3->-1<=(c.rd ia).n/\(c.rd ia).n<h.objs.length) :
  χ 134 #[π a.q 0,.agg #[ι 21,ι ia,ι ib,ι ic,ι ii,.slice Q nl q]] w fun e w'=>iT X wx w0 g qs a c (bV h c ⟨21,ia,ib,ic,ii,args⟩) e w':=by
 have ho:=(aF hs).1
 have HH:=ae H
 have HS:=ae hs
 have hq:=H.qlt
 have HB:Θ (Bl w (w.alloc (.cells #[ι 21,ι ia,ι ib,ι ic,ι ii,.slice Q nl q] 55))):=(Bl.refl w).alloc _
 have dK:=ae (aB w #[ι 21,ι ia,ι ib,ι ic,ι ii,.slice Q nl q] 55)
 have z0:=ae ((H.y.bl HB.o).hb)
 have z1:=ae (dr dK.o)
 have hd:bV h c ⟨21,ia,ib,ic,ii,args⟩=⟨if (h.rdH c ia 3).over=true then h.rdH c ia 3 else (h.rdH c ia 3).throw (c.rd ia),c.clr,c.pc+1⟩:=rfl
 rw [hd]
 by_cases e1:(c.rd ia).kind=3
 ·obtain ⟨v1,v2⟩:=hvg e1
  rw [de e1,if_neg (by rw [ho];decide)]
  have ec:h.throw (c.rd ia)=if (c.rd ia).n<0 then h.raise 1 else { h with thrown:=(c.rd ia).n }:=by unfold Hp.throw Hp.mustB isRef;rw [decide_eq_true e1,ho];rfl
  rw [ec]
  have HR:Θ (∀w',RX 1 X wx w0 g w' h qs a c->χ 131 #[π a.q 0,ι ia,ι 3] w' fun e w2=>e=.returned (cm (im (c.rd ia)))/\Bl w' w2):=fun w' H=>fj 1 X wx w0 g h qs a c ia 3 w' H ha (by omega) (fun x=>by omega) e1
  obtain ⟨h',ch,he⟩:∃h' ch,(if (c.rd ia).n<0 then h.raise 1 else { h with thrown:=(c.rd ia).n })=h'/\(∀w',RX 1 X wx w0 g w' h qs a c->χ 156 #[π g.hb 0,cm (im (c.rd ia))] w' fun e w2=>e=.panicked ch/\iT X wx w0 g qs a c ⟨h',c.clr,c.pc+1⟩ (.panicked ch) w2):=by
   by_cases hn:(c.rd ia).n<0
   ·obtain ⟨ch,hch⟩:=jm h
    refine ⟨_,ch,if_pos hn,fun w' H=>(hch▸yu 1 X wx w0 g h qs a c (c.rd ia) w' H eT ho e1 (by omega)).mono ?_⟩
    rintro e w2 ⟨rfl,H2⟩
    exact ⟨rfl,hch▸ou hs rfl H2.less.rs⟩
   ·obtain ⟨ch,hch⟩:∃ch,vp (c.rd ia).n=.panicked ch:=⟨_,rfl⟩
    refine ⟨_,ch,if_neg hn,fun w' H=>(mQ g.hb (c.rd ia) e1 (by omega) w').mono ?_⟩
    rintro e w2 ⟨rfl,b2⟩
    exact ⟨hch,hch▸La hs (by omega) (H.bl b2).less.rs⟩
  rw [he.1]
  have HC:=ae he.2
  generalize im (c.rd ia)=U at *
  clear H hs hd ec he e1 ha eT hvg v1 v2
  go_enter func134,ntmps134
  go_wp2
  refine wp_region_held_drew (S:=fun w'=>κ w' a.q 0 (π g.hb 0)/\κ w' w.heap.size 1 (ι ia)) (by kernel_rfl) ?_ (fun aa=>?_)
  ·exact ⟨z0.o,z1.o.2.1⟩
  iterate 7 (refine tn rfl (by kernel_rfl) (fun _ _ _ h=>h) (by intro _ h;go_split_ands;go_simp<;>with_reducible rfl) aa ?_;try simp only [aZ])
  refine aY (i:=7) (by kernel_rfl) rfl fun K hK=>?_
  go_simp
  go_at_call 131
  refine (HR.o _ (HH.o.bl (HB.o.drew))).mono ?_
  rintro e w1 ⟨rfl,b1⟩
  have jT:=ae (b1.cell aa.1)
  have ko:=ae (b1.cell aa.2)
  replace b1:=ae b1
  go_wp2_with fail
  refine hK.out _ _ (⟨jT.o,ko.o⟩) (fun ah=>?_)
  try simp only [aZ]
  refine aY (i:=8) (by kernel_rfl) rfl fun K hK=>?_
  go_simp
  go_at_call 156
  refine (HC.o _ (HH.o.bl (HB.o.drew.trans b1.o))).mono ?_
  rintro e w2 ⟨rfl,q2⟩
  exact ⟨rfl,q2⟩
 ·rw [fO e1,if_pos (mv ho 6).1]
  have HR:Θ (∀w',RX 1 X wx w0 g w' h qs a c->χ 131 #[π a.q 0,ι ia,ι 3] w' fun e w2=>e=bF 6 0 0/\Bl w' w2):=fun w' H=>jI 1 X wx w0 g h qs a c ia 3 w' H ha (by omega) (fun x=>by omega) e1
  clear H hs hd e1 ha eT hvg
  go_enter func134,ntmps134
  go_wp2
  refine wp_region_held_drew (S:=fun w'=>κ w' a.q 0 (π g.hb 0)/\κ w' w.heap.size 1 (ι ia)) (by kernel_rfl) ?_ (fun aa=>?_)
  ·exact ⟨z0.o,z1.o.2.1⟩
  iterate 7 (refine tn rfl (by kernel_rfl) (fun _ _ _ h=>h) (by intro _ h;go_split_ands;go_simp<;>with_reducible rfl) aa ?_;try simp only [aZ])
  refine aY (i:=7) (by kernel_rfl) rfl fun K hK=>?_
  go_simp
  go_at_call 131
  refine (HR.o _ (HH.o.bl (HB.o.drew))).mono ?_
  rintro e w1 ⟨rfl,b1⟩
  exact ⟨rfl,jK (aF HS.o).1 rfl (HH.o.bl (HB.o.drew.trans b1)).less.rs⟩
theorem DJ (qs:List Qb) (a:Mc) (c:aL) (ia ib ic ii:Int) (args:List Int) (Q:Option Addr) (nl q:Nat) (w:World) (H:RX 1 X wx w0 g w h qs a c) (hs:h.stops=false) (ha:0<=ia/\ia<c.locs.length) (hk:1<=ib/\ib<=2) (h2:ib=2->ia+1<c.locs.length) (Ox:h.sh.o.length<=100000) :
  χ 134 #[π a.q 0,.agg #[ι 23,ι ia,ι ib,ι ic,ι ii,.slice Q nl q]] w fun e w'=>iT X wx w0 g qs a c (bV h c ⟨23,ia,ib,ic,ii,args⟩) e w':=by
 have ho:=(aF hs).1
 have HH:=ae H
 have HS:=ae hs
 have hq:=H.qlt
 have HB:Θ (Bl w (w.alloc (.cells #[ι 23,ι ia,ι ib,ι ic,ι ii,.slice Q nl q] 55))):=(Bl.refl w).alloc _
 have dK:=ae (aB w #[ι 23,ι ia,ι ib,ι ic,ι ii,.slice Q nl q] 55)
 have z0:=ae ((H.y.bl HB.o).hb)
 have z1:=ae (dr dK.o)
 obtain ⟨G3,C0⟩:=(H.bl HB.o).cells
 have zr:=ae C0.c1
 clear C0
 have hd:bV h c ⟨23,ia,ib,ic,ii,args⟩=⟨if (h.rdH c ia ib).over=true then h.rdH c ia ib else (h.rdH c ia ib).emit (c.rd ia) ib,c.clr,c.pc+1⟩:=rfl
 rw [hd]
 have pZ:1<=ib/\ib<=3:=by omega
 by_cases e1:(c.rd ia).kind=ib
 ·rw [de e1,if_neg (by rw [ho];decide)]
  have ec:h.emit (c.rd ia) ib=h.outs (c.rd ia).n:=by unfold Hp.emit;rw [if_pos (by unfold Hp.mustB;rw [decide_eq_true e1,ho];rfl)];rfl
  rw [ec]
  have i1:im (c.rd ia)=c.rd ia:=iD (by omega)
  have HR:Θ (∀w',RX 1 X wx w0 g w' h qs a c->χ 131 #[π a.q 0,ι ia,ι ib] w' fun e w2=>e=.returned (cm (im (c.rd ia)))/\Bl w' w2):=fun w' H=>fj 1 X wx w0 g h qs a c ia ib w' H ha pZ h2 e1
  rw [i1] at HR
  have HC:Θ (∀X wx w,RX 1 X wx w0 g w h qs a c->χ 150 #[π g.r 0,cm (c.rd ia)] w fun e w'=>e=.returned (.tuple #[])/\RX 1 X wx w0 g w' (h.outs (c.rd ia).n) qs a c):=fun X wx w H=>C8 1 X wx w0 g h qs a c (c.rd ia) w H Ox
  have tt:(h.outs (c.rd ia).n).stops=false:=hs
  have HE:Θ (∀w',RX 1 X wx w0 g w' (h.outs (c.rd ia).n) qs a c->iT X wx w0 g qs a c ⟨h.outs (c.rd ia).n,c.clr,c.pc+1⟩ (.returned (.tuple #[])) w'):=fun w' H=>vP tt H.less
  generalize h.outs (c.rd ia).n=h' at *
  clear H hs hd ec e1 ha hk pZ h2 Ox i1 tt
  go_enter func134,ntmps134
  go_wp2
  refine wp_region_held_drew (S:=fun w'=>κ w' a.q 1 (π g.r 0)/\κ w' w.heap.size 1 (ι ia)/\κ w' w.heap.size 2 (ι ib)) (by kernel_rfl) ?_ (fun aa=>?_)
  ·exact ⟨zr.o,z1.o.2.1,z1.o.2.2.1⟩
  iterate 9 (refine tn rfl (by kernel_rfl) (fun _ _ _ h=>h) (by intro _ h;go_split_ands;go_simp<;>with_reducible rfl) aa ?_;try simp only [aZ])
  refine aY (i:=9) (by kernel_rfl) rfl fun K hK=>?_
  go_simp
  go_at_call 131
  refine (HR.o _ (HH.o.bl (HB.o.drew))).mono ?_
  rintro e w1 ⟨rfl,b1⟩
  have jT:=ae (b1.cell aa.1)
  have ko:=ae (b1.cell aa.2.1)
  have nX:=ae (b1.cell aa.2.2)
  replace b1:=ae b1
  go_wp2_with fail
  refine hK.out _ _ (⟨jT.o,ko.o,nX.o⟩) (fun ah=>?_)
  try simp only [aZ]
  refine aY (i:=10) (by kernel_rfl) rfl fun K hK=>?_
  go_simp
  go_at_call 150
  refine (HH.o.y.useY (HB.o.drew.trans b1.o) HC.o).mono ?_
  rintro e w2 ⟨rfl,H2,K2⟩
  have x0:=K2.at (Xp.new (Nat.le_refl _) (af (ax b1.o dK.o))) (ax b1.o dK.o)
  obtain ⟨SF,C2⟩:=H2.x.cells
  have o0:=ae C2.c1
  have rM:=ae (dr x0).2.1
  have xZ:=ae (dr x0).2.2.1
  replace H2:=ae H2
  clear K2 x0 C2
  go_wp2_with fail
  refine hK.out _ _ (⟨o0.o,rM.o,xZ.o⟩) (fun aH=>?_)
  try simp only [aZ]
  refine wpAnyH_done (by kernel_rfl) ?_ _
  go_wp2
  go_end0
  exact HE.o _ H2.o.x
 ·rw [fO e1,if_pos (mv ho 6).1]
  have HR:Θ (∀w',RX 1 X wx w0 g w' h qs a c->χ 131 #[π a.q 0,ι ia,ι ib] w' fun e w2=>e=bF 6 0 0/\Bl w' w2):=fun w' H=>jI 1 X wx w0 g h qs a c ia ib w' H ha pZ h2 e1
  clear H hs hd e1 ha hk pZ h2 Ox
  go_enter func134,ntmps134
  go_wp2
  refine wp_region_held_drew (S:=fun w'=>κ w' a.q 1 (π g.r 0)/\κ w' w.heap.size 1 (ι ia)/\κ w' w.heap.size 2 (ι ib)) (by kernel_rfl) ?_ (fun aa=>?_)
  ·exact ⟨zr.o,z1.o.2.1,z1.o.2.2.1⟩
  iterate 9 (refine tn rfl (by kernel_rfl) (fun _ _ _ h=>h) (by intro _ h;go_split_ands;go_simp<;>with_reducible rfl) aa ?_;try simp only [aZ])
  refine aY (i:=9) (by kernel_rfl) rfl fun K hK=>?_
  go_simp
  go_at_call 131
  refine (HR.o _ (HH.o.bl (HB.o.drew))).mono ?_
  rintro e w1 ⟨rfl,b1⟩
  exact ⟨rfl,jK (aF HS.o).1 rfl (HH.o.bl (HB.o.drew.trans b1)).less.rs⟩
end
theorem G7 (op:Int) (X:Nat->Prop) (wx w0:World) (g:Mg) (h:Hp) (qs:List Qb) (a:Mc) (c:aL) (ia ib ic ii:Int) (args:List Int) (Q:Option Addr) (nl q:Nat) (w:World) (H:RX 1 X wx w0 g w h qs a c) (hs:h.stops=false) (ha:0<=ia/\ia<c.locs.length) (hop:op<=9∨op=13∨op=14∨op=17∨op=19∨op=22∨op=24) (hc:∀X wx w,RX 1 X wx w0 g w h qs a c->χ 187 #[π a.q 0,.agg #[ι op,ι ia,ι ib,ι ic,ι ii,.slice Q nl q]] w fun e w2=>cM X wx w0 g qs a c (cy h c ⟨op,ia,ib,ic,ii,args⟩) (bR h c ⟨op,ia,ib,ic,ii,args⟩) e w2) (hkd:(cy h c ⟨op,ia,ib,ic,ii,args⟩).stops=false->1<=(bR h c ⟨op,ia,ib,ic,ii,args⟩).kind/\(bR h c ⟨op,ia,ib,ic,ii,args⟩).kind<=3) (h2:(cy h c ⟨op,ia,ib,ic,ii,args⟩).stops=false->(bR h c ⟨op,ia,ib,ic,ii,args⟩).kind=2->ia+1<c.locs.length) :
  χ 134 #[π a.q 0,.agg #[ι op,ι ia,ι ib,ι ic,ι ii,.slice Q nl q]] w fun e w'=>iT X wx w0 g qs a c (bV h c ⟨op,ia,ib,ic,ii,args⟩) e w':=by
 obtain ⟨na,rfl⟩:∃na:Nat,ia=na:=⟨ia.toNat,by omega⟩
 have ho:=(aF hs).1
 have HH:=ae H
 have HS:=ae hs
 have hq:=H.qlt
 have HB:Θ (Bl w (w.alloc (.cells #[ι op,ι (na:Int),ι ib,ι ic,ι ii,.slice Q nl q] 55))):=(Bl.refl w).alloc _
 have dK:=ae (aB w #[ι op,ι (na:Int),ι ib,ι ic,ι ii,.slice Q nl q] 55)
 have z0:=ae ((H.y.bl HB.o).hb)
 have z1:=ae (dr dK.o)
 obtain ⟨G3,C0⟩:=(H.bl HB.o).cells
 have zr:=ae C0.c10
 clear C0
 rw [GO c hs hop]
 have e15:(op==15)=false:=by simp;omega
 have e16:(op==16)=false:=by simp;omega
 have e21:(op==21)=false:=by simp;omega
 have e23:(op==23)=false:=by simp;omega
 generalize WH:cy h c ⟨op,(na:Int),ib,ic,ii,args⟩=HV at *
 generalize mh:bR h c ⟨op,(na:Int),ib,ic,ii,args⟩=VV at *
 dsimp only
 rcases fY hc with ⟨ch,st,HC⟩|⟨st,HC⟩
 ·replace HC:=ae HC
  have HE:Θ (∀w',RS 1 X wx w0 g w' HV qs a c->iT X wx w0 g qs a c ⟨HV,mN HV c.clr (na:Int) VV,c.pc+1⟩ (.panicked ch) w'):=fun w' H=>by
   refine ⟨?_,fun _=>H.less,fun q=>by dsimp only at q;rw [st.1] at q;exact absurd q (by decide)⟩
   have hst:=st.1
   rw [<-st.2]
   unfold nV mV
   dsimp only
   unfold Hp.stops at hst
   rw [Bool.or_eq_true] at hst
   by_cases cY:HV.over=true
   ·rw [if_pos cY,if_pos cY]
   ·have ht:=of_decide_eq_true (hst.resolve_left cY)
    rw [if_neg cY,if_pos ht,if_neg cY,if_pos ht]
  clear H hs st hc hkd h2 ha WH mh hop
  go_enter func134,ntmps134
  go_wp2
  refine wp_region_held_drew (S:=fun w'=>κ w' a.q 10 (.slice (some ⟨a.lb,0,none⟩) c.locs.length a.lc)/\κ w' w.heap.size 0 (ι op)/\κ w' w.heap.size 1 (ι (na:Int))/\κ w' w.heap.size 2 (ι ib)/\κ w' w.heap.size 3 (ι ic)/\κ w' w.heap.size 4 (ι ii)/\κ w' w.heap.size 5 (.slice Q nl q)) (by kernel_rfl) ?_ (fun aa=>?_)
  ·exact ⟨zr.o,z1.o⟩
  iterate 8 (refine tn rfl (by kernel_rfl) (fun _ _ _ h=>h) (by intro _ h;go_split_ands;go_simp<;>with_reducible rfl) aa ?_;try simp only [aZ])
  refine aY (i:=8) (by kernel_rfl) rfl fun K hK=>?_
  go_simp
  go_at_call 187
  refine (HH.o.y.useN HB.o.drew HC.o).mono ?_
  rintro e w1 ⟨rfl,H1⟩
  exact ⟨rfl,HE.o _ H1⟩
 ·replace HC:=ae HC
  have HW:Θ (∀X wx w,RX 1 X wx w0 g w HV qs a c->χ 84 #[.slice (some ⟨a.lb,0,none⟩) c.locs.length a.lc,ι (na:Int),cm (im VV)] w fun e w'=>e=.returned (.tuple #[])/\RX 1 X wx w0 g w' HV qs a { c with locs:=eL c.locs na VV }):=fun X wx w H=>CZ 1 X wx w0 g HV qs a c na VV w H (by omega) (hkd st) (fun x=>by have:=h2 st x;omega)
  have HE:Θ (∀w',RX 1 X wx w0 g w' HV qs a { c with locs:=eL c.locs na VV }->iT X wx w0 g qs a c ⟨HV,mN HV c.clr (na:Int) VV,c.pc+1⟩ (.returned (.tuple #[])) w'):=fun w' H=>by
   refine vP st ?_
   have e:(mN HV c.clr (na:Int) VV).locs=eL c.locs na VV:=by
    unfold mN;rw [if_neg (by rw [st];decide)];rfl
   rw [e]
   exact H.less
  generalize im VV=VI at *
  clear H hs st hc hkd h2 ha WH mh hop
  go_enter func134,ntmps134
  go_wp2
  refine wp_region_held_drew (S:=fun w'=>κ w' a.q 10 (.slice (some ⟨a.lb,0,none⟩) c.locs.length a.lc)/\κ w' w.heap.size 0 (ι op)/\κ w' w.heap.size 1 (ι (na:Int))/\κ w' w.heap.size 2 (ι ib)/\κ w' w.heap.size 3 (ι ic)/\κ w' w.heap.size 4 (ι ii)/\κ w' w.heap.size 5 (.slice Q nl q)) (by kernel_rfl) ?_ (fun aa=>?_)
  ·exact ⟨zr.o,z1.o⟩
  iterate 8 (refine tn rfl (by kernel_rfl) (fun _ _ _ h=>h) (by intro _ h;go_split_ands;go_simp<;>with_reducible rfl) aa ?_;try simp only [aZ])
  refine aY (i:=8) (by kernel_rfl) rfl fun K hK=>?_
  go_simp
  go_at_call 187
  refine (HH.o.y.useY HB.o.drew HC.o).mono ?_
  rintro e w1 ⟨rfl,H1,K1⟩
  have x0:=K1.at (Xp.new (Nat.le_refl _) (xd w _)) dK.o
  obtain ⟨Za,C1⟩:=H1.x.cells
  have jT:=ae C1.c10
  have ko:=ae (dr x0)
  replace x0:=ae x0
  replace H1:=ae H1
  clear K1 C1
  go_wp2_with fail
  refine hK.out _ _ (⟨jT.o,ko.o⟩) (fun ah=>?_)
  try simp only [aZ]
  refine aY (i:=9) (by kernel_rfl) rfl fun K hK=>?_
  go_simp
  go_at_call 84
  refine (H1.o.useY (Bl.refl _) HW.o).mono ?_
  rintro e w2 ⟨rfl,H2,K2⟩
  have x2:=K2.at (Xp.old (Xp.new (Nat.le_refl _) (xd w _))) x0.o
  obtain ⟨SF,C2⟩:=H2.x.cells
  have hL:(eL c.locs na VV).length=c.locs.length:=kE _ _ _
  have o0:=C2.c10
  dsimp only at o0
  rw [hL] at o0
  replace o0:=ae o0
  have rM:=ae (dr x2)
  replace H2:=ae H2
  clear K2 C2 x2
  go_wp2_with fail
  refine hK.out _ _ (⟨o0.o,rM.o⟩) (fun aH=>?_)
  try simp only [aZ]
  refine wpAnyH_done (by kernel_rfl) ?_ _
  go_wp2
  go_end0
  exact HE.o _ H2.o.x
end
section
open Go.Maps (Keyed has)
theorem jo (ho:o<h.objs.length):nth cF (h.setV o j v).objs o={ nth cF h.objs o with held:=(nth cF h.objs o).held.set j { nth cE (nth cF h.objs o).held j with v:=v } }:=eZ ho
theorem iV {o':Nat} (hn:o≠o'):nth cF (h.setV o j v).objs o'=nth cF h.objs o':=dY hn
theorem mF.put {w':World} {mp n:Nat} {D:DataW Nat} (F:mF 1 w mp h n D) (ho:o<h.objs.length) (hl:h.objs.length<=100) (hj:j<(nth cF h.objs o).held.length) (hc:(nth cE (nth cF h.objs o).held j).cls=(cc:Int)) (hk:(nth cE (nth cF h.objs o).held j).fld=(k:Int)) (ic:cJ (cc:Int)) (ik:cJ (k:Int)) (hv:v.kind=(bI h.file.classes cc k).kind) (hw:w'.ownsMap Tryz.prog 265 fg mp (n+1) (D.put (jY ((o:Int)+1) cc k) (MK (im v)))):mF 0 w' mp (h.setV o j v) (n+1) (D.put (jY ((o:Int)+1) cc k) (MK (im v))):=by
 have hm:=F.own.isMap
 have hlen:(h.setV o j v).objs.length=h.objs.length:=by simp [Hp.setV]
 have hfl:(h.setV o j v).file=h.file:=rfl
 have io:∀o':Nat,o'<=100->cJ ((o':Int)+1):=fun o' h'=>by unfold cJ;omega
 have Un:∀(o':Nat) (c' k':Int),o'<=100->cJ c'->cJ k'->¬(o'=o/\c'=cc/\k'=k)->jY ((o':Int)+1) c' k'≠jY ((o:Int)+1) cc k:=fun o' c' k' h1 h2 h3 hne e=>by
  obtain ⟨e1,e2,e3⟩:=Fj (io o' h1) h2 h3 (io o (by omega)) ic ik e
  exact hne ⟨by omega,e2,e3⟩
 have WJ:=F.ks o ho
 have M8:∀x∈((nth cF h.objs o).held.set j { nth cE (nth cF h.objs o).held j with v:=v }),(x.cls=(cc:Int)/\x.fld=(k:Int))->x.v=v:=by
  intro x hx JQ
  obtain ⟨i,hi,rfl⟩:=BQ (d:=cE) hx
  rw [List.length_set] at hi
  by_cases e:j=i
  ·subst e;rw [eZ hj]
  ·exfalso
   rw [dY e] at JQ
   exact e (GW WJ hj hi (by simp only [kq];rw [hc,hk,JQ.1,JQ.2]))
 have hold:∀x∈((nth cF h.objs o).held.set j { nth cE (nth cF h.objs o).held j with v:=v }),¬(x.cls=(cc:Int)/\x.fld=(k:Int))->x∈(nth cF h.objs o).held:=by
  intro x hx JQ
  obtain ⟨i,hi,rfl⟩:=BQ (d:=cE) hx
  rw [List.length_set] at hi
  by_cases e:j=i
  ·subst e
   rw [eZ hj] at JQ
   exact absurd ⟨hc,hk⟩ JQ
  ·rw [dY e];exact bE hi
 refine ⟨hw,by have:=F.few;show ((n+1:Nat):Int)+((0:Nat):Int)<=h.sh.steps;omega,fun o' c' k' v' ox M9 Na hx hh z=>?_,fun o' c' k' v' ox M9 Na hx hh=>?_,fun o' c' k' ox Kq M9 Na=>?_,fun o' ox=>?_,fun o' ox x hx=>?_⟩
 ·rw [hlen] at ox
  by_cases e:o'=o/\c'=cc/\k'=k
  ·obtain ⟨rfl,rfl,rfl⟩:=e
   rw [jo ho] at hx
   obtain ⟨x,mP,pT,JL,rfl⟩:=hx
   rw [M8 x mP ⟨pT,JL⟩]
   exact Maps.atKey_put_same hm (jZ.key (lu (io _ (by omega)) ic ik)) _ _
  ·have hne:=Un o' c' k' (by omega) M9 Na e
   rw [Maps.has_put_other hne] at hh
   rw [Maps.atKey_put_other hne]
   refine F.hit o' c' k' v' ox M9 Na ?_ hh z
   by_cases e1:o'=o
   ·subst e1
    rw [jo ho] at hx
    obtain ⟨x,mP,pT,JL,PQ⟩:=hx
    exact ⟨x,hold x mP (fun q=>e ⟨rfl,by rw [<-pT];exact q.1,by rw [<-JL];exact q.2⟩),pT,JL,PQ⟩
   ·rw [iV (fun q=>e1 q.symm)] at hx
    exact hx
 ·rw [hlen] at ox
  by_cases e:o'=o/\c'=cc/\k'=k
  ·obtain ⟨rfl,rfl,rfl⟩:=e
   rw [Maps.has_put_same hm (jZ.key (lu (io _ (by omega)) ic ik))] at hh
   exact absurd hh (by decide)
  ·have hne:=Un o' c' k' (by omega) M9 Na e
   rw [Maps.has_put_other hne] at hh
   refine F.miss o' c' k' v' ox M9 Na ?_ hh
   by_cases e1:o'=o
   ·subst e1
    rw [jo ho] at hx
    obtain ⟨x,mP,pT,JL,PQ⟩:=hx
    exact ⟨x,hold x mP (fun q=>e ⟨rfl,by rw [<-pT];exact q.1,by rw [<-JL];exact q.2⟩),pT,JL,PQ⟩
   ·rw [iV (fun q=>e1 q.symm)] at hx
    exact hx
 ·rw [hlen] at ox
  have hne:=Un o' c' k' Kq M9 Na (fun q=>by omega)
  rw [Maps.has_put_other hne]
  exact F.new o' c' k' ox Kq M9 Na
 ·rw [hlen] at ox
  by_cases e1:o'=o
  ·subst e1
   rw [jo ho]
   have:=GX hj v
   exact this.trans WJ
  ·rw [iV (fun q=>e1 q.symm)]
   exact F.ks o' ox
 ·rw [hlen] at ox
  by_cases e1:o'=o
  ·subst e1
   rw [jo ho] at hx
   by_cases e2:x.cls=(cc:Int)/\x.fld=(k:Int)
   ·rw [M8 x hx e2,e2.1,e2.2,hfl]
    exact hv
   ·exact F.kd o' ho x (hold x hx e2)
  ·rw [iV (fun q=>e1 q.symm)] at hx
   exact F.kd o' ox x hx
theorem oI.putF {w2:World} {h':Hp} {qs:List Qb} {vc vo vx vs:Value} {l:List Va} {n:Nat} {D:DataW Nat} (H:oI 1 X wx w0 g w h qs a c vc vo vx vs l) (hg:w.grownBy w2 (some g.mp)) (F:mF 0 w2 g.mp h' n D) (e1:h'.file=h.file) (e2:h'.input=h.input) (e3:h'.fuel=h.fuel) (e4:h'.sh=h.sh) (e5:h'.objs.map (fun o=>Value.int .i64 o.cls)=h.objs.map (fun o=>Value.int .i64 o.cls)) :
  oI 0 X wx w0 g w2 h' qs a c vc vo vx vs l:=by
 have R:=H.rh
 obtain ⟨n0,D0,F0⟩:=R.fld
 obtain ⟨fr,fh,fm,fc,fo,fx⟩:=H.ca.farC R
 have n1:(some g.mp:Option Nat)≠some g.r:=fun e=>iE R.run F0.own (Option.some.inj e).symm
 have n2:(some g.mp:Option Nat)≠some g.hb:=fun e=>iE R.hp F0.own (Option.some.inj e).symm
 have r1:gP g h' vc vx=gP g h vc vx:=by unfold gP;rw [e1,e2,e3,e4]
 have r2:fA g h' vo=fA g h vo:=by unfold fA;rw [e1]
 have hlen:h'.objs.length=h.objs.length:=by have:=congrArg List.length e5;simpa using this
 refine ⟨⟨R.ownr,R.ownh,R.ownm,Below.grown R.bl hg R.bl.size (fun k e=>by cases e;exact R.ownm),by rw [r1];exact aV hg R.run n1,by rw [r2];exact aV hg R.hp n2,by rw [e4];exact R.o.kept hg (Or.inr (l4 R.o F0.own)),
  by rw [hlen,e5];exact R.obs.kept hg (Or.inr (l4 R.obs F0.own)),R.calls.kept hg (Or.inr (l4 R.calls F0.own)),n,D,F⟩,H.ca.kept hg (fun b e=>by cases e;exact fm),H.farr,H.farc,H.kept.kept hg (fun b e hx=>by cases e;exact (H.farr _ hx).m rfl)⟩
theorem Lb:(h.setV o j v).objs.map (fun o=>Value.int .i64 o.cls)=h.objs.map (fun o=>Value.int .i64 o.cls):=by
 apply List.ext_getElem
 ·simp [Hp.setV]
 ·intro i h1 h2
  simp only [Hp.setV,List.getElem_map,List.getElem_set]
  split
  ·rename_i e
   subst e
   have hi:o<h.objs.length:=by simpa [Hp.setV] using h1
   rw [cg hi]
  ·rfl
theorem DK (X:Nat->Prop) (wx w0:World) (g:Mg) (h:Hp) (qs:List Qb) (a:Mc) (c:aL) (o j cc k:Nat) (v:Va) (w:World) (H:RX 1 X wx w0 g w h qs a c) (ho:o<h.objs.length) (hl:h.objs.length<=100) (hst:h.sh.steps<=100000) (hj:j<(nth cF h.objs o).held.length) (hc:(nth cE (nth cF h.objs o).held j).cls=(cc:Int)) (hk:(nth cE (nth cF h.objs o).held j).fld=(k:Int)) (jU:cc<=12) (h6:k<=12) (hv:v.kind=(bI h.file.classes cc k).kind) :
  χ 184 #[π g.hb 0,cm ⟨3,(o:Int)+1⟩,ι cc,ι k,cm (im v)] w fun e w'=>e=.returned (.tuple #[])/\RX 0 X wx w0 g w' (h.setV o j v) qs a c:=by
 have io:cJ ((o:Int)+1):=by unfold cJ;omega
 have ic:cJ (cc:Int):=by unfold cJ;omega
 have ik:cJ (k:Int):=by unfold cJ;omega
 obtain ⟨vc,vo,vx,vs,l,H⟩:=H
 obtain ⟨n,D,F⟩:=H.rh.fld
 have hn:n<maxLen:=by have:=F.few;unfold maxLen;omega
 have sX:Θ (∀w,χ 229 #[π g.hb 0,cm ⟨3,(o:Int)+1⟩,ι (cc:Int),ι (k:Int)] w fun e w'=>e=.returned (jc ((o:Int)+1) cc k)/\Bl w w'):=fun w=>lO g.hb ⟨3,o⟩ cc k rfl (by simp) w
 have WK:Θ (∀w2,Bl w w2->∃w3,(Instr.mapUpdate 169 (.map (some g.mp)) (jc ((o:Int)+1) cc k) (cm (im v))).run Tryz.prog w2=.ok () w3/\w2.grownBy w3 (some g.mp)/\RX 0 X wx w0 g w3 (h.setV o j v) qs a c):=fun w2 hb=>by
  have F2:=F.own.kept (df hb none) (by simp)
  obtain ⟨w3,h1,h2,h3⟩:=F2.update jZ underlying169 hn (lu io ic ik) (tq (im v))
  have F3:mF 1 w2 g.mp h n D:=⟨F2,F.few,F.hit,F.miss,F.new,F.ks,F.kd⟩
  exact ⟨w3,h1,h3,vc,vo,vx,vs,l,(H.bl hb).putF h3 (F3.put ho hl hj hc hk ic ik hv h2) rfl rfl rfl rfl Lb⟩
 obtain ⟨vn,M7⟩:∃vn:Int,(o:Int)+1=vn:=⟨_,rfl⟩
 rw [M7] at sX WK ⊢
 obtain ⟨L0,L1⟩:=bc w #[ι 3,ι vn] #[ι (im v).kind,ι (im v).n] 100 100
 have HB:Θ (Bl w ((w.alloc (eS ⟨3,vn⟩)).alloc (eS (im v)))):=((Bl.refl w).alloc _).alloc _
 have z0:=ae (aO L0)
 have z1:=ae (aJ L0)
 have z2:=ae (aO L1)
 have z3:=ae (aJ L1)
 have zm:Θ (((w.alloc (eS ⟨3,vn⟩)).alloc (eS (im v))).cell? ⟨g.hb,2,none⟩=some (.map (some g.mp))):=Bl.cell HB.o H.rh.heapCells.2.2
 have hmp:=F.own.lt
 have wG:g.hb≠g.mp:=iE H.rh.hp F.own
 have FI:w.heap.size≠g.mp:=by omega
 have EZ:w.heap.size+1≠g.mp:=by omega
 clear H F L0 L1 io ic ik M7 hn hv hc hk hj
 go_enter func184,ntmps184
 go_wp2
 refine wp_region_held_drew (S:=fun w'=>κ w' g.hb 2 (.map (some g.mp))/\κ w' w.heap.size 0 (ι 3)/\κ w' w.heap.size 1 (ι vn)/\κ w' (w.heap.size+1) 0 (ι (im v).kind)/\κ w' (w.heap.size+1) 1 (ι (im v).n)) (by kernel_rfl) ?_ (fun aa=>?_)
 ·exact ⟨zm.o,z0.o,z1.o,z2.o,z3.o⟩
 iterate 9 (refine tn rfl (by kernel_rfl) (fun _ _ _ h=>h) (by intro _ h;go_split_ands;go_simp<;>with_reducible rfl) aa ?_;try simp only [aZ])
 refine aY (i:=8) (by kernel_rfl) rfl fun K hK=>?_
 go_simp
 go_at_call 229
 refine (sX.o _).mono ?_
 rintro e w2 ⟨rfl,b2⟩
 have d0:=ae (b2.cell aa.1)
 have d1:=ae (b2.cell aa.2.1)
 have d2:=ae (b2.cell aa.2.2.1)
 have d3:=ae (b2.cell aa.2.2.2.1)
 have d4:=ae (b2.cell aa.2.2.2.2)
 replace b2:=ae b2
 go_wp2_with fail
 refine hK.out _ _ (⟨d0.o,d1.o,d2.o,d3.o,d4.o⟩) (fun ah=>?_)
 try simp only [aZ]
 refine aY (i:=10) (by kernel_rfl) rfl fun K hK=>?_
 obtain ⟨w3,hu,wA,H3⟩:=WK.o _ (HB.o.drew.trans b2.o)
 replace H3:=ae H3
 go_wp2_with fail
 refine hK.out _ _ (⟨wA.cell d0.o (fun e=>wG (Option.some.inj e)),wA.cell d1.o (fun e=>FI (Option.some.inj e)),wA.cell d2.o (fun e=>FI (Option.some.inj e)),wA.cell d3.o (fun e=>EZ (Option.some.inj e)),wA.cell d4.o (fun e=>EZ (Option.some.inj e))⟩) (fun aH=>?_)
 try simp only [aZ]
 refine wpAnyH_done (by kernel_rfl) ?_ _
 go_wp2
 go_end0
 exact ⟨rfl,H3.o⟩
theorem DL (s:Nat) (X:Nat->Prop) (wx w0:World) (g:Mg) (h:Hp) (qs:List Qb) (a:Mc) (c:aL) (v u:Va) (cc k:Int) (w:World) (H:RX s X wx w0 g w h qs a c) (hl:h.objs.length<=100) (ho:h.over=false) (hk:v.kind=3) (hv:v.n=-1) :
  χ 184 #[π g.hb 0,cm (im v),ι cc,ι k,cm u] w fun e w'=>e=cU h/\RX s X wx w0 g w' (h.raise 1) qs a c:=by
 have e:im v=⟨3,0⟩:=by rw [gp hk,hv];rfl
 have sX:Θ (∀w,RX s X wx w0 g w h qs a c->χ 229 #[π g.hb 0,cm ⟨3,0⟩,ι cc,ι k] w fun e w'=>e=cU h/\RX s X wx w0 g w' (h.raise 1) qs a c):=fun w H=>e▸pL s X wx w0 g h qs a c v cc k w H hl ho hk hv
 rw [e]
 obtain ⟨L0,L1⟩:=bc w #[ι 3,ι 0] #[ι u.kind,ι u.n] 100 100
 have HB:Θ (Bl w ((w.alloc (eS ⟨3,0⟩)).alloc (eS u))):=((Bl.refl w).alloc _).alloc _
 have HH:=ae H
 have z0:=ae (aO L0)
 have z1:=ae (aJ L0)
 have z2:=ae (aO L1)
 have z3:=ae (aJ L1)
 have zm:Θ (((w.alloc (eS ⟨3,0⟩)).alloc (eS u)).cell? ⟨g.hb,2,none⟩=some (.map (some g.mp))):=by
  obtain ⟨vc,vo,vx,vs,l,H⟩:=H
  exact Bl.cell HB.o H.rh.heapCells.2.2
 obtain ⟨E,hE⟩:∃E,cU h=E:=⟨_,rfl⟩
 have HX:Θ (∃ch,E=.panicked ch):=by
  rw [<-hE];unfold cU;split<;>exact ⟨_,rfl⟩
 rw [hE] at sX ⊢
 clear hk hv e H hl ho hE L0 L1
 obtain ⟨ch,rfl⟩:=HX.o
 go_enter func184,ntmps184
 go_wp2
 refine wp_region_held_drew (S:=fun w'=>κ w' g.hb 2 (.map (some g.mp))/\κ w' w.heap.size 0 (ι 3)/\κ w' w.heap.size 1 (ι 0)/\κ w' (w.heap.size+1) 0 (ι u.kind)/\κ w' (w.heap.size+1) 1 (ι u.n)) (by kernel_rfl) ?_ (fun aa=>?_)
 ·exact ⟨zm.o,z0.o,z1.o,z2.o,z3.o⟩
 iterate 9 (refine tn rfl (by kernel_rfl) (fun _ _ _ h=>h) (by intro _ h;go_split_ands;go_simp<;>with_reducible rfl) aa ?_;try simp only [aZ])
 refine aY (i:=8) (by kernel_rfl) rfl fun K hK=>?_
 go_simp
 go_at_call 229
 refine (sX.o _ (HH.o.bl HB.o.drew)).mono ?_
 rintro e w2 ⟨rfl,H2⟩
 exact ⟨rfl,rfl,H2⟩
end
end Go.Proofs.YtgiiapenmjollaaGreat
