import Derived.Test.YtgiiapenmjollaaGreatRrag
import Derived.Deep.Upon
namespace Go.Proofs.YtgiiapenmjollaaGreat
set_option linter.all false
set_option maxHeartbeats 40000000
set_option maxRecDepth 100000
open Go.RowKit
open Tryz
variable {g:Ad} {a:Ca} {c:aL} {h:Hp} {l:List Va} {xs:List Value} {m:Me} {B b base k lb n p:Nat} {A C K P:Option Addr} {T:TypeId} {u:Value} {w w' w0:World}
theorem zJ (w0:World) (g:Ad) (p:Nat) (h:Hp) (a:Ca) (c:aL) (ia ib ic ii:Int) (args:List Int) (Q:Option Addr) (nl q:Nat) (w:World) (hH:Hs w0 g w p h) (hC:aK w0 w a c) (C:Cq w0 g h) (pS:0<=ib/\ib<c.locs.length) (hrc:0<=ic/\ic<c.locs.length) :
  χ 136 #[π p 0,π a.q 0,.agg #[ι 9,ι ia,ι ib,ι ic,ι ii,.slice Q nl q]] w fun e w'=>e=.returned (jh (aG h c ⟨9,ia,ib,ic,ii,args⟩))/\Hs w0 g w' p (givesH h c ⟨9,ia,ib,ic,ii,args⟩)/\Fr w0.heap.size g.T w w':=by
 obtain ⟨HF,HH,HA,HI,HR,HN,HC,hb,hq,hl⟩:=mU 9 ia ib ic ii Q nl q hH hC C
 clear hH hC C
 have eH:givesH h c ⟨9,ia,ib,ic,ii,args⟩=(h.rdH c ib 2).rdH c ic 2:=by simp [givesH]
 have eV:aG h c ⟨9,ia,ib,ic,ii,args⟩=⟨1,lh (c.rd ib).n (c.rd ic).n⟩:=by simp [aG]
 rw [eH,eV]
 clear eH eV
 go_enter func136,ntmps136
 go_wp2_with (first
  | (go_at_call 74;refine (bQ w0 g p (h.rdH c ib 2) a c ic 2 _ H1.o A2.o (HC.o.same (dW h c ib 2)) hrc).mono ?_;rintro e w2 ⟨rfl,H2,F2⟩;have R3:=ae (R2.o.keep HC.o.k F2);have U3:=ae (U2.o.keep HC.o.k F2);have z0:=R3.o.c0;have z1:=R3.o.c1;have TB:=R3.o.fr;have y0:=U3.o.c0;have y1:=U3.o.c1;have z0a:∀o,(w2.alloc o).cell? ⟨w.heap.size+1,0,none⟩=some (ι 0):=(fun o=>((Bl.refl w2).alloc o).cell z0);have z1a:∀o,(w2.alloc o).cell? ⟨w.heap.size+1,1,none⟩=some (ι 0):=(fun o=>((Bl.refl w2).alloc o).cell z1);have k1:=af R3.o.blk;have k2:=af U3.o.blk;have R4:Θ (aC (w2.alloc (bD (c.rd ic))) (w.heap.size+1) aE):=⟨(Below.heap_alloc _ _ _ k1).trans R3.o.blk⟩;have U4:Θ (aC (w2.alloc (bD (c.rd ic))) w1.heap.size (c.rd ib)):=⟨(Below.heap_alloc _ _ _ k2).trans U3.o.blk⟩;have q0:=R4.o.c0;have q1:=R4.o.c1;have fzb:∀i,(w2.alloc (bD (c.rd ic))).frozen? ⟨w.heap.size+1,i,none⟩=false:=(fun i=>R4.o.fr i);have u0:=U4.o.c0;have u1:=U4.o.c1;have JL:w2.heap.size≠w.heap.size+1:=(by omega);have PQ:w.heap.size+1≠w2.heap.size:=(by omega);have Wm:w1.heap.size≠w2.heap.size:=(by omega);have Wn:w2.heap.size≠w1.heap.size:=(by omega);have dQ:=H2.base;replace H2:=ae H2;replace F2:=ae (F1.o.trans F2))
  | (go_at_call 74;refine (bQ w0 g p h a c ib 2 _ HH.o HA.o HC.o pS).mono ?_;rintro e w1 ⟨rfl,H1,F1⟩;have R:=ae (HR.o.keep HC.o.k F1);have r0:=R.o.c0;have r1:=R.o.c1;have fz:=R.o.fr;have I1:=HI.o.keep HC.o.k F1;obtain ⟨i0,i1,i2,i3,i4,i5⟩:=I1.cs;replace I1:=ae I1;have N1:=HN.o.keep HC.o.k F1;have n0:=N1.c0;have n1:=N1.c1;replace N1:=ae N1;have hw1:=af I1.o.blk;have bX:=af N1.o.blk;have mP:w1.heap.size≠w.heap.size+1:=(by omega);have pT:w.heap.size+1≠w1.heap.size:=(by omega);have Od:∀o,(w1.alloc o).cell? ⟨w.heap.size+1,0,none⟩=some (ι 0):=(fun o=>((Bl.refl w1).alloc o).cell r0);have Oe:∀o,(w1.alloc o).cell? ⟨w.heap.size+1,1,none⟩=some (ι 0):=(fun o=>((Bl.refl w1).alloc o).cell r1);have R2:Θ (aC (w1.alloc (bD (c.rd ib))) (w.heap.size+1) aE):=⟨(Below.heap_alloc _ _ _ (af R.o.blk)).trans R.o.blk⟩;have Og:∀i,(w1.alloc (bD (c.rd ib))).frozen? ⟨w.heap.size+1,i,none⟩=false:=(fun i=>R2.o.fr i);have Oh:=R2.o.c0;have Oi:=R2.o.c1;have hb1:=H1.base;have A2:=ae (aK.fr (HA.o.fr HC.o.k HC.o.n7 F1) HC.o.k HC.o.n7 ((Fr.refl w0.heap.size g.T w1).alloc hb1 (bD (c.rd ib))));have U2:Θ (aC (w1.alloc (bD (c.rd ib))) w1.heap.size (c.rd ib)):=⟨aB _ _ _⟩;have i3a:=((Bl.refl w1).alloc (bD (c.rd ib))).cell i3;replace H1:=ae (H1.cf ((Cf.refl _ _ _).alloc hb1 (bD (c.rd ib))));replace F1:=ae ((HF.o.trans F1).alloc hb1 (bD (c.rd ib))))
  | (go_at_call 160;refine (Ft _ _ _).mono ?_;rintro e w3 ⟨rfl,hw⟩;rw [hw];clear hw w3))
 first
  | (refine bodyPost_ret (results_cell_row rfl _ _ (w.heap.size+1) _ _ _ _ rfl (R4.o.set ⟨1,lh (c.rd ib).n (c.rd ic).n⟩).blk underlying62 rfl bC) rfl ?_;exact ⟨rfl,(H2.o.cf ((Cf.refl _ _ _).alloc (by omega) _)).cf (R4.o.cf HC.o.k (by omega) _ _),((F2.o.alloc (by omega) _).new (Nat.le_succ _) (by omega) _).new (Nat.le_succ _) (by omega) _⟩)
  | (refine bodyPost_ret (results_cell_row rfl _ _ (w.heap.size+1) _ _ _ _ rfl ((Below.heap_alloc _ _ _ (by simp;exact af R3.o.blk)).trans (R3.o.set ⟨1,lh (c.rd ib).n (c.rd ic).n⟩).blk) underlying62 rfl bC) rfl ?_;exact ⟨rfl,(H2.o.cf (R3.o.cf HC.o.k (by omega) _ _)).cf ((Cf.refl _ _ _).alloc (by simp;omega) _),((F2.o.new (Nat.le_succ _) (by omega) _).new (Nat.le_succ _) (by omega) _).alloc (by simp;omega) _⟩)
theorem eO (h:Hp) (c:aL) (n k:Int):(h.rdH c n k).objs=h.objs:=by unfold Hp.rdH Hp.must;split;rfl;unfold Hp.fin;split<;>rfl
section
variable (w0:World) (g:Ad) (p:Nat) (h:Hp) (a:Ca) (c:aL) (ia ib ic ii:Int) (args:List Int) (Q:Option Addr) (nl q:Nat) (w:World)
theorem vK (hH:Hs w0 g w p h) (hC:aK w0 w a c) (C:Cq w0 g h) (pS:0<=ib/\ib<c.locs.length) (ho:(h.rdH c ib 3).over=true) :
  χ 136 #[π p 0,π a.q 0,.agg #[ι 14,ι ia,ι ib,ι ic,ι ii,.slice Q nl q]] w fun e w'=>e=.returned (jh (aG h c ⟨14,ia,ib,ic,ii,args⟩))/\Hs w0 g w' p (givesH h c ⟨14,ia,ib,ic,ii,args⟩)/\Fr w0.heap.size g.T w w':=by
 obtain ⟨HF,HH,HA,HI,HR,HN,HC,hb,hq,hl⟩:=mU 14 ia ib ic ii Q nl q hH hC C
 clear hH hC C
 have eH:givesH h c ⟨14,ia,ib,ic,ii,args⟩=h.rdH c ib 3:=by simp [givesH,ho]
 have eV:aG h c ⟨14,ia,ib,ic,ii,args⟩=aE:=by simp [aG,ho]
 rw [eH,eV]
 clear eH eV
 go_enter func136,ntmps136
 go_wp2_with (go_at_call 74;refine (bQ w0 g p h a c ib 3 _ HH.o HA.o HC.o pS).mono ?_;rintro e w1 ⟨rfl,H1,F1⟩;have R:=ae (HR.o.keep HC.o.k F1);have r0:=R.o.c0;have r1:=R.o.c1;have fz:=R.o.fr;have I1:=HI.o.keep HC.o.k F1;obtain ⟨i0,i1,i2,i3,i4,i5⟩:=I1.cs;replace I1:=ae I1;have N1:=HN.o.keep HC.o.k F1;have n0:=N1.c0;have n1:=N1.c1;replace N1:=ae N1;have hw1:=af I1.o.blk;have bX:=af N1.o.blk;have mP:w1.heap.size≠w.heap.size+1:=(by omega);have pT:w.heap.size+1≠w1.heap.size:=(by omega);have Od:∀o,(w1.alloc o).cell? ⟨w.heap.size+1,0,none⟩=some (ι 0):=(fun o=>((Bl.refl w1).alloc o).cell r0);have Oe:∀o,(w1.alloc o).cell? ⟨w.heap.size+1,1,none⟩=some (ι 0):=(fun o=>((Bl.refl w1).alloc o).cell r1);have R2:Θ (aC (w1.alloc (bD (c.rd ib))) (w.heap.size+1) aE):=⟨(Below.heap_alloc _ _ _ (af R.o.blk)).trans R.o.blk⟩;have Og:∀i,(w1.alloc (bD (c.rd ib))).frozen? ⟨w.heap.size+1,i,none⟩=false:=(fun i=>R2.o.fr i);have Oh:=R2.o.c0;have Oi:=R2.o.c1;have hb1:=H1.base;have mI:w1.cell? ⟨p,12,none⟩=some (.bool true):=(by obtain ⟨vo,vx,hv,X⟩:=H1;rw [X.cells.c12,ho]);have vL:=((Bl.refl w1).alloc (bD (c.rd ib))).cell mI;have N2:Θ (aC (w1.alloc (bD (c.rd ib))) (w.heap.size+1+1) aE):=⟨(Below.heap_alloc _ _ _ bX).trans N1.o.blk⟩;have TZ:=N2.o.c0;have Tu:=N2.o.c1;have U2:Θ (aC (w1.alloc (bD (c.rd ib))) w1.heap.size (c.rd ib)):=⟨aB _ _ _⟩;have I2:Θ (cP (w1.alloc (bD (c.rd ib))) w.heap.size 14 ia ib ic ii Q nl q):=⟨(Below.heap_alloc _ _ _ hw1).trans I1.o.blk⟩;replace H1:=ae H1;replace F1:=ae (HF.o.trans F1))
 first
  | (refine bodyPost_ret (results_cell_row rfl _ _ (w.heap.size+1) _ _ _ _ rfl (R2.o.set aE).blk underlying62 rfl bC) rfl ?_;exact ⟨rfl,(H1.o.cf ((Cf.refl _ _ _).alloc (by omega) _)).cf (R2.o.cf HC.o.k (by omega) _ _),((F1.o.alloc (by omega) _).new (Nat.le_succ _) (by omega) _).new (Nat.le_succ _) (by omega) _⟩)
  | (refine bodyPost_ret (results_cell_row rfl _ _ (w.heap.size+1) _ _ _ _ rfl ((Below.heap_alloc _ _ _ (by simp;exact af R.o.blk)).trans (R.o.set aE).blk) underlying62 rfl bC) rfl ?_;exact ⟨rfl,(H1.o.cf (R.o.cf HC.o.k (by omega) _ _)).cf ((Cf.refl _ _ _).alloc (by simp;omega) _),((F1.o.new (Nat.le_succ _) (by omega) _).new (Nat.le_succ _) (by omega) _).alloc (by simp;omega) _⟩)
theorem xJ (hH:Hs w0 g w p h) (hC:aK w0 w a c) (C:Cq w0 g h) (pS:0<=ib/\ib<c.locs.length) (ho:(h.rdH c ib 3).over=false) (h3:(c.rd ib).kind=3->(c.rd ib).n<(h.rdH c ib 3).objs.length) :
  χ 136 #[π p 0,π a.q 0,.agg #[ι 14,ι ia,ι ib,ι ic,ι ii,.slice Q nl q]] w fun e w'=>e=.returned (jh (aG h c ⟨14,ia,ib,ic,ii,args⟩))/\Hs w0 g w' p (givesH h c ⟨14,ia,ib,ic,ii,args⟩)/\Fr w0.heap.size g.T w w':=by
 obtain ⟨HF,HH,HA,HI,HR,HN,HC,hb,hq,hl⟩:=mU 14 ia ib ic ii Q nl q hH hC C
 clear hH hC C
 have eH:givesH h c ⟨14,ia,ib,ic,ii,args⟩=(h.rdH c ib 3).findH (c.rd ib) ic:=by simp [givesH,ho]
 have eV:aG h c ⟨14,ia,ib,ic,ii,args⟩=(h.rdH c ib 3).getV (c.rd ib) ic ii:=by simp [aG,ho]
 rw [eH,eV]
 clear eH eV
 go_enter func136,ntmps136
 go_wp2_with (go_at_call 74;refine (bQ w0 g p h a c ib 3 _ HH.o HA.o HC.o pS).mono ?_;rintro e w1 ⟨rfl,H1,F1⟩;have R:=ae (HR.o.keep HC.o.k F1);have r0:=R.o.c0;have r1:=R.o.c1;have fz:=R.o.fr;have I1:=HI.o.keep HC.o.k F1;obtain ⟨i0,i1,i2,i3,i4,i5⟩:=I1.cs;replace I1:=ae I1;have N1:=HN.o.keep HC.o.k F1;have n0:=N1.c0;have n1:=N1.c1;replace N1:=ae N1;have hw1:=af I1.o.blk;have bX:=af N1.o.blk;have mP:w1.heap.size≠w.heap.size+1:=(by omega);have pT:w.heap.size+1≠w1.heap.size:=(by omega);have Od:∀o,(w1.alloc o).cell? ⟨w.heap.size+1,0,none⟩=some (ι 0):=(fun o=>((Bl.refl w1).alloc o).cell r0);have Oe:∀o,(w1.alloc o).cell? ⟨w.heap.size+1,1,none⟩=some (ι 0):=(fun o=>((Bl.refl w1).alloc o).cell r1);have R2:Θ (aC (w1.alloc (bD (c.rd ib))) (w.heap.size+1) aE):=⟨(Below.heap_alloc _ _ _ (af R.o.blk)).trans R.o.blk⟩;have Og:∀i,(w1.alloc (bD (c.rd ib))).frozen? ⟨w.heap.size+1,i,none⟩=false:=(fun i=>R2.o.fr i);have Oh:=R2.o.c0;have Oi:=R2.o.c1;have hb1:=H1.base;have mI:w1.cell? ⟨p,12,none⟩=some (.bool false):=(by obtain ⟨vo,vx,hv,X⟩:=H1;rw [X.cells.c12,ho]);have vL:=((Bl.refl w1).alloc (bD (c.rd ib))).cell mI;have N2:Θ (aC (w1.alloc (bD (c.rd ib))) (w.heap.size+1+1) aE):=⟨(Below.heap_alloc _ _ _ bX).trans N1.o.blk⟩;have TZ:=N2.o.c0;have Tu:=N2.o.c1;have U2:Θ (aC (w1.alloc (bD (c.rd ib))) w1.heap.size (c.rd ib)):=⟨aB _ _ _⟩;have I2:Θ (cP (w1.alloc (bD (c.rd ib))) w.heap.size 14 ia ib ic ii Q nl q):=⟨(Below.heap_alloc _ _ _ hw1).trans I1.o.blk⟩;replace H1:=ae H1;replace F1:=ae (HF.o.trans F1))
 have H2:=ae (H1.o.cf ((Cf.refl _ _ _).alloc hb1 (bD (c.rd ib))))
 have F2:=ae (F1.o.alloc hb1 (bD (c.rd ib)))
 have z2:=ae (And.intro U2.o.c0 (And.intro U2.o.c1 (And.intro I2.o.cs.2.2.2.1 I2.o.cs.2.2.2.2.1)))
 refine wp_region_held_drew (S:=fun w'=>κ w' w1.heap.size 0 (ι (c.rd ib).kind)/\κ w' w1.heap.size 1 (ι (c.rd ib).n)/\κ w' w.heap.size 3 (ι ic)/\κ w' w.heap.size 4 (ι ii)) (by kernel_rfl) ?_ (fun aa=>?_)
 ·exact z2.o
 iterate 8 (refine tn rfl (by kernel_rfl) (fun _ _ _ h=>h) (by intro _ h;go_split_ands;go_simp<;>with_reducible rfl) aa ?_;try simp only [aZ])
 refine aY (i:=8) (by kernel_rfl) rfl fun K hK=>?_
 go_simp
 go_at_call 162
 refine (KE w0 g p (h.rdH c ib 3) (c.rd ib) ic ii _ (H2.o.drewN 1) (HC.o.same (dW h c ib 3)).cw h3).mono ?_
 rintro e w2 ⟨rfl,H3,F3⟩
 have R3:=ae ((R2.o.drewN 1).keep HC.o.k F3)
 have z0:=R3.o.c0
 have z1:=R3.o.c1
 have TB:=R3.o.fr
 have I3:=ae ((cP.mk I2.o.blk:cP ((w1.alloc (bD (c.rd ib))).drew) _ _ _ _ _ _ _ _ _).keep HC.o.k F3)
 have U3:=ae ((U2.o.drewN 1).keep HC.o.k F3)
 have d8:=ae (And.intro U3.o.c0 (And.intro U3.o.c1 (And.intro I3.o.cs.2.2.2.1 I3.o.cs.2.2.2.2.1)))
 replace H3:=ae H3
 replace F3:=ae ((F2.o.drewN 1).trans F3)
 go_wp2_with fail
 refine hK.out _ _ (d8.o) (fun ah=>?_)
 try simp only [aZ]
 refine aY (i:=9) (by kernel_rfl) rfl fun K hK=>?_
 go_wp2_with fail
 refine hK.out _ _ (⟨bH d8.o.1 (by omega),bH d8.o.2.1 (by omega),bH d8.o.2.2.1 (by omega),bH d8.o.2.2.2 (by omega)⟩) (fun aH=>?_)
 try simp only [aZ]
 refine wpAnyH_done (by kernel_rfl) ?_ _
 go_wp2
 refine bodyPost_ret (results_cell_row rfl _ _ (w.heap.size+1) _ _ _ _ rfl (R3.o.set ((h.rdH c ib 3).getV (c.rd ib) ic ii)).blk underlying62 rfl bC) rfl ?_
 exact ⟨rfl,H3.o.cf (R3.o.cf HC.o.k (by omega) _ _),(F3.o.new (Nat.le_succ _) (by omega) _).new (Nat.le_succ _) (by omega) _⟩
theorem vM (hH:Hs w0 g w p h) (hC:aK w0 w a c) (C:Cq w0 g h) (pS:0<=ib/\ib<c.locs.length) (ho:(h.rdH c ib 3).over=true) :
  χ 136 #[π p 0,π a.q 0,.agg #[ι 17,ι ia,ι ib,ι ic,ι ii,.slice Q nl q]] w fun e w'=>e=.returned (jh (aG h c ⟨17,ia,ib,ic,ii,args⟩))/\Hs w0 g w' p (givesH h c ⟨17,ia,ib,ic,ii,args⟩)/\Fr w0.heap.size g.T w w':=by
 obtain ⟨HF,HH,HA,HI,HR,HN,HC,hb,hq,hl⟩:=mU 17 ia ib ic ii Q nl q hH hC C
 clear hH hC C
 have eH:givesH h c ⟨17,ia,ib,ic,ii,args⟩=h.rdH c ib 3:=by simp [givesH,ho]
 have eV:aG h c ⟨17,ia,ib,ic,ii,args⟩=aE:=by simp [aG,ho]
 rw [eH,eV]
 clear eH eV
 go_enter func136,ntmps136
 go_wp2_with (go_at_call 74;refine (bQ w0 g p h a c ib 3 _ HH.o HA.o HC.o pS).mono ?_;rintro e w1 ⟨rfl,H1,F1⟩;have R:=ae (HR.o.keep HC.o.k F1);have r0:=R.o.c0;have r1:=R.o.c1;have fz:=R.o.fr;have I1:=HI.o.keep HC.o.k F1;obtain ⟨i0,i1,i2,i3,i4,i5⟩:=I1.cs;replace I1:=ae I1;have N1:=HN.o.keep HC.o.k F1;have n0:=N1.c0;have n1:=N1.c1;replace N1:=ae N1;have hw1:=af I1.o.blk;have bX:=af N1.o.blk;have mP:w1.heap.size≠w.heap.size+1:=(by omega);have pT:w.heap.size+1≠w1.heap.size:=(by omega);have Od:∀o,(w1.alloc o).cell? ⟨w.heap.size+1,0,none⟩=some (ι 0):=(fun o=>((Bl.refl w1).alloc o).cell r0);have Oe:∀o,(w1.alloc o).cell? ⟨w.heap.size+1,1,none⟩=some (ι 0):=(fun o=>((Bl.refl w1).alloc o).cell r1);have R2:Θ (aC (w1.alloc (bD (c.rd ib))) (w.heap.size+1) aE):=⟨(Below.heap_alloc _ _ _ (af R.o.blk)).trans R.o.blk⟩;have Og:∀i,(w1.alloc (bD (c.rd ib))).frozen? ⟨w.heap.size+1,i,none⟩=false:=(fun i=>R2.o.fr i);have Oh:=R2.o.c0;have Oi:=R2.o.c1;have hb1:=H1.base;have mI:w1.cell? ⟨p,12,none⟩=some (.bool true):=(by obtain ⟨vo,vx,hv,X⟩:=H1;rw [X.cells.c12,ho]);have vL:=((Bl.refl w1).alloc (bD (c.rd ib))).cell mI;have N2:Θ (aC (w1.alloc (bD (c.rd ib))) (w.heap.size+1+1) aE):=⟨(Below.heap_alloc _ _ _ bX).trans N1.o.blk⟩;have TZ:=N2.o.c0;have Tu:=N2.o.c1;have U2:Θ (aC (w1.alloc (bD (c.rd ib))) w1.heap.size (c.rd ib)):=⟨aB _ _ _⟩;have I2:Θ (cP (w1.alloc (bD (c.rd ib))) w.heap.size 17 ia ib ic ii Q nl q):=⟨(Below.heap_alloc _ _ _ hw1).trans I1.o.blk⟩;replace H1:=ae H1;replace F1:=ae (HF.o.trans F1))
 first
  | (refine bodyPost_ret (results_cell_row rfl _ _ (w.heap.size+1) _ _ _ _ rfl (R2.o.set aE).blk underlying62 rfl bC) rfl ?_;exact ⟨rfl,(H1.o.cf ((Cf.refl _ _ _).alloc (by omega) _)).cf (R2.o.cf HC.o.k (by omega) _ _),((F1.o.alloc (by omega) _).new (Nat.le_succ _) (by omega) _).new (Nat.le_succ _) (by omega) _⟩)
  | (refine bodyPost_ret (results_cell_row rfl _ _ (w.heap.size+1) _ _ _ _ rfl ((Below.heap_alloc _ _ _ (by simp;exact af R.o.blk)).trans (R.o.set aE).blk) underlying62 rfl bC) rfl ?_;exact ⟨rfl,(H1.o.cf (R.o.cf HC.o.k (by omega) _ _)).cf ((Cf.refl _ _ _).alloc (by simp;omega) _),((F1.o.new (Nat.le_succ _) (by omega) _).new (Nat.le_succ _) (by omega) _).alloc (by simp;omega) _⟩)
theorem xK (hH:Hs w0 g w p h) (hC:aK w0 w a c) (C:Cq w0 g h) (pS:0<=ib/\ib<c.locs.length) (ho:(h.rdH c ib 3).over=false) (h3:(c.rd ib).kind=3->(c.rd ib).n<(h.rdH c ib 3).objs.length) :
  χ 136 #[π p 0,π a.q 0,.agg #[ι 17,ι ia,ι ib,ι ic,ι ii,.slice Q nl q]] w fun e w'=>e=.returned (jh (aG h c ⟨17,ia,ib,ic,ii,args⟩))/\Hs w0 g w' p (givesH h c ⟨17,ia,ib,ic,ii,args⟩)/\Fr w0.heap.size g.T w w':=by
 obtain ⟨HF,HH,HA,HI,HR,HN,HC,hb,hq,hl⟩:=mU 17 ia ib ic ii Q nl q hH hC C
 clear hH hC C
 have eH:givesH h c ⟨17,ia,ib,ic,ii,args⟩=(h.rdH c ib 3).must (isRef (c.rd ib)):=by simp [givesH,ho]
 have eV:aG h c ⟨17,ia,ib,ic,ii,args⟩=(h.rdH c ib 3).isV (c.rd ib) ic:=by simp [aG,ho]
 rw [eH,eV]
 clear eH eV
 go_enter func136,ntmps136
 go_wp2_with (go_at_call 74;refine (bQ w0 g p h a c ib 3 _ HH.o HA.o HC.o pS).mono ?_;rintro e w1 ⟨rfl,H1,F1⟩;have R:=ae (HR.o.keep HC.o.k F1);have r0:=R.o.c0;have r1:=R.o.c1;have fz:=R.o.fr;have I1:=HI.o.keep HC.o.k F1;obtain ⟨i0,i1,i2,i3,i4,i5⟩:=I1.cs;replace I1:=ae I1;have N1:=HN.o.keep HC.o.k F1;have n0:=N1.c0;have n1:=N1.c1;replace N1:=ae N1;have hw1:=af I1.o.blk;have bX:=af N1.o.blk;have mP:w1.heap.size≠w.heap.size+1:=(by omega);have pT:w.heap.size+1≠w1.heap.size:=(by omega);have Od:∀o,(w1.alloc o).cell? ⟨w.heap.size+1,0,none⟩=some (ι 0):=(fun o=>((Bl.refl w1).alloc o).cell r0);have Oe:∀o,(w1.alloc o).cell? ⟨w.heap.size+1,1,none⟩=some (ι 0):=(fun o=>((Bl.refl w1).alloc o).cell r1);have R2:Θ (aC (w1.alloc (bD (c.rd ib))) (w.heap.size+1) aE):=⟨(Below.heap_alloc _ _ _ (af R.o.blk)).trans R.o.blk⟩;have Og:∀i,(w1.alloc (bD (c.rd ib))).frozen? ⟨w.heap.size+1,i,none⟩=false:=(fun i=>R2.o.fr i);have Oh:=R2.o.c0;have Oi:=R2.o.c1;have hb1:=H1.base;have mI:w1.cell? ⟨p,12,none⟩=some (.bool false):=(by obtain ⟨vo,vx,hv,X⟩:=H1;rw [X.cells.c12,ho]);have vL:=((Bl.refl w1).alloc (bD (c.rd ib))).cell mI;have N2:Θ (aC (w1.alloc (bD (c.rd ib))) (w.heap.size+1+1) aE):=⟨(Below.heap_alloc _ _ _ bX).trans N1.o.blk⟩;have TZ:=N2.o.c0;have Tu:=N2.o.c1;have U2:Θ (aC (w1.alloc (bD (c.rd ib))) w1.heap.size (c.rd ib)):=⟨aB _ _ _⟩;have I2:Θ (cP (w1.alloc (bD (c.rd ib))) w.heap.size 17 ia ib ic ii Q nl q):=⟨(Below.heap_alloc _ _ _ hw1).trans I1.o.blk⟩;replace H1:=ae H1;replace F1:=ae (HF.o.trans F1))
 have H2:=ae (H1.o.cf ((Cf.refl _ _ _).alloc hb1 (bD (c.rd ib))))
 have F2:=ae (F1.o.alloc hb1 (bD (c.rd ib)))
 have z2:=ae (And.intro U2.o.c0 (And.intro U2.o.c1 (And.intro I2.o.cs.2.2.2.1 I2.o.cs.2.2.2.2.1)))
 refine wp_region_held_drew (S:=fun w'=>κ w' w1.heap.size 0 (ι (c.rd ib).kind)/\κ w' w1.heap.size 1 (ι (c.rd ib).n)/\κ w' w.heap.size 3 (ι ic)/\κ w' w.heap.size 4 (ι ii)) (by kernel_rfl) ?_ (fun aa=>?_)
 ·exact z2.o
 iterate 6 (refine tn rfl (by kernel_rfl) (fun _ _ _ h=>h) (by intro _ h;go_split_ands;go_simp<;>with_reducible rfl) aa ?_;try simp only [aZ])
 refine aY (i:=6) (by kernel_rfl) rfl fun K hK=>?_
 go_simp
 go_at_call 163
 refine (Nu w0 g p (h.rdH c ib 3) (c.rd ib) ic _ (H2.o.drewN 1) (HC.o.same (dW h c ib 3)).cw h3).mono ?_
 rintro e w2 ⟨rfl,H3,F3⟩
 have R3:=ae ((R2.o.drewN 1).keep HC.o.k F3)
 have z0:=R3.o.c0
 have z1:=R3.o.c1
 have TB:=R3.o.fr
 have I3:=ae ((cP.mk I2.o.blk:cP ((w1.alloc (bD (c.rd ib))).drew) _ _ _ _ _ _ _ _ _).keep HC.o.k F3)
 have U3:=ae ((U2.o.drewN 1).keep HC.o.k F3)
 have d8:=ae (And.intro U3.o.c0 (And.intro U3.o.c1 (And.intro I3.o.cs.2.2.2.1 I3.o.cs.2.2.2.2.1)))
 replace H3:=ae H3
 replace F3:=ae ((F2.o.drewN 1).trans F3)
 go_wp2_with fail
 refine hK.out _ _ (d8.o) (fun ah=>?_)
 try simp only [aZ]
 refine aY (i:=7) (by kernel_rfl) rfl fun K hK=>?_
 go_wp2_with fail
 refine hK.out _ _ (⟨bH d8.o.1 (by omega),bH d8.o.2.1 (by omega),bH d8.o.2.2.1 (by omega),bH d8.o.2.2.2 (by omega)⟩) (fun aH=>?_)
 try simp only [aZ]
 refine wpAnyH_done (by kernel_rfl) ?_ _
 go_wp2
 refine bodyPost_ret (results_cell_row rfl _ _ (w.heap.size+1) _ _ _ _ rfl (R3.o.set ((h.rdH c ib 3).isV (c.rd ib) ic)).blk underlying62 rfl bC) rfl ?_
 exact ⟨rfl,H3.o.cf (R3.o.cf HC.o.k (by omega) _ _),(F3.o.new (Nat.le_succ _) (by omega) _).new (Nat.le_succ _) (by omega) _⟩
end
structure Wo (w0:World) (g:Ad) (h:Hp) (c:aL) (k ib ic:Int):Prop where
 op:k=1∨k=2∨k=3∨k=4∨k=5∨k=6∨k=7∨k=8∨k=9∨k=13∨k=14∨k=17∨k=24
 rb:(k=4∨k=5∨k=6∨k=7∨k=8∨k=9∨k=14∨k=17)->0<=ib/\ib<c.locs.length
 rc:(k=5∨k=6∨k=9)->0<=ic/\ic<c.locs.length
 nb:(k=5∨k=6)->cJ (c.rd ib).n/\cJ (c.rd ic).n
 cb:k=13->0<=ib/\ib<h.file.classes.length
 r3:(k=14∨k=17)->(c.rd ib).kind=3->(c.rd ib).n<h.objs.length
 inp:aU w0 g.I h.input
 used:0<=h.sh.used
theorem zK (w0:World) (g:Ad) (p:Nat) (h:Hp) (a:Ca) (c:aL) (k ia ib ic ii:Int) (args:List Int) (Q:Option Addr) (nl q:Nat) (w:World) (hH:Hs w0 g w p h) (hC:aK w0 w a c) (C:Cq w0 g h) (G:Wo w0 g h c k ib ic) :
  χ 136 #[π p 0,π a.q 0,.agg #[ι k,ι ia,ι ib,ι ic,ι ii,.slice Q nl q]] w fun e w'=>e=.returned (jh (aG h c ⟨k,ia,ib,ic,ii,args⟩))/\Hs w0 g w' p (givesH h c ⟨k,ia,ib,ic,ii,args⟩)/\Fr w0.heap.size g.T w w':=by
 obtain ⟨hk,rb,rc,nb,cb,r3,inp,used⟩:=G
 rcases hk with rfl|rfl|rfl|rfl|rfl|rfl|rfl|rfl|rfl|rfl|rfl|rfl|rfl
 ·exact zB w0 g p h a c ia ib ic ii args Q nl q w hH hC C
 ·exact zC w0 g p h a c ia ib ic ii args Q nl q w hH hC C
 ·exact zD w0 g p h a c ia ib ic ii args Q nl q w hH hC C
 ·exact zE w0 g p h a c ia ib ic ii args Q nl q w hH hC C (rb (by decide))
 ·exact zH w0 g p h a c ia ib ic ii args Q nl q w hH hC C (rb (by decide)) (rc (by decide)) (nb (by decide)).1 (nb (by decide)).2
 ·exact zI w0 g p h a c ia ib ic ii args Q nl q w hH hC C (rb (by decide)) (rc (by decide)) (nb (by decide)).1 (nb (by decide)).2
 ·exact zF w0 g p h a c ia ib ic ii args Q nl q w hH hC C (rb (by decide))
 ·exact zG w0 g p h a c ia ib ic ii args Q nl q w hH hC C (rb (by decide))
 ·exact zJ w0 g p h a c ia ib ic ii args Q nl q w hH hC C (rb (by decide)) (rc (by decide))
 ·exact xI w0 g p h a c ia ib ic ii args Q nl q w hH hC C (cb rfl)
 ·cases ho:(h.rdH c ib 3).over
  ·exact xJ w0 g p h a c ia ib ic ii args Q nl q w hH hC C (rb (by decide)) ho (by rw [eO];exact r3 (by decide))
  ·exact vK w0 g p h a c ia ib ic ii args Q nl q w hH hC C (rb (by decide)) ho
 ·cases ho:(h.rdH c ib 3).over
  ·exact xK w0 g p h a c ia ib ic ii args Q nl q w hH hC C (rb (by decide)) ho (by rw [eO];exact r3 (by decide))
  ·exact vM w0 g p h a c ia ib ic ii args Q nl q w hH hC C (rb (by decide)) ho
 ·exact xH w0 g p h a c ia ib ic ii args Q nl q w hH hC C inp used
theorem jH (k ia ib ic ii:Int) (Q:Option Addr) (nl q:Nat) (hH:Hs w0 g w p h) (hC:aK w0 w a c) (C:Cq w0 g h) :
  Θ (Fr w0.heap.size g.T w (w.alloc (.cells #[ι k,ι ia,ι ib,ι ic,ι ii,.slice Q nl q] 55)))/\Θ (Hs w0 g (w.alloc (.cells #[ι k,ι ia,ι ib,ι ic,ι ii,.slice Q nl q] 55)) p h)/\Θ (aK w0 (w.alloc (.cells #[ι k,ι ia,ι ib,ι ic,ι ii,.slice Q nl q] 55)) a c)/\Θ (cP (w.alloc (.cells #[ι k,ι ia,ι ib,ι ic,ι ii,.slice Q nl q] 55)) w.heap.size k ia ib ic ii Q nl q)/\Θ (Cq w0 g h)/\(w.alloc (.cells #[ι k,ι ia,ι ib,ι ic,ι ii,.slice Q nl q] 55)).cell? ⟨a.q,13,none⟩=some (ι c.pc)/\w0.heap.size<=w.heap.size/\a.q<w.heap.size/\a.lb<w.heap.size:=by
 have hb:=hH.base
 have F0:Fr w0.heap.size g.T w (w.alloc (.cells #[ι k,ι ia,ι ib,ι ic,ι ii,.slice Q nl q] 55)):=(Fr.refl _ _ w).alloc hb _
 have A0:=hC.fr C.k C.n7 F0
 exact ⟨F0,hH.cf ((Cf.refl _ _ w).alloc hb _),A0,⟨aB _ _ _⟩,C,A0.cells.c13,hb,af hC.blk,af hC.loc.blk⟩
section
variable (w0:World) (g:Ad) (p:Nat) (h:Hp) (a:Ca) (c:aL) (ia ib ic ii:Int) (Q:Option Addr) (nl q:Nat) (w:World)
theorem zL (hH:Hs w0 g w p h) (hC:aK w0 w a c) (C:Cq w0 g h) (hp:0<=c.pc/\c.pc<=100000) :
  χ 76 #[π p 0,π a.q 0,.agg #[ι 10,ι ia,ι ib,ι ic,ι ii,.slice Q nl q]] w fun e w'=>e=.returned (ι (ia))/\Hs w0 g w' p (h)/\Fr w0.heap.size g.T w w':=by
 obtain ⟨HF,HH,HA,HI,HC,d13,hb,hq,hl⟩:=jH 10 ia ib ic ii Q nl q hH hC C
 clear hH hC C
 go_enter func76,ntmps76
 go_wp2
 go_ret
 exact ⟨rfl,HH.o,HF.o⟩
theorem xL (hH:Hs w0 g w p h) (hC:aK w0 w a c) (C:Cq w0 g h) (hp:0<=c.pc/\c.pc<=100000) (hr:0<=ic/\ic<c.locs.length) (hh:kC ib (c.rd ic).n=true) :
  χ 76 #[π p 0,π a.q 0,.agg #[ι 11,ι ia,ι ib,ι ic,ι ii,.slice Q nl q]] w fun e w'=>e=.returned (ι (ia))/\Hs w0 g w' p (h.rdH c ic 1)/\Fr w0.heap.size g.T w w':=by
 obtain ⟨HF,HH,HA,HI,HC,d13,hb,hq,hl⟩:=jH 11 ia ib ic ii Q nl q hH hC C
 clear hH hC C
 go_enter func76,ntmps76
 go_wp2_with (first
  | (go_at_call 74;refine (bQ w0 g p h a c ic 1 _ HH.o HA.o HC.o hr).mono ?_;rintro e w1 ⟨rfl,H1,F1⟩;have hb1:=H1.base;have I1:=HI.o.keep HC.o.k F1;obtain ⟨i0,i1,i2,i3,i4,i5⟩:=I1.cs;have hw1:=af I1.blk;have I2:Θ (cP (w1.alloc (bD (c.rd ic))) w.heap.size 11 ia ib ic ii Q nl q):=⟨(Below.heap_alloc _ _ _ hw1).trans I1.blk⟩;replace I1:=ae I1;obtain ⟨j0,j1,j2,j3,j4,j5⟩:=I2.o.cs;have U2:Θ (aC (w1.alloc (bD (c.rd ic))) w1.heap.size (c.rd ic)):=⟨aB _ _ _⟩;have u0:=U2.o.c0;have u1:=U2.o.c1;have H2:=ae (H1.cf ((Cf.refl _ _ _).alloc hb1 (bD (c.rd ic))));have F2:=ae ((HF.o.trans F1).alloc hb1 (bD (c.rd ic)));clear H1 F1)
  | (go_at_call 111;refine (qO _ _ _).mono ?_;rintro e w2 ⟨he,hw⟩;rw [hh] at he;subst he;rw [hw];clear hw w2))
 go_ret
 exact ⟨rfl,H2.o,F2.o⟩
theorem xM (hH:Hs w0 g w p h) (hC:aK w0 w a c) (C:Cq w0 g h) (hp:0<=c.pc/\c.pc<=100000) (hr:0<=ic/\ic<c.locs.length) (hh:decide ((c.rd ic).n<0)=true) :
  χ 76 #[π p 0,π a.q 0,.agg #[ι 12,ι ia,ι ib,ι ic,ι ii,.slice Q nl q]] w fun e w'=>e=.returned (ι (ia))/\Hs w0 g w' p (h.rdH c ic 3)/\Fr w0.heap.size g.T w w':=by
 obtain ⟨HF,HH,HA,HI,HC,d13,hb,hq,hl⟩:=jH 12 ia ib ic ii Q nl q hH hC C
 clear hH hC C
 go_enter func76,ntmps76
 go_wp2_with (go_at_call 74;refine (bQ w0 g p h a c ic 3 _ HH.o HA.o HC.o hr).mono ?_;rintro e w1 ⟨rfl,H1,F1⟩;have hb1:=H1.base;have I1:=HI.o.keep HC.o.k F1;obtain ⟨i0,i1,i2,i3,i4,i5⟩:=I1.cs;have hw1:=af I1.blk;have I2:Θ (cP (w1.alloc (bD (c.rd ic))) w.heap.size 12 ia ib ic ii Q nl q):=⟨(Below.heap_alloc _ _ _ hw1).trans I1.blk⟩;replace I1:=ae I1;obtain ⟨j0,j1,j2,j3,j4,j5⟩:=I2.o.cs;have U2:Θ (aC (w1.alloc (bD (c.rd ic))) w1.heap.size (c.rd ic)):=⟨aB _ _ _⟩;have u0:=U2.o.c0;have u1:=U2.o.c1;have H2:=ae (H1.cf ((Cf.refl _ _ _).alloc hb1 (bD (c.rd ic))));have F2:=ae ((HF.o.trans F1).alloc hb1 (bD (c.rd ic)));clear H1 F1)
 go_ret
 exact ⟨rfl,H2.o,F2.o⟩
theorem xN (hH:Hs w0 g w p h) (hC:aK w0 w a c) (C:Cq w0 g h) (hp:0<=c.pc/\c.pc<=100000) (hr:0<=ic/\ic<c.locs.length) (hh:kC ib (c.rd ic).n=false) :
  χ 76 #[π p 0,π a.q 0,.agg #[ι 11,ι ia,ι ib,ι ic,ι ii,.slice Q nl q]] w fun e w'=>e=.returned (ι (c.pc+1))/\Hs w0 g w' p (h.rdH c ic 1)/\Fr w0.heap.size g.T w w':=by
 obtain ⟨HF,HH,HA,HI,HC,d13,hb,hq,hl⟩:=jH 11 ia ib ic ii Q nl q hH hC C
 clear hH hC C
 go_enter func76,ntmps76
 go_wp2_with (first
  | (go_at_call 74;refine (bQ w0 g p h a c ic 1 _ HH.o HA.o HC.o hr).mono ?_;rintro e w1 ⟨rfl,H1,F1⟩;have hb1:=H1.base;have I1:=HI.o.keep HC.o.k F1;obtain ⟨i0,i1,i2,i3,i4,i5⟩:=I1.cs;have hw1:=af I1.blk;have I2:Θ (cP (w1.alloc (bD (c.rd ic))) w.heap.size 11 ia ib ic ii Q nl q):=⟨(Below.heap_alloc _ _ _ hw1).trans I1.blk⟩;replace I1:=ae I1;obtain ⟨j0,j1,j2,j3,j4,j5⟩:=I2.o.cs;have U2:Θ (aC (w1.alloc (bD (c.rd ic))) w1.heap.size (c.rd ic)):=⟨aB _ _ _⟩;have u0:=U2.o.c0;have u1:=U2.o.c1;have H2:=ae (H1.cf ((Cf.refl _ _ _).alloc hb1 (bD (c.rd ic))));have F2:=ae ((HF.o.trans F1).alloc hb1 (bD (c.rd ic)));clear H1 F1)
  | (go_at_call 111;refine (qO _ _ _).mono ?_;rintro e w2 ⟨he,hw⟩;rw [hh] at he;subst he;rw [hw];clear hw w2))
 go_ret
 exact ⟨rfl,H2.o,F2.o⟩
theorem xO (hH:Hs w0 g w p h) (hC:aK w0 w a c) (C:Cq w0 g h) (hp:0<=c.pc/\c.pc<=100000) (hr:0<=ic/\ic<c.locs.length) (hh:decide ((c.rd ic).n<0)=false) :
  χ 76 #[π p 0,π a.q 0,.agg #[ι 12,ι ia,ι ib,ι ic,ι ii,.slice Q nl q]] w fun e w'=>e=.returned (ι (c.pc+1))/\Hs w0 g w' p (h.rdH c ic 3)/\Fr w0.heap.size g.T w w':=by
 obtain ⟨HF,HH,HA,HI,HC,d13,hb,hq,hl⟩:=jH 12 ia ib ic ii Q nl q hH hC C
 clear hH hC C
 go_enter func76,ntmps76
 go_wp2_with (go_at_call 74;refine (bQ w0 g p h a c ic 3 _ HH.o HA.o HC.o hr).mono ?_;rintro e w1 ⟨rfl,H1,F1⟩;have hb1:=H1.base;have I1:=HI.o.keep HC.o.k F1;obtain ⟨i0,i1,i2,i3,i4,i5⟩:=I1.cs;have hw1:=af I1.blk;have I2:Θ (cP (w1.alloc (bD (c.rd ic))) w.heap.size 12 ia ib ic ii Q nl q):=⟨(Below.heap_alloc _ _ _ hw1).trans I1.blk⟩;replace I1:=ae I1;obtain ⟨j0,j1,j2,j3,j4,j5⟩:=I2.o.cs;have U2:Θ (aC (w1.alloc (bD (c.rd ic))) w1.heap.size (c.rd ic)):=⟨aB _ _ _⟩;have u0:=U2.o.c0;have u1:=U2.o.c1;have H2:=ae (H1.cf ((Cf.refl _ _ _).alloc hb1 (bD (c.rd ic))));have F2:=ae ((HF.o.trans F1).alloc hb1 (bD (c.rd ic)));clear H1 F1)
 go_ret
 exact ⟨rfl,H2.o,F2.o⟩
theorem xP (hH:Hs w0 g w p h) (hC:aK w0 w a c) (C:Cq w0 g h) (hp:0<=c.pc/\c.pc<=100000) (hr:0<=ia/\ia<c.locs.length) (ho:(h.rdH c ia 3).over=true) :
  χ 76 #[π p 0,π a.q 0,.agg #[ι 21,ι ia,ι ib,ι ic,ι ii,.slice Q nl q]] w fun e w'=>e=.returned (ι (c.pc+1))/\Hs w0 g w' p (h.rdH c ia 3)/\Fr w0.heap.size g.T w w':=by
 obtain ⟨HF,HH,HA,HI,HC,d13,hb,hq,hl⟩:=jH 21 ia ib ic ii Q nl q hH hC C
 clear hH hC C
 go_enter func76,ntmps76
 go_wp2_with (go_at_call 74;refine (bQ w0 g p h a c ia 3 _ HH.o HA.o HC.o hr).mono ?_;rintro e w1 ⟨rfl,H1,F1⟩;have hb1:=H1.base;have I1:=HI.o.keep HC.o.k F1;obtain ⟨i0,i1,i2,i3,i4,i5⟩:=I1.cs;have hw1:=af I1.blk;have I2:Θ (cP (w1.alloc (bD (c.rd ia))) w.heap.size 21 ia ib ic ii Q nl q):=⟨(Below.heap_alloc _ _ _ hw1).trans I1.blk⟩;replace I1:=ae I1;obtain ⟨j0,j1,j2,j3,j4,j5⟩:=I2.o.cs;have U2:Θ (aC (w1.alloc (bD (c.rd ia))) w1.heap.size (c.rd ia)):=⟨aB _ _ _⟩;have u0:=U2.o.c0;have u1:=U2.o.c1;have mI:w1.cell? ⟨p,12,none⟩=some (.bool true):=(by obtain ⟨vo,vx,hv,X⟩:=H1;rw [X.cells.c12,ho]);have vL:=((Bl.refl w1).alloc (bD (c.rd ia))).cell mI;have H2:=ae (H1.cf ((Cf.refl _ _ _).alloc hb1 (bD (c.rd ia))));have F2:=ae ((HF.o.trans F1).alloc hb1 (bD (c.rd ia)));clear H1 F1)
 go_ret
 exact ⟨rfl,H2.o,F2.o⟩
theorem zM (hH:Hs w0 g w p h) (hC:aK w0 w a c) (C:Cq w0 g h) (hp:0<=c.pc/\c.pc<=100000) (hr:0<=ia/\ia<c.locs.length) (ho:(h.rdH c ia 3).over=false) :
  χ 76 #[π p 0,π a.q 0,.agg #[ι 21,ι ia,ι ib,ι ic,ι ii,.slice Q nl q]] w fun e w'=>e=.returned (ι (c.pc+1))/\Hs w0 g w' p ((h.rdH c ia 3).throw (c.rd ia))/\Fr w0.heap.size g.T w w':=by
 obtain ⟨HF,HH,HA,HI,HC,d13,hb,hq,hl⟩:=jH 21 ia ib ic ii Q nl q hH hC C
 clear hH hC C
 go_enter func76,ntmps76
 go_wp2_with (go_at_call 74;refine (bQ w0 g p h a c ia 3 _ HH.o HA.o HC.o hr).mono ?_;rintro e w1 ⟨rfl,H1,F1⟩;have hb1:=H1.base;have I1:=HI.o.keep HC.o.k F1;obtain ⟨i0,i1,i2,i3,i4,i5⟩:=I1.cs;have hw1:=af I1.blk;have I2:Θ (cP (w1.alloc (bD (c.rd ia))) w.heap.size 21 ia ib ic ii Q nl q):=⟨(Below.heap_alloc _ _ _ hw1).trans I1.blk⟩;replace I1:=ae I1;obtain ⟨j0,j1,j2,j3,j4,j5⟩:=I2.o.cs;have U2:Θ (aC (w1.alloc (bD (c.rd ia))) w1.heap.size (c.rd ia)):=⟨aB _ _ _⟩;have u0:=U2.o.c0;have u1:=U2.o.c1;have mI:w1.cell? ⟨p,12,none⟩=some (.bool false):=(by obtain ⟨vo,vx,hv,X⟩:=H1;rw [X.cells.c12,ho]);have vL:=((Bl.refl w1).alloc (bD (c.rd ia))).cell mI;have H2:=ae (H1.cf ((Cf.refl _ _ _).alloc hb1 (bD (c.rd ia))));have F2:=ae ((HF.o.trans F1).alloc hb1 (bD (c.rd ia)));clear H1 F1)
 have z2:=ae (And.intro U2.o.c0 (And.intro U2.o.c1 I2.o.cs.2.2.1))
 refine wp_region_held_drew (S:=fun w'=>κ w' w1.heap.size 0 (ι (c.rd ia).kind)/\κ w' w1.heap.size 1 (ι (c.rd ia).n)/\κ w' w.heap.size 2 (ι ib)) (by kernel_rfl) ?_ (fun aa=>?_)
 ·exact z2.o
 iterate 4 (refine tn rfl (by kernel_rfl) (fun _ _ _ h=>h) (by intro _ h;go_split_ands;go_simp<;>with_reducible rfl) aa ?_;try simp only [aZ])
 refine aY (i:=4) (by kernel_rfl) rfl fun K hK=>?_
 go_simp
 go_at_call 113
 refine (Da w0 g p (h.rdH c ia 3) (c.rd ia) _ (H2.o.drewN 1) (HC.o.same (dW h c ia 3)).cw).mono ?_
 rintro e w2 ⟨rfl,H3,F3⟩
 have I3:=ae ((cP.mk I2.o.blk:cP ((w1.alloc (bD (c.rd ia))).drew) _ _ _ _ _ _ _ _ _).keep HC.o.k F3)
 have U3:=ae ((U2.o.drewN 1).keep HC.o.k F3)
 have d8:=ae (And.intro U3.o.c0 (And.intro U3.o.c1 I3.o.cs.2.2.1))
 replace H3:=ae H3
 replace F3:=ae ((F2.o.drewN 1).trans F3)
 go_wp2_with fail
 refine hK.out _ _ (d8.o) (fun ah=>?_)
 try simp only [aZ]
 refine wpAnyH_done (by kernel_rfl) ?_ _
 go_wp2
 go_ret
 exact ⟨rfl,H3.o,F3.o⟩
theorem xQ (hH:Hs w0 g w p h) (hC:aK w0 w a c) (C:Cq w0 g h) (hp:0<=c.pc/\c.pc<=100000) (hr:0<=ia/\ia<c.locs.length) (ho:(h.rdH c ia 3).over=true) :
  χ 76 #[π p 0,π a.q 0,.agg #[ι 16,ι ia,ι ib,ι ic,ι ii,.slice Q nl q]] w fun e w'=>e=.returned (ι (c.pc+1))/\Hs w0 g w' p (h.rdH c ia 3)/\Fr w0.heap.size g.T w w':=by
 obtain ⟨HF,HH,HA,HI,HC,d13,hb,hq,hl⟩:=jH 16 ia ib ic ii Q nl q hH hC C
 clear hH hC C
 go_enter func76,ntmps76
 go_wp2_with (go_at_call 74;refine (bQ w0 g p h a c ia 3 _ HH.o HA.o HC.o hr).mono ?_;rintro e w1 ⟨rfl,H1,F1⟩;have hb1:=H1.base;have I1:=HI.o.keep HC.o.k F1;obtain ⟨i0,i1,i2,i3,i4,i5⟩:=I1.cs;have hw1:=af I1.blk;have I2:Θ (cP (w1.alloc (bD (c.rd ia))) w.heap.size 16 ia ib ic ii Q nl q):=⟨(Below.heap_alloc _ _ _ hw1).trans I1.blk⟩;replace I1:=ae I1;obtain ⟨j0,j1,j2,j3,j4,j5⟩:=I2.o.cs;have U2:Θ (aC (w1.alloc (bD (c.rd ia))) w1.heap.size (c.rd ia)):=⟨aB _ _ _⟩;have u0:=U2.o.c0;have u1:=U2.o.c1;have mI:w1.cell? ⟨p,12,none⟩=some (.bool true):=(by obtain ⟨vo,vx,hv,X⟩:=H1;rw [X.cells.c12,ho]);have vL:=((Bl.refl w1).alloc (bD (c.rd ia))).cell mI;have H2:=ae (H1.cf ((Cf.refl _ _ _).alloc hb1 (bD (c.rd ia))));have F2:=ae ((HF.o.trans F1).alloc hb1 (bD (c.rd ia)));clear H1 F1)
 go_ret
 exact ⟨rfl,H2.o,F2.o⟩
theorem zN (hH:Hs w0 g w p h) (hC:aK w0 w a c) (C:Cq w0 g h) (hp:0<=c.pc/\c.pc<=100000) (hr:0<=ia/\ia<c.locs.length) (ho:(h.rdH c ia 3).over=false) (h3:(c.rd ia).kind=3->(c.rd ia).n<(h.rdH c ia 3).objs.length) :
  χ 76 #[π p 0,π a.q 0,.agg #[ι 16,ι ia,ι ib,ι ic,ι ii,.slice Q nl q]] w fun e w'=>e=.returned (ι (c.pc+1))/\Hs w0 g w' p ((h.rdH c ia 3).cast (c.rd ia) ib)/\Fr w0.heap.size g.T w w':=by
 obtain ⟨HF,HH,HA,HI,HC,d13,hb,hq,hl⟩:=jH 16 ia ib ic ii Q nl q hH hC C
 clear hH hC C
 go_enter func76,ntmps76
 go_wp2_with (go_at_call 74;refine (bQ w0 g p h a c ia 3 _ HH.o HA.o HC.o hr).mono ?_;rintro e w1 ⟨rfl,H1,F1⟩;have hb1:=H1.base;have I1:=HI.o.keep HC.o.k F1;obtain ⟨i0,i1,i2,i3,i4,i5⟩:=I1.cs;have hw1:=af I1.blk;have I2:Θ (cP (w1.alloc (bD (c.rd ia))) w.heap.size 16 ia ib ic ii Q nl q):=⟨(Below.heap_alloc _ _ _ hw1).trans I1.blk⟩;replace I1:=ae I1;obtain ⟨j0,j1,j2,j3,j4,j5⟩:=I2.o.cs;have U2:Θ (aC (w1.alloc (bD (c.rd ia))) w1.heap.size (c.rd ia)):=⟨aB _ _ _⟩;have u0:=U2.o.c0;have u1:=U2.o.c1;have mI:w1.cell? ⟨p,12,none⟩=some (.bool false):=(by obtain ⟨vo,vx,hv,X⟩:=H1;rw [X.cells.c12,ho]);have vL:=((Bl.refl w1).alloc (bD (c.rd ia))).cell mI;have H2:=ae (H1.cf ((Cf.refl _ _ _).alloc hb1 (bD (c.rd ia))));have F2:=ae ((HF.o.trans F1).alloc hb1 (bD (c.rd ia)));clear H1 F1)
 have z2:=ae (And.intro U2.o.c0 (And.intro U2.o.c1 I2.o.cs.2.2.1))
 refine wp_region_held_drew (S:=fun w'=>κ w' w1.heap.size 0 (ι (c.rd ia).kind)/\κ w' w1.heap.size 1 (ι (c.rd ia).n)/\κ w' w.heap.size 2 (ι ib)) (by kernel_rfl) ?_ (fun aa=>?_)
 ·exact z2.o
 iterate 6 (refine tn rfl (by kernel_rfl) (fun _ _ _ h=>h) (by intro _ h;go_split_ands;go_simp<;>with_reducible rfl) aa ?_;try simp only [aZ])
 refine aY (i:=6) (by kernel_rfl) rfl fun K hK=>?_
 go_simp
 go_at_call 135
 refine (Gm w0 g p (h.rdH c ia 3) (c.rd ia) ib _ (H2.o.drewN 1) (HC.o.same (dW h c ia 3)).cw h3).mono ?_
 rintro e w2 ⟨rfl,H3,F3⟩
 have I3:=ae ((cP.mk I2.o.blk:cP ((w1.alloc (bD (c.rd ia))).drew) _ _ _ _ _ _ _ _ _).keep HC.o.k F3)
 have U3:=ae ((U2.o.drewN 1).keep HC.o.k F3)
 have d8:=ae (And.intro U3.o.c0 (And.intro U3.o.c1 I3.o.cs.2.2.1))
 replace H3:=ae H3
 replace F3:=ae ((F2.o.drewN 1).trans F3)
 go_wp2_with fail
 refine hK.out _ _ (d8.o) (fun ah=>?_)
 try simp only [aZ]
 refine wpAnyH_done (by kernel_rfl) ?_ _
 go_wp2
 go_ret
 exact ⟨rfl,H3.o,F3.o⟩
theorem xR (hH:Hs w0 g w p h) (hC:aK w0 w a c) (C:Cq w0 g h) (hp:0<=c.pc/\c.pc<=100000) (hr:0<=ia/\ia<c.locs.length) (ho:(h.rdH c ia ib).over=true) :
  χ 76 #[π p 0,π a.q 0,.agg #[ι 23,ι ia,ι ib,ι ic,ι ii,.slice Q nl q]] w fun e w'=>e=.returned (ι (c.pc+1))/\Hs w0 g w' p (h.rdH c ia ib)/\Fr w0.heap.size g.T w w':=by
 obtain ⟨HF,HH,HA,HI,HC,d13,hb,hq,hl⟩:=jH 23 ia ib ic ii Q nl q hH hC C
 clear hH hC C
 go_enter func76,ntmps76
 go_wp2_with (go_at_call 74;refine (bQ w0 g p h a c ia ib _ HH.o HA.o HC.o hr).mono ?_;rintro e w1 ⟨rfl,H1,F1⟩;have hb1:=H1.base;have I1:=HI.o.keep HC.o.k F1;obtain ⟨i0,i1,i2,i3,i4,i5⟩:=I1.cs;have hw1:=af I1.blk;have I2:Θ (cP (w1.alloc (bD (c.rd ia))) w.heap.size 23 ia ib ic ii Q nl q):=⟨(Below.heap_alloc _ _ _ hw1).trans I1.blk⟩;replace I1:=ae I1;obtain ⟨j0,j1,j2,j3,j4,j5⟩:=I2.o.cs;have U2:Θ (aC (w1.alloc (bD (c.rd ia))) w1.heap.size (c.rd ia)):=⟨aB _ _ _⟩;have u0:=U2.o.c0;have u1:=U2.o.c1;have mI:w1.cell? ⟨p,12,none⟩=some (.bool true):=(by obtain ⟨vo,vx,hv,X⟩:=H1;rw [X.cells.c12,ho]);have vL:=((Bl.refl w1).alloc (bD (c.rd ia))).cell mI;have H2:=ae (H1.cf ((Cf.refl _ _ _).alloc hb1 (bD (c.rd ia))));have F2:=ae ((HF.o.trans F1).alloc hb1 (bD (c.rd ia)));clear H1 F1)
 go_ret
 exact ⟨rfl,H2.o,F2.o⟩
theorem zO (hH:Hs w0 g w p h) (hC:aK w0 w a c) (C:Cq w0 g h) (hp:0<=c.pc/\c.pc<=100000) (hr:0<=ia/\ia<c.locs.length) (ho:(h.rdH c ia ib).over=false) (h3:(h.rdH c ia ib).sh.o.length<=60000) :
  χ 76 #[π p 0,π a.q 0,.agg #[ι 23,ι ia,ι ib,ι ic,ι ii,.slice Q nl q]] w fun e w'=>e=.returned (ι (c.pc+1))/\Hs w0 g w' p ((h.rdH c ia ib).emit (c.rd ia) ib)/\Fr w0.heap.size g.T w w':=by
 obtain ⟨HF,HH,HA,HI,HC,d13,hb,hq,hl⟩:=jH 23 ia ib ic ii Q nl q hH hC C
 clear hH hC C
 go_enter func76,ntmps76
 go_wp2_with (go_at_call 74;refine (bQ w0 g p h a c ia ib _ HH.o HA.o HC.o hr).mono ?_;rintro e w1 ⟨rfl,H1,F1⟩;have hb1:=H1.base;have I1:=HI.o.keep HC.o.k F1;obtain ⟨i0,i1,i2,i3,i4,i5⟩:=I1.cs;have hw1:=af I1.blk;have I2:Θ (cP (w1.alloc (bD (c.rd ia))) w.heap.size 23 ia ib ic ii Q nl q):=⟨(Below.heap_alloc _ _ _ hw1).trans I1.blk⟩;replace I1:=ae I1;obtain ⟨j0,j1,j2,j3,j4,j5⟩:=I2.o.cs;have U2:Θ (aC (w1.alloc (bD (c.rd ia))) w1.heap.size (c.rd ia)):=⟨aB _ _ _⟩;have u0:=U2.o.c0;have u1:=U2.o.c1;have mI:w1.cell? ⟨p,12,none⟩=some (.bool false):=(by obtain ⟨vo,vx,hv,X⟩:=H1;rw [X.cells.c12,ho]);have vL:=((Bl.refl w1).alloc (bD (c.rd ia))).cell mI;have H2:=ae (H1.cf ((Cf.refl _ _ _).alloc hb1 (bD (c.rd ia))));have F2:=ae ((HF.o.trans F1).alloc hb1 (bD (c.rd ia)));clear H1 F1)
 have z2:=ae (And.intro U2.o.c0 (And.intro U2.o.c1 I2.o.cs.2.2.1))
 refine wp_region_held_drew (S:=fun w'=>κ w' w1.heap.size 0 (ι (c.rd ia).kind)/\κ w' w1.heap.size 1 (ι (c.rd ia).n)/\κ w' w.heap.size 2 (ι ib)) (by kernel_rfl) ?_ (fun aa=>?_)
 ·exact z2.o
 iterate 6 (refine tn rfl (by kernel_rfl) (fun _ _ _ h=>h) (by intro _ h;go_split_ands;go_simp<;>with_reducible rfl) aa ?_;try simp only [aZ])
 refine aY (i:=6) (by kernel_rfl) rfl fun K hK=>?_
 go_simp
 go_at_call 114
 refine (Gd w0 g HC.o.k p (h.rdH c ia ib) (c.rd ia) ib _ (H2.o.drewN 1) h3).mono ?_
 rintro e w2 ⟨rfl,H3,F3⟩
 have I3:=ae ((cP.mk I2.o.blk:cP ((w1.alloc (bD (c.rd ia))).drew) _ _ _ _ _ _ _ _ _).keep HC.o.k F3)
 have U3:=ae ((U2.o.drewN 1).keep HC.o.k F3)
 have d8:=ae (And.intro U3.o.c0 (And.intro U3.o.c1 I3.o.cs.2.2.1))
 replace H3:=ae H3
 replace F3:=ae ((F2.o.drewN 1).trans F3)
 go_wp2_with fail
 refine hK.out _ _ (d8.o) (fun ah=>?_)
 try simp only [aZ]
 refine wpAnyH_done (by kernel_rfl) ?_ _
 go_wp2
 go_ret
 exact ⟨rfl,H3.o,F3.o⟩
end
def ej (lb:Nat) (w:World) (A:Option Addr) (l:List Va):Prop :=
 l.length=0∨∃b off cs f,A=some ⟨b,off,none⟩/\w.heap[b]?=some (.cells cs 62 f)/\b≠lb /\
  ∀i,i<l.length->cs[off+i*2]?=some (ι (nth aE l i).kind)/\cs[off+i*2+1]?=some (ι (nth aE l i).n)
theorem ej.keep (h:ej lb w A l) (k:∀b cs f,w.heap[b]?=some (.cells cs 62 f)->b≠lb->w'.heap[b]?=some (.cells cs 62 f)):ej lb w' A l:=by
 rcases h with h|⟨b,off,cs,f,h1,h2,h3,h4⟩
 ·exact Or.inl h
 ·exact Or.inr ⟨b,off,cs,f,h1,k b cs f h2 h3,h3,h4⟩
theorem ej.fr (h:ej lb w A l) (k:Tk T) (f:Fr B T w w'):ej lb w' A l :=
 h.keep fun b cs fz e _=>f.keep b cs _ fz e k.nv
theorem rJ:(Tryz.prog.info? 62).map (fun i=>(i.zero,i.size,i.bytes))=some (some (.agg #[ι 0,ι 0]),2,16):=by kernel_rfl
theorem GF:∀(k j:Nat),j<k*2->(bh (List.replicate k aE))[j]?=some (ι 0)
 | 0,j,h=>by omega
 | k+1,0,_=>by rw [List.replicate_succ];rfl
 | k+1,1,_=>by rw [List.replicate_succ];rfl
 | k+1,j+2,h=>by
  rw [List.replicate_succ]
  show (bh (List.replicate k aE))[j]?=_
  exact GF k j (by omega)
theorem KR (k:Nat):madeCells #[ι 0,ι 0] (k*2)=(bh (List.replicate k aE)).toArray:=by
 apply Array.ext_getElem?
 intro j
 by_cases hj:j<k*2
 ·have h2:=GF k j hj
  simp only [List.getElem?_toArray,h2]
  unfold madeCells
  have hm:j%2=0∨j%2=1:=by omega
  rcases hm with hm|hm<;>simp [hj,hm]
 ·rw [Array.getElem?_eq_none (by rw [size_madeCells];omega),Array.getElem?_eq_none (by simp [lz];omega)]
theorem KS (n:Nat) (hn:n<=1000000) (u:World):(Instr.makeSlice 58 (ι (n:Int)) (ι (n:Int))).run Tryz.prog u=.ok (.slice (some ⟨u.heap.size,0,none⟩) n n) (u.alloc (.cells (bh (List.replicate n aE)).toArray 62)):=by
 obtain ⟨i,hi,hz,hs,hb⟩:=info_parts rJ
 have h:=run_make u 58 62 i _ underlying58 hi hz .i64 .i64 (n:Int) (n:Int) (by omega) (Int.le_refl _) (by rw [hb];omega) (by omega)
 rw [hs] at h
 simp only [Int.toNat_natCast] at h
 rw [<-KR]
 exact h
theorem cK {cs:Array Value} {t:TypeId} (hb:b=w.heap.size):(w.alloc (.cells cs t)).heap[b]?=some (.cells cs t (0,0)):=by subst hb;exact aB _ _ _
theorem fH {o o':Obj} (hb:b<w.heap.size) (h:w.heap[b]?=some o):(w.alloc o').heap[b]?=some o:=(Below.heap_alloc _ _ _ hb).trans h
theorem xS {W0 W w1:World} (h:Bl W0 W) {row:Option Nat} (hg:W.grownBy w1 row) (hr:∀k,row=some k->W0.heap.size<=k):Bl W0 w1:=Below.grown h hg h.size hr
theorem Hs.old (H:Hs w0 g w p h) (hb:Bl w w'):Hs w0 g w' p h:=by
 obtain ⟨vo,vx,hv,H⟩:=H
 exact ⟨vo,vx,hv,H.old hb⟩
theorem BH {cap:Nat} (h:w.ownsRow base 62 2 (.slice (some ⟨b,0,none⟩) n cap) n (bh l)) (hl:lb<base) (hn:n=l.length):ej lb w (some ⟨b,0,none⟩) l/\l.length<=cap:=by
 subst hn
 rcases h.2 with ⟨h1,h2⟩|⟨gb,cp,cur,h1,h2,h3,h4,h5,h6,h7⟩
 ·simp at h1
 ·simp at h1
  obtain ⟨rfl,rfl⟩:=h1
  refine ⟨Or.inr ⟨b,0,cur,(0,0),rfl,h3,by omega,fun i hi=>?_⟩,h4⟩
  have hv:=jX l i hi
  rw [<-h7] at hv
  rw [List.getElem?_take,if_pos (by omega),List.getElem?_take,if_pos (by omega)] at hv
  simpa using hv
theorem KT (A:Option Addr) (c n:Nat) (l:List Va) (w:World) (hl:Gn w A l) (hb:l.length<=1000000) (hn:n=l.length) :
  χ 53 #[.slice A n c] w fun e w'=>e=.returned (ι (bN l:Nat))/\w'=w:=by
 subst hn
 exact Gp A c l w hl hb
theorem aK.old (h:aK w0 w a c) (hb:Bl w w'):aK w0 w' a c :=
 ⟨h.own,h.ownl,(hb.block _ (af h.blk)).trans h.blk,⟨(hb.block _ (af h.loc.blk)).trans h.loc.blk,h.loc.len⟩,h.me⟩
theorem aC.fq {v:Va} (h:aC w b v) (k:Tk T) (f:Fq B T a w w') (h1:b≠a.q) (h2:b≠a.lb):aC w' b v:=⟨f.keep _ _ _ _ h.blk k.nv h1 h2⟩
theorem ej.fst (h:ej lb w A l) (hl:0<l.length):∃b off,A=some ⟨b,off,none⟩/\∀i,i<l.length->w.cell? ⟨b,off+i*2,none⟩=some (ι (nth aE l i).kind)/\w.cell? ⟨b,off+i*2+1,none⟩=some (ι (nth aE l i).n):=by
 rcases h with h|⟨b,off,cs,f,h1,h2,h3,h4⟩
 ·omega
 ·exact ⟨b,off,h1,fun i hi=>by rw [ab h2,ab h2];exact h4 i hi⟩
theorem mf {l:List Me} (h:cz w A l) {i:Nat} (hi:i<l.length):∃b off P C K p c k,A=some ⟨b,off,none⟩ /\
  (w.cell? ⟨b,off+i*8,none⟩=some (.slice P (nth bT l i).params.length p)/\w.cell? ⟨b,off+i*8+1,none⟩=some (ι (nth bT l i).ret.kind)/\w.cell? ⟨b,off+i*8+2,none⟩=some (ι (nth bT l i).ret.cls)
  /\ w.cell? ⟨b,off+i*8+3,none⟩=some (ι (nth bT l i).stack)/\w.cell? ⟨b,off+i*8+4,none⟩=some (ι (nth bT l i).locs)/\w.cell? ⟨b,off+i*8+5,none⟩=some (ι (nth bT l i).regs)
  /\ w.cell? ⟨b,off+i*8+6,none⟩=some (.slice C (nth bT l i).code.length c)/\w.cell? ⟨b,off+i*8+7,none⟩=some (.slice K (nth bT l i).hands.length k))/\ku w (nth bT l i) P C K:=by
 rcases h.2 with h0|⟨b,off,hA,hc⟩
 ·omega
 obtain ⟨P,C,K,p,c,k,h0,h1,h2,h3,h4,h5,h6,h7,h8⟩:=hc i hi
 exact ⟨b,off,P,C,K,p,c,k,hA,⟨h0,h1,h2,h3,h4,h5,h6,h7⟩,h8⟩
structure fI (w:World) (b:Nat) (m:Me) (P C K:Option Addr) (p c k:Nat):Prop where
 blk:w.heap[b]?=some (mS m P C K p c k)
structure GG (w:World) (b:Nat) (m:Me) (P C K:Option Addr) (p c k:Nat):Prop where
 c0:w.cell? ⟨b,0,none⟩=some (.slice P m.params.length p)
 c1:w.cell? ⟨b,1,none⟩=some (ι m.ret.kind)
 c2:w.cell? ⟨b,2,none⟩=some (ι m.ret.cls)
 c3:w.cell? ⟨b,3,none⟩=some (ι m.stack)
 c4:w.cell? ⟨b,4,none⟩=some (ι m.locs)
 c5:w.cell? ⟨b,5,none⟩=some (ι m.regs)
 c6:w.cell? ⟨b,6,none⟩=some (.slice C m.code.length c)
 c7:w.cell? ⟨b,7,none⟩=some (.slice K m.hands.length k)
theorem fI.cells {c:Nat} (h:fI w b m P C K p c k):GG w b m P C K p c k:=by
 constructor<;>(rw [ab h.blk];rfl)
theorem fI.fr {c:Nat} (h:fI w b m P C K p c k) (t:Tk T) (f:Fr B T w w'):fI w' b m P C K p c k:=⟨f.keep _ _ _ _ h.blk t.nm⟩
theorem fI.fq {c:Nat} (h:fI w b m P C K p c k) (t:Tk T) (f:Fq B T a w w') (h1:b≠a.q) (h2:b≠a.lb):fI w' b m P C K p c k:=⟨f.keep _ _ _ _ h.blk t.nm h1 h2⟩
theorem GI {e:TypeId} {size:Nat} {v:Value} (h:w.ownsRow base e size v n xs) (hk:v.ownBlock=some k):base<=k:=(h.lt k hk).1
theorem GJ (k:Int) (h0:0<=k) (hn:k<=1000000) (u:World):(Instr.makeSlice 58 (ι k) (ι k)).run Tryz.prog u=.ok (.slice (some ⟨u.heap.size,0,none⟩) k.toNat k.toNat) (u.alloc (.cells (bh (List.replicate k.toNat aE)).toArray 62)):=by
 have:=KS k.toNat (by omega) u
 rw [Int.toNat_of_nonneg h0] at this
 exact this
theorem xT (w0:World) (g:Ad) (p:Nat) (h:Hp) (a:Ca) (c:aL) (k ia ib ic ii:Int) (args:List Int) (Q:Option Addr) (nl q:Nat) (w:World) (hH:Hs w0 g w p h) (hC:aK w0 w a c) (C:Cq w0 g h) (hp:0<=c.pc/\c.pc<=100000) (hk:k≠10/\k≠11/\k≠12/\k≠18/\k≠21/\k≠15/\k≠16/\k≠23) (G:Wo w0 g h c k ib ic) (hf:(givesH h c ⟨k,ia,ib,ic,ii,args⟩).file=h.file) (hn:0<=ia/\ia<c.locs.length) (hw:(givesH h c ⟨k,ia,ib,ic,ii,args⟩).stops=false->iK c.locs/\((aG h c ⟨k,ia,ib,ic,ii,args⟩).kind=2->ia+1<c.locs.length)) :
  χ 76 #[π p 0,π a.q 0,.agg #[ι k,ι ia,ι ib,ι ic,ι ii,.slice Q nl q]] w fun e w'=>e=.returned (ι (c.pc+1))/\Hs w0 g w' p (givesH h c ⟨k,ia,ib,ic,ii,args⟩)/\aK w0 w' a (mN (givesH h c ⟨k,ia,ib,ic,ii,args⟩) c ia (aG h c ⟨k,ia,ib,ic,ii,args⟩))/\Fq w0.heap.size g.T a w w':=by
 obtain ⟨HF,HH,HA,HI,HC,d13,hb,hq,hl⟩:=jH k ia ib ic ii Q nl q hH hC C
 obtain ⟨Wp,Wq,Wr,n18,n21,n15,n16,n23⟩:=hk
 have b10:decide (k=10)=false:=decide_eq_false Wp
 have c10:(k==10)=false:=beq_eq_false_iff_ne.2 Wp
 have Mu:decide (k=11)=false:=decide_eq_false Wq
 have c11:(k==11)=false:=beq_eq_false_iff_ne.2 Wq
 have PR:decide (k=12)=false:=decide_eq_false Wr
 have c12:(k==12)=false:=beq_eq_false_iff_ne.2 Wr
 have b18:decide (k=18)=false:=decide_eq_false n18
 have c18:(k==18)=false:=beq_eq_false_iff_ne.2 n18
 have b21:decide (k=21)=false:=decide_eq_false n21
 have c21:(k==21)=false:=beq_eq_false_iff_ne.2 n21
 have Ws:decide (k=15)=false:=decide_eq_false n15
 have c15:(k==15)=false:=beq_eq_false_iff_ne.2 n15
 have b16:decide (k=16)=false:=decide_eq_false n16
 have c16:(k==16)=false:=beq_eq_false_iff_ne.2 n16
 have b23:decide (k=23)=false:=decide_eq_false n23
 have c23:(k==23)=false:=beq_eq_false_iff_ne.2 n23
 clear hH hC C
 have HG:=ae G
 have HW:=ae hw
 clear G hw
 go_enter func76,ntmps76
 go_wp2_with (first
  | (go_at_call 136;refine (zK w0 g p h a c k ia ib ic ii args Q nl q _ HH.o HA.o HC.o HG.o).mono ?_;rintro e w1 ⟨rfl,H1,F1⟩;have hb1:=H1.base;have I1:=HI.o.keep HC.o.k F1;have hw1:=af I1.blk;have I2:Θ (cP (w1.alloc (bD (aG h c ⟨k,ia,ib,ic,ii,args⟩))) w.heap.size k ia ib ic ii Q nl q):=⟨(Below.heap_alloc _ _ _ hw1).trans I1.blk⟩;obtain ⟨j0,j1,j2,j3,j4,j5⟩:=I2.o.cs;have U2:Θ (aC (w1.alloc (bD (aG h c ⟨k,ia,ib,ic,ii,args⟩))) w1.heap.size (aG h c ⟨k,ia,ib,ic,ii,args⟩)):=⟨aB _ _ _⟩;have u0:=U2.o.c0;have u1:=U2.o.c1;have H2:=ae (H1.cf ((Cf.refl _ _ _).alloc hb1 (bD (aG h c ⟨k,ia,ib,ic,ii,args⟩))));have F2:=ae ((HF.o.trans F1).alloc hb1 (bD (aG h c ⟨k,ia,ib,ic,ii,args⟩)));have A2:=ae (aK.fr HA.o HC.o.k HC.o.n7 (F1.alloc hb1 (bD (aG h c ⟨k,ia,ib,ic,ii,args⟩))));clear H1 F1 I1)
  | (go_at_call 75;refine (mT w0 g p (givesH h c ⟨k,ia,ib,ic,ii,args⟩) a c ia (aG h c ⟨k,ia,ib,ic,ii,args⟩) _ H2.o A2.o (HC.o.same hf) hn HW.o).mono ?_;rintro e w2 ⟨rfl,H3,A3,F3⟩;replace H3:=ae H3;replace A3:=ae A3;replace F3:=ae F3))
 go_ret
 exact ⟨rfl,H3.o,A3.o,F2.o.fq.trans F3.o⟩
theorem zP (w0:World) (g:Ad) (p:Nat) (h:Hp) (a:Ca) (c:aL) (ia ib ic ii:Int) (Q:Option Addr) (nl q:Nat) (w:World) (hH:Hs w0 g w p h) (hC:aK w0 w a c) (C:Cq w0 g h) (hp:0<=c.pc/\c.pc<=100000) (hr:0<=ib/\ib<c.locs.length) (qp:0<=ia/\ia<c.locs.length) (hfl:0<=ic/\ic<h.file.classes.length/\0<=ii/\ii<(nth bL h.file.classes ic.toNat).fields.length) (h3:((c.rd ib).kind=3->(c.rd ib).n<h.objs.length)/\((c.rd ia).kind=3->(c.rd ia).n<h.objs.length)) (Hf:Hp) (hY:((h.rdH c ib 3).rdH c ia (bI h.file.classes ic ii).kind).over=true->Hf=((h.rdH c ib 3).rdH c ia (bI h.file.classes ic ii).kind)) (hN:((h.rdH c ib 3).rdH c ia (bI h.file.classes ic ii).kind).over=false->Hf=((h.rdH c ib 3).rdH c ia (bI h.file.classes ic ii).kind).put (c.rd ib) ic ii (c.rd ia)) :
  χ 76 #[π p 0,π a.q 0,.agg #[ι 15,ι ia,ι ib,ι ic,ι ii,.slice Q nl q]] w fun e w'=>e=.returned (ι (c.pc+1))/\Hs w0 g w' p (Hf)/\Fr w0.heap.size g.T w w':=by
 obtain ⟨HF,HH,HA,HI,HC,d13,hb,hq,hl⟩:=jH 15 ia ib ic ii Q nl q hH hC C
 clear hH hC C
 obtain ⟨nc,rfl⟩:∃nc:Nat,ic=nc:=⟨ic.toNat,by omega⟩
 obtain ⟨nf,rfl⟩:∃nf:Nat,ii=nf:=⟨ii.toNat,by omega⟩
 have Qt:bI h.file.classes (nc:Int) (nf:Int)=nth bS (nth bL h.file.classes nc).fields nf:=by unfold bI;rw [Int.toNat_natCast,Int.toNat_natCast]
 rw [Int.toNat_natCast] at hfl
 rw [Qt] at hY hN
 have hc:nc<h.file.classes.length:=by omega
 have hf:nf<(nth bL h.file.classes nc).fields.length:=by omega
 obtain ⟨b,off,F,fo,uc,MT,y0,JJ,JE,y1,-⟩:=pJ HC.o.cw.cls hc hf
 unfold maxLen at JJ JE
 have J9:(0:Int)<=(nc:Int):=by omega
 have E1:(nc:Int)<(h.file.classes.length:Int):=by omega
 have MJ:(0:Int)<=(nf:Int):=by omega
 have E2:(nf:Int)<((nth bL h.file.classes nc).fields.length:Int):=by omega
 generalize nth bS (nth bL h.file.classes nc).fields nf=t at *
 have T8:Θ (∀w' h',cP w' w.heap.size 15 ia ib (nc:Int) (nf:Int) Q nl q->Hs w0 g w' p h'->h'.file=h.file->(fun w'=>w'.cell? ⟨w.heap.size,1,none⟩=some (ι ia)/\w'.cell? ⟨w.heap.size,3,none⟩=some (ι (nc:Int))/\w'.cell? ⟨w.heap.size,4,none⟩=some (ι (nf:Int))/\w'.cell? ⟨p,0,none⟩=some (.slice (some ⟨b,off,none⟩) h.file.classes.length g.a)/\w'.cell? ⟨b,off+nc*2+1,none⟩=some (.slice (some ⟨F,fo,none⟩) (nth bL h.file.classes nc).fields.length uc)/\w'.cell? ⟨F,fo+nf*2,none⟩=some (ι t.kind)) w'):=fun w' h' I H e=>⟨I.cs.2.1,I.cs.2.2.2.1,I.cs.2.2.2.2.1,by rw [H.c0 e,MT],H.bl.cell y0,H.bl.cell y1⟩
 clear y0 y1 Qt
 have HY:=ae hY
 have MO:=ae hN
 clear hY hN
 go_enter func76,ntmps76
 go_wp2_with (go_at_call 74;refine (bQ w0 g p h a c ib 3 _ HH.o HA.o HC.o hr).mono ?_;rintro e w1 ⟨rfl,H1,F1⟩;have hb1:=H1.base;have I1:=HI.o.keep HC.o.k F1;obtain ⟨i0,i1,i2,i3,i4,i5⟩:=I1.cs;have hw1:=af I1.blk;have I2:Θ (cP (w1.alloc (bD (c.rd ib))) w.heap.size 15 ia ib (nc:Int) (nf:Int) Q nl q):=⟨(Below.heap_alloc _ _ _ hw1).trans I1.blk⟩;replace I1:=ae I1;obtain ⟨j0,j1,j2,j3,j4,j5⟩:=I2.o.cs;have U2:Θ (aC (w1.alloc (bD (c.rd ib))) w1.heap.size (c.rd ib)):=⟨aB _ _ _⟩;have u0:=U2.o.c0;have u1:=U2.o.c1;have H2:=ae (H1.cf ((Cf.refl _ _ _).alloc hb1 (bD (c.rd ib))));have F2:=ae ((HF.o.trans F1).alloc hb1 (bD (c.rd ib)));have A0:Θ (aK w0 (w1.alloc (bD (c.rd ib))) a c):=(aK.fr HA.o HC.o.k HC.o.n7 (F1.alloc hb1 (bD (c.rd ib))));have A2:Θ (aK w0 (w1.alloc (bD (c.rd ib))).drew a c):=(aK.fr HA.o HC.o.k HC.o.n7 ((F1.alloc hb1 (bD (c.rd ib))).drewN 1));clear H1 F1)
 have z2:=ae (T8.o _ _ I2.o H2.o (dW h c ib 3))
 refine wp_region_held_drew (S:=fun w'=>κ w' w.heap.size 1 (ι ia)/\κ w' w.heap.size 3 (ι (nc:Int))/\κ w' w.heap.size 4 (ι (nf:Int))/\κ w' p 0 (.slice (some ⟨b,off,none⟩) h.file.classes.length g.a)/\κ w' b (off+nc*2+1) (.slice (some ⟨F,fo,none⟩) (nth bL h.file.classes nc).fields.length uc)/\κ w' F (fo+nf*2) (ι t.kind)) (by kernel_rfl) ?_ (fun aa=>?_)
 ·exact z2.o
 iterate 20 (refine tn rfl (by kernel_rfl) (fun _ _ _ h=>h) (by intro _ h;go_split_ands;go_simp<;>with_reducible rfl) aa ?_;try simp only [aZ])
 refine wpAnyH_ready (rs:=[20,21]) (by kernel_rfl) (by simp) ?_
 refine AllReadyH.cons rfl (fun K hK=>?_) (AllReadyH.cons rfl (fun K hK=>?_) (AllReadyH.nil))
 ·go_simp
  go_at_call 74
  refine (bQ w0 g p (h.rdH c ib 3) a c ia t.kind _ (H2.o.drewN 1) A2.o (HC.o.same (dW h c ib 3)) qp).mono ?_
  rintro e w2 ⟨rfl,H3,F3⟩
  have I3:=ae ((cP.mk I2.o.blk:cP ((w1.alloc (bD (c.rd ib))).drew) _ _ _ _ _ _ _ _ _).keep HC.o.k F3)
  have U3:=ae ((U2.o.drewN 1).keep HC.o.k F3)
  have ef:((h.rdH c ib 3).rdH c ia t.kind).file=h.file:=(dW _ _ _ _).trans (dW _ _ _ _)
  have d8:=ae (T8.o _ _ I3.o H3 ef)
  have dQ:=H3.base
  have k1:=af I3.o.blk
  have k2:=af U3.o.blk
  have H4:=ae (H3.cf ((Cf.refl _ _ _).alloc dQ eI))
  have F4:=ae (((F2.o.drewN 1).trans F3).alloc dQ eI)
  have Z4:Θ (aC (w2.alloc eI) w2.heap.size aE):=aC.new w2 aE
  have I4:Θ (cP (w2.alloc eI) w.heap.size 15 ia ib (nc:Int) (nf:Int) Q nl q):=⟨(Below.heap_alloc _ _ _ k1).trans I3.o.blk⟩
  have U4:Θ (aC (w2.alloc eI) w1.heap.size (c.rd ib)):=⟨(Below.heap_alloc _ _ _ k2).trans U3.o.blk⟩
  have d9:=ae (T8.o _ _ I4.o H4.o ef)
  have H5:Θ (Hs w0 g (w2.alloc (bD (c.rd ia))) p ((h.rdH c ib 3).rdH c ia t.kind)):=H3.cf ((Cf.refl _ _ _).alloc dQ _)
  have F5:Θ (Fr w0.heap.size g.T w (w2.alloc (bD (c.rd ia)))):=((F2.o.drewN 1).trans F3).alloc dQ _
  have V5:Θ (aC (w2.alloc (bD (c.rd ia))) w2.heap.size (c.rd ia)):=aC.new w2 (c.rd ia)
  have I5:Θ (cP (w2.alloc (bD (c.rd ia))) w.heap.size 15 ia ib (nc:Int) (nf:Int) Q nl q):=⟨(Below.heap_alloc _ _ _ k1).trans I3.o.blk⟩
  have U5:Θ (aC (w2.alloc (bD (c.rd ia))) w1.heap.size (c.rd ib)):=⟨(Below.heap_alloc _ _ _ k2).trans U3.o.blk⟩
  have d10:=ae (T8.o _ _ I5.o H5.o ef)
  have s0:=Z4.o.c0
  have s1:=Z4.o.c1
  have sz:=Z4.o.fr
  clear H3 F3
  go_wp2_with fail
  refine hK.out _ _ (d8.o) (fun ah=>?_)
  try simp only [aZ]
  refine aY (i:=21) (by kernel_rfl) rfl fun K hK=>?_
  go_wp2_with fail
  refine hK.out _ _ (d9.o) (fun aH=>?_)
  try simp only [aZ]
  refine aY (i:=22) (by kernel_rfl) rfl fun K hK=>?_
  go_simp
  refine hK.out _ _ (d10.o) (fun bG=>?_)
  try simp only [aZ]
  refine wpAnyH_done (by kernel_rfl) ?_ _
  cases cY:((h.rdH c ib 3).rdH c ia t.kind).over
  ·have mI:(w2.alloc (bD (c.rd ia))).cell? ⟨p,12,none⟩=some (.bool false):=(by obtain ⟨vo,vx,hv,X⟩:=H5.o;rw [X.cells.c12,cY])
   have T9:Θ (∀w',aC w' w1.heap.size (c.rd ib)->cP w' w.heap.size 15 ia ib (nc:Int) (nf:Int) Q nl q->aC w' w2.heap.size (c.rd ia)->(fun w'=>w'.cell? ⟨w1.heap.size,0,none⟩=some (ι (c.rd ib).kind)/\w'.cell? ⟨w1.heap.size,1,none⟩=some (ι (c.rd ib).n)/\w'.cell? ⟨w.heap.size,3,none⟩=some (ι (nc:Int))/\w'.cell? ⟨w.heap.size,4,none⟩=some (ι (nf:Int))/\w'.cell? ⟨w2.heap.size,0,none⟩=some (ι (c.rd ia).kind)/\w'.cell? ⟨w2.heap.size,1,none⟩=some (ι (c.rd ia).n)) w'):=fun w' U I V=>⟨U.c0,U.c1,I.cs.2.2.2.1,I.cs.2.2.2.2.1,V.c0,V.c1⟩
   have z5:=ae (T9.o _ U5.o I5.o V5.o)
   go_wp2
   refine wp_region_held_drew (S:=fun w'=>κ w' w1.heap.size 0 (ι (c.rd ib).kind)/\κ w' w1.heap.size 1 (ι (c.rd ib).n)/\κ w' w.heap.size 3 (ι (nc:Int))/\κ w' w.heap.size 4 (ι (nf:Int))/\κ w' w2.heap.size 0 (ι (c.rd ia).kind)/\κ w' w2.heap.size 1 (ι (c.rd ia).n)) (by kernel_rfl) ?_ (fun aa=>?_)
   ·exact z5.o
   iterate 9 (refine tn rfl (by kernel_rfl) (fun _ _ _ h=>h) (by intro _ h;go_split_ands;go_simp<;>with_reducible rfl) aa ?_;try simp only [aZ])
   refine aY (i:=9) (by kernel_rfl) rfl fun K hK=>?_
   go_simp
   go_at_call 115
   refine (Bq w0 g p ((h.rdH c ib 3).rdH c ia t.kind) (c.rd ib) nc nf (c.rd ia) _ (H5.o.drewN 1) (HC.o.same ef).cw (by rw [eO,eO];exact h3.1) (by rw [eO,eO];exact h3.2) (by rw [ef];exact hc) (by rw [ef];exact hf)).mono ?_
   rintro e w3 ⟨rfl,H6,F6⟩
   have I6:=ae ((cP.mk I5.o.blk:cP ((w2.alloc (bD (c.rd ia))).drew) _ _ _ _ _ _ _ _ _).keep HC.o.k F6)
   have U6:=ae ((U5.o.drewN 1).keep HC.o.k F6)
   have V6:=ae ((V5.o.drewN 1).keep HC.o.k F6)
   have d11:=ae (T9.o _ U6.o I6.o V6.o)
   replace H6:=ae H6
   replace F6:=ae ((F5.o.drewN 1).trans F6)
   go_wp2_with fail
   refine hK.out _ _ (d11.o) (fun ah=>?_)
   try simp only [aZ]
   refine wpAnyH_done (by kernel_rfl) ?_ _
   go_wp2
   go_ret
   rw [MO.o cY]
   exact ⟨rfl,H6.o,F6.o⟩
  ·have mI:(w2.alloc (bD (c.rd ia))).cell? ⟨p,12,none⟩=some (.bool true):=(by obtain ⟨vo,vx,hv,X⟩:=H5.o;rw [X.cells.c12,cY])
   go_wp2
   go_ret
   rw [HY.o cY]
   exact ⟨rfl,H5.o,F5.o⟩
 ·have sA:(w1.alloc (bD (c.rd ib))).heap.size=w1.heap.size+1:=World.size_alloc _ _
  have T4:w0.heap.size<=(w1.alloc (bD (c.rd ib))).heap.size:=by omega
  have HD:Θ (Hs w0 g (((w1.alloc (bD (c.rd ib))).alloc eI).drew) p (h.rdH c ib 3)):=(H2.o.cf ((Cf.refl _ _ _).alloc T4 eI)).drewN 1
  have FD:Θ (Fr w0.heap.size g.T w (((w1.alloc (bD (c.rd ib))).alloc eI).drew)):=(F2.o.alloc T4 eI).drewN 1
  have AD:Θ (aK w0 (((w1.alloc (bD (c.rd ib))).alloc eI).drew) a c):=aK.fr A0.o HC.o.k HC.o.n7 (((Fr.refl w0.heap.size g.T _).alloc T4 eI).drewN 1)
  have ID:Θ (cP (((w1.alloc (bD (c.rd ib))).alloc eI).drew) w.heap.size 15 ia ib (nc:Int) (nf:Int) Q nl q):=⟨(Below.heap_alloc _ _ _ (by omega)).trans I2.o.blk⟩
  have UD:Θ (aC (((w1.alloc (bD (c.rd ib))).alloc eI).drew) w1.heap.size (c.rd ib)):=⟨(Below.heap_alloc _ _ _ (by omega)).trans U2.o.blk⟩
  have ZD:Θ (aC (((w1.alloc (bD (c.rd ib))).alloc eI).drew) (w1.heap.size+1) aE):=by have:=(aC.new (w1.alloc (bD (c.rd ib))) aE).drewN 1;rw [sA] at this;exact this
  have d9:=ae (T8.o _ _ ID.o HD.o (dW h c ib 3))
  go_wp2_with fail
  refine hK.out _ _ (d9.o) (fun bd=>?_)
  try simp only [aZ]
  refine aY (i:=20) (by kernel_rfl) rfl fun K hK=>?_
  go_simp
  go_at_call 74
  refine (bQ w0 g p (h.rdH c ib 3) a c ia t.kind _ HD.o AD.o (HC.o.same (dW h c ib 3)) qp).mono ?_
  rintro e w2 ⟨rfl,H3,F3⟩
  have I3:=ae (ID.o.keep HC.o.k F3)
  have U3:=ae (UD.o.keep HC.o.k F3)
  have Z3:=ae (ZD.o.keep HC.o.k F3)
  have ef:((h.rdH c ib 3).rdH c ia t.kind).file=h.file:=(dW _ _ _ _).trans (dW _ _ _ _)
  have d8:=ae (T8.o _ _ I3.o H3 ef)
  have dQ:=H3.base
  have H5:Θ (Hs w0 g ((w2.setCell ⟨w1.heap.size+1,0,none⟩ (ι (c.rd ia).kind)).setCell ⟨w1.heap.size+1,1,none⟩ (ι (c.rd ia).n)) p ((h.rdH c ib 3).rdH c ia t.kind)):=H3.cf (Z3.o.cf HC.o.k (by omega) _ _)
  have F5:Θ (Fr w0.heap.size g.T w ((w2.setCell ⟨w1.heap.size+1,0,none⟩ (ι (c.rd ia).kind)).setCell ⟨w1.heap.size+1,1,none⟩ (ι (c.rd ia).n))):=((FD.o.trans F3).new (by omega) (by omega) _).new (by omega) (by omega) _
  have V5:Θ (aC ((w2.setCell ⟨w1.heap.size+1,0,none⟩ (ι (c.rd ia).kind)).setCell ⟨w1.heap.size+1,1,none⟩ (ι (c.rd ia).n)) (w1.heap.size+1) (c.rd ia)):=Z3.o.set (c.rd ia)
  have I5:Θ (cP ((w2.setCell ⟨w1.heap.size+1,0,none⟩ (ι (c.rd ia).kind)).setCell ⟨w1.heap.size+1,1,none⟩ (ι (c.rd ia).n)) w.heap.size 15 ia ib (nc:Int) (nf:Int) Q nl q):=⟨by rw [ak (by omega),ak (by omega)];exact I3.o.blk⟩
  have U5:Θ (aC ((w2.setCell ⟨w1.heap.size+1,0,none⟩ (ι (c.rd ia).kind)).setCell ⟨w1.heap.size+1,1,none⟩ (ι (c.rd ia).n)) w1.heap.size (c.rd ib)):=⟨by rw [ak (by omega),ak (by omega)];exact U3.o.blk⟩
  have d10:=ae (T8.o _ _ I5.o H5.o ef)
  have s0:=Z3.o.c0
  have s1:=Z3.o.c1
  have sz:=Z3.o.fr
  clear H3 F3
  go_wp2_with fail
  refine hK.out _ _ (d8.o) (fun cQ=>?_)
  try simp only [aZ]
  refine aY (i:=22) (by kernel_rfl) rfl fun K hK=>?_
  go_simp
  refine hK.out _ _ (d10.o) (fun cd=>?_)
  try simp only [aZ]
  refine wpAnyH_done (by kernel_rfl) ?_ _
  cases cY:((h.rdH c ib 3).rdH c ia t.kind).over
  ·have mI:((w2.setCell ⟨w1.heap.size+1,0,none⟩ (ι (c.rd ia).kind)).setCell ⟨w1.heap.size+1,1,none⟩ (ι (c.rd ia).n)).cell? ⟨p,12,none⟩=some (.bool false):=(by obtain ⟨vo,vx,hv,X⟩:=H5.o;rw [X.cells.c12,cY])
   have T9:Θ (∀w',aC w' w1.heap.size (c.rd ib)->cP w' w.heap.size 15 ia ib (nc:Int) (nf:Int) Q nl q->aC w' (w1.heap.size+1) (c.rd ia)->(fun w'=>w'.cell? ⟨w1.heap.size,0,none⟩=some (ι (c.rd ib).kind)/\w'.cell? ⟨w1.heap.size,1,none⟩=some (ι (c.rd ib).n)/\w'.cell? ⟨w.heap.size,3,none⟩=some (ι (nc:Int))/\w'.cell? ⟨w.heap.size,4,none⟩=some (ι (nf:Int))/\w'.cell? ⟨(w1.heap.size+1),0,none⟩=some (ι (c.rd ia).kind)/\w'.cell? ⟨(w1.heap.size+1),1,none⟩=some (ι (c.rd ia).n)) w'):=fun w' U I V=>⟨U.c0,U.c1,I.cs.2.2.2.1,I.cs.2.2.2.2.1,V.c0,V.c1⟩
   have z5:=ae (T9.o _ U5.o I5.o V5.o)
   go_wp2
   refine wp_region_held_drew (S:=fun w'=>κ w' w1.heap.size 0 (ι (c.rd ib).kind)/\κ w' w1.heap.size 1 (ι (c.rd ib).n)/\κ w' w.heap.size 3 (ι (nc:Int))/\κ w' w.heap.size 4 (ι (nf:Int))/\κ w' ((w1.heap.size+1)) 0 (ι (c.rd ia).kind)/\κ w' ((w1.heap.size+1)) 1 (ι (c.rd ia).n)) (by kernel_rfl) ?_ (fun aa=>?_)
   ·exact z5.o
   iterate 9 (refine tn rfl (by kernel_rfl) (fun _ _ _ h=>h) (by intro _ h;go_split_ands;go_simp<;>with_reducible rfl) aa ?_;try simp only [aZ])
   refine aY (i:=9) (by kernel_rfl) rfl fun K hK=>?_
   go_simp
   go_at_call 115
   refine (Bq w0 g p ((h.rdH c ib 3).rdH c ia t.kind) (c.rd ib) nc nf (c.rd ia) _ (H5.o.drewN 1) (HC.o.same ef).cw (by rw [eO,eO];exact h3.1) (by rw [eO,eO];exact h3.2) (by rw [ef];exact hc) (by rw [ef];exact hf)).mono ?_
   rintro e w3 ⟨rfl,H6,F6⟩
   have I6:=ae ((cP.mk I5.o.blk:cP (((w2.setCell ⟨w1.heap.size+1,0,none⟩ (ι (c.rd ia).kind)).setCell ⟨w1.heap.size+1,1,none⟩ (ι (c.rd ia).n)).drew) _ _ _ _ _ _ _ _ _).keep HC.o.k F6)
   have U6:=ae ((U5.o.drewN 1).keep HC.o.k F6)
   have V6:=ae ((V5.o.drewN 1).keep HC.o.k F6)
   have d11:=ae (T9.o _ U6.o I6.o V6.o)
   replace H6:=ae H6
   replace F6:=ae ((F5.o.drewN 1).trans F6)
   go_wp2_with fail
   refine hK.out _ _ (d11.o) (fun ah=>?_)
   try simp only [aZ]
   refine wpAnyH_done (by kernel_rfl) ?_ _
   go_wp2
   go_ret
   rw [MO.o cY]
   exact ⟨rfl,H6.o,F6.o⟩
  ·have mI:((w2.setCell ⟨w1.heap.size+1,0,none⟩ (ι (c.rd ia).kind)).setCell ⟨w1.heap.size+1,1,none⟩ (ι (c.rd ia).n)).cell? ⟨p,12,none⟩=some (.bool true):=(by obtain ⟨vo,vx,hv,X⟩:=H5.o;rw [X.cells.c12,cY])
   go_wp2
   go_ret
   rw [HY.o cY]
   exact ⟨rfl,H5.o,F5.o⟩
theorem xU (c:aL):∀(l:List Int) (k:List Ty) (q:Nat),q<k.length->l.length=k.length->c.rds (l.take (q+1)) (k.take (q+1))=c.rds (l.take q) (k.take q)++[c.rd (nth (0:Int) l q)]
 | [],[],q,h,_=>by simp at h
 | [],_::_,_,_,h=>by simp at h
 | _::_,[],_,_,h=>by simp at h
 | a::l,t::k,0,_,_=>by simp [aL.rds,nth]
 | a::l,t::k,q+1,h,hl=>by
  have:=xU c l k q (by simpa using h) (by simpa using hl)
  have e:nth (0:Int) (a::l) (q+1)=nth (0:Int) l q:=by simp [nth]
  rw [e]
  simp only [List.take_succ_cons,aL.rds,this,List.cons_append]
theorem tJ (c:aL):∀(l:List Int) (k:List Ty) (q:Nat) (h:Hp),q<k.length->l.length=k.length->h.rdsH c (l.take (q+1)) (k.take (q+1))=(h.rdsH c (l.take q) (k.take q)).rdH c (nth (0:Int) l q) (nth bS k q).kind
 | [],[],q,_,h,_=>by simp at h
 | [],_::_,_,_,_,h=>by simp at h
 | _::_,[],_,_,_,h=>by simp at h
 | a::l,t::k,0,h,_,_=>by simp [Hp.rdsH,nth]
 | a::l,t::k,q+1,h,hq,hl=>by
  have:=tJ c l k q (h.rdH c a t.kind) (by simpa using hq) (by simpa using hl)
  have e:nth (0:Int) (a::l) (q+1)=nth (0:Int) l q:=by simp [nth]
  have e2:nth bS (t::k) (q+1)=nth bS k q:=by simp [nth]
  rw [e,e2]
  simp only [List.take_succ_cons,Hp.rdsH,this]
theorem Dk (c:aL) (l:List Int) (k:List Ty) (h:Hp):(h.rdsH c l k).file=h.file:=(nS c l k h).file
theorem GK (h:w.ownsRow base 62 2 u n xs) (k:Tk T) (f:Fr B T w w'):w'.ownsRow base 62 2 u n xs:=by
 refine ⟨h.1,?_⟩
 rcases h.2 with h0|⟨g,cap,cur,h1,h2,h3,h4⟩
 ·exact Or.inl h0
 ·exact Or.inr ⟨g,cap,cur,h1,h2,f.keep _ _ _ _ h3 k.nv,h4⟩
theorem Hs.grown (H:Hs w0 g w p h) (k:Tk g.T) (o:w.ownsRow base 62 2 u n xs) (hg:w.grownBy w' u.ownBlock) (hb:base<=w.heap.size) (h0:w0.heap.size<=base):Hs w0 g w' p h :=
 H.cf ⟨Below.mono (gM hg o hb) h0,fun b cs t f e ht=>cS hg o e fun x=>k.nv (x▸ht)⟩
theorem Fr.grown {W:World} (h:Fr B T w W) (o:W.ownsRow base 62 2 u n xs) (hg:W.grownBy w' u.ownBlock) (hb:base<=W.heap.size) (hw:w.heap.size<=base) (h0:B<=base):Fr B T w w' :=
 ⟨h.bl.trans (Below.mono (gM hg o hb) h0),fun b cs t f e n=>((gM hg o hb).block b (by have:=af e;omega)).trans (h.keep b cs t f e n)⟩
structure LC (w0:World) (g:Ad) (p:Nat) (c:aL) (h:Hp) (l:List Int) (k:List Ty) (base:Nat) (W wr:World) (u:Value) (q:Nat):Prop where
 hs:Hs w0 g wr p (h.rdsH c (l.take q) (k.take q))
 fr:Fr w0.heap.size g.T W wr
 row:wr.ownsRow base 62 2 u q (bh (c.rds (l.take q) (k.take q)))
theorem Dl (w0:World) (g:Ad) (p:Nat) (h:Hp) (a:Ca) (c:aL) (ia ib ic ii:Int) (args:List Int) (Q:Option Addr) (q0:Nat) (w:World) (hH:Hs w0 g w p h) (hC:aK w0 w a c) (C:Cq w0 g h) (hp:0<=c.pc/\c.pc<=100000) (E:cz w0 g.M h.file.methods) (M:Me) (M0:nth bT h.file.methods ia.toNat=M) (JM:0<=ia/\ia<h.file.methods.length) (hQ:aU w0 Q args) (hal:args.length=M.params.length) (JN:M.params.length<=4) (dx:∀j,j<args.length->0<=nth (0:Int) args j/\nth (0:Int) args j<c.locs.length) (R:Hp×Va) (Hf:Hp) (cf:aL) (hY:(h.rdsH c args M.params).over=true->Hf=(h.rdsH c args M.params)/\cf=c) (hN:(h.rdsH c args M.params).over=false->Hf=R.1/\cf={ c with giv:=R.2 }) (HR:(h.rdsH c args M.params).over=false->∀(P CC K:Option Addr) (pp cc kk:Nat) (A1:Option Addr) (ac lb:Nat) (w1:World),ku w0 M P CC K->Hs w0 g w1 p (h.rdsH c args M.params)->ej lb w1 A1 (c.rds args M.params)->M.params.length<=ac->χ 33 #[π p 0,sK M P CC K pp cc kk,.slice A1 M.params.length ac] w1 fun e w'=>e=.returned (jh R.2)/\Hs w0 g w' p R.1/\Fr w0.heap.size g.T w1 w') :
  χ 76 #[π p 0,π a.q 0,.agg #[ι 18,ι ia,ι ib,ι ic,ι ii,.slice Q args.length q0]] w fun e w'=>e=.returned (ι (c.pc+1))/\Hs w0 g w' p Hf/\aK w0 w' a cf/\Fq w0.heap.size g.T a w w':=by
 obtain ⟨n,rfl⟩:∃n:Nat,ia=n:=⟨ia.toNat,by omega⟩
 simp only [Int.toNat_natCast] at *
 have pE:n<h.file.methods.length:=by omega
 have iL:=E.1
 unfold maxLen at iL
 obtain ⟨mb,mo,P,CC,K,pp,cc,kk,hM,HZ,hme⟩:=mf E pE
 rw [M0] at HZ hme
 have JO:=hH.bl
 obtain ⟨HF,HH,HA,HI,HC,d13,hb,hq,hl⟩:=jH 18 (n:Int) ib ic ii Q args.length q0 hH hC C
 have hb1:Bl w0 (w.alloc (.cells #[ι 18,ι (n:Int),ι ib,ι ic,ι ii,.slice Q args.length q0] 55)):=JO.alloc _
 have hml:=br HZ.1
 have MR:mb<w.heap.size:=by have:=JO.size;omega
 have y0:=hb1.cell HZ.1
 have y1:=hb1.cell HZ.2.1
 have y2:=hb1.cell HZ.2.2.1
 have y3:=hb1.cell HZ.2.2.2.1
 have y4:=hb1.cell HZ.2.2.2.2.1
 have y5:=hb1.cell HZ.2.2.2.2.2.1
 have y6:=hb1.cell HZ.2.2.2.2.2.2.1
 have y7:=hb1.cell HZ.2.2.2.2.2.2.2
 have c1:(w.alloc (.cells #[ι 18,ι (n:Int),ι ib,ι ic,ι ii,.slice Q args.length q0] 55)).cell? ⟨p,1,none⟩=some (.slice (some ⟨mb,mo,none⟩) h.file.methods.length g.m):=by
  obtain ⟨vo,vx,hv,X⟩:=HH.o
  rw [<-hM];exact X.cells.c1
 have YM:p<w.heap.size:=by obtain ⟨vo,vx,hv,X⟩:=hH;exact af X.blk
 have j1:=HI.o.cs.2.1
 have iw:(0:Int)<=(n:Int):=by omega
 have fT:(n:Int)<(h.file.methods.length:Int):=by omega
 have Wt:=HR
 clear hH hC C HZ hb1 HR
 have sZ:=ae hme
 have ez:=ae Wt
 have HL:=ae hal
 have HY:=ae hY
 have MO:=ae hN
 clear hY hN
 have cV:=ae dx
 have T5:=ae hQ
 have VN:M.params.length<=2 ^ 63-1:=by omega
 have has:args.length<=2 ^ 63-1:=by omega
 have kW:=ae JO
 clear hme Wt hal dx hQ E hM JM JO M0
 go_enter func76,ntmps76
 go_wp2
 go_region_held3 (fun w'=>w'.cell? ⟨p,1,none⟩=some (.slice (some ⟨mb,mo,none⟩) h.file.methods.length g.m)/\w'.cell? ⟨w.heap.size,1,none⟩=some (ι (n:Int))/\w'.cell? ⟨mb,mo+n*8,none⟩=some (.slice P M.params.length pp)/\w'.cell? ⟨mb,mo+n*8+1,none⟩=some (ι M.ret.kind)/\w'.cell? ⟨mb,mo+n*8+2,none⟩=some (ι M.ret.cls)/\w'.cell? ⟨mb,mo+n*8+3,none⟩=some (ι M.stack)/\w'.cell? ⟨mb,mo+n*8+4,none⟩=some (ι M.locs)/\w'.cell? ⟨mb,mo+n*8+5,none⟩=some (ι M.regs)/\w'.cell? ⟨mb,mo+n*8+6,none⟩=some (.slice CC M.code.length cc)/\w'.cell? ⟨mb,mo+n*8+7,none⟩=some (.slice K M.hands.length kk))
  (go_keep)
  (fail)
 obtain ⟨W2,QG⟩:∃W2,W2=((w.alloc (.cells #[ι 18,ι (n:Int),ι ib,ι ic,ι ii,.slice Q args.length q0] 55)).alloc (.cells #[.slice P M.params.length pp,ι M.ret.kind,ι M.ret.cls,ι M.stack,ι M.locs,ι M.regs,.slice CC M.code.length cc,.slice K M.hands.length kk] 49)).drew:=⟨_,rfl⟩
 rw [<-QG]
 have QH:Bl (w.alloc (.cells #[ι 18,ι (n:Int),ι ib,ι ic,ι ii,.slice Q args.length q0] 55)) W2:=by rw [QG];exact ((Bl.refl _).alloc _).drew
 have QI:w0.heap.size<=(w.alloc (.cells #[ι 18,ι (n:Int),ι ib,ι ic,ι ii,.slice Q args.length q0] 55)).heap.size:=by simp;omega
 have QJ:Θ (Hs w0 g W2 p h):=HH.o.old QH
 have QK:Θ (aK w0 W2 a c):=HA.o.old QH
 have M1:Θ (Fr w0.heap.size g.T w W2):=HF.o.trans (Fr.old QI QH)
 have YN:Θ (cP W2 w.heap.size 18 (n:Int) ib ic ii Q args.length q0):=⟨(QH.block _ (af HI.o.blk)).trans HI.o.blk⟩
 have KC:Θ (fI W2 (w.heap.size+1) M P CC K pp cc kk):=⟨by rw [QG];exact cK (by simp)⟩
 have QL:W2.heap.size<=w.heap.size+2:=by rw [QG];simp
 have KU:w0.heap.size<=w.heap.size+2:=by omega
 have YO:Θ (Bl w0 W2):=QJ.o.bl
 clear QG QH y0 y1 y2 y3 y4 y5 y6 y7 c1 j1 HF HH HA HI d13 QI
 obtain ⟨i0,wC,vl,wD,wE⟩:=info_parts rJ
 go_wp2
 go_loopw [11,12] (fun u i wr=>∃q:Nat,q<=M.params.length/\i=ι q/\Θ (LC w0 g p c h args M.params (w.heap.size+2) W2 wr u q)) (fun _ i _=>M.params.length-(intOf i).toNat)
 case atStart=>exact ⟨0,Nat.zero_le _,rfl,⟨QJ.o,Fr.refl _ _ _,⟨rfl,Or.inl ⟨rfl,rfl⟩⟩⟩⟩
 case round =>
  obtain ⟨q,hq,rfl,M3⟩:=hrel
  have FR:=ae M3.o.fr
  have x0:=(KC.o.fr HC.o.k FR.o).cells.c0
  have QM:=M3.o.hs.base
  by_cases dI:q<M.params.length
  ·have vN:q<args.length:=by rw [HL.o];exact dI
   obtain ⟨rb,ro,PS,hrc⟩:∃rb ro,Q=some ⟨rb,ro,none⟩/\∀i,i<args.length->w0.cell? ⟨rb,ro+i,none⟩=some (ι (nth (0:Int) args i)):=by
    rcases T5.o.2 with h0|⟨rb,ro,PS,hrc⟩
    ·omega
    ·exact ⟨rb,ro,PS,fun i hi=>(hrc i hi).1⟩
   obtain ⟨xb,xo,BI,hxc⟩:∃xb xo,P=some ⟨xb,xo,none⟩/\∀i,i<M.params.length->w0.cell? ⟨xb,xo+i*2,none⟩=some (ι (nth bS M.params i).kind):=by
    rcases sZ.o.1.2 with h0|⟨xb,xo,BI,hxc⟩
    ·omega
    ·exact ⟨xb,xo,BI,fun i hi=>(hxc i hi).1⟩
   have qp:=cV.o q vN
   have wF:=hrc q vN
   have JK:=hxc q dI
   have Wv:=ae (xU c args M.params q dI HL.o)
   have QN:=ae (tJ c args M.params q h dI HL.o)
   have Ww:=ae M3.o.row
   have Wx:=ae M3.o.hs
   have CK:=ae (HC.o.same (Dk c (args.take q) (M.params.take q) h))
   have AR:=ae (aK.fr QK.o HC.o.k HC.o.n7 FR.o)
   have YP:=ae (aK.fr QK.o HC.o.k HC.o.n7 (FR.o.drewN 1))
   have iY:(0:Int)<=(q:Int):=by omega
   have mH:(q:Int)<(M.params.length:Int):=by omega
   have BJ:(q:Int)<(args.length:Int):=by omega
   generalize nth (0:Int) args q=av at *
   generalize nth bS M.params q=t at *
   generalize h.rdsH c (args.take q) (M.params.take q)=hk at *
   have T8:Θ (∀w',Fr w0.heap.size g.T W2 w'->(fun w'=>w'.cell? ⟨w.heap.size,5,none⟩=some (.slice (some ⟨rb,ro,none⟩) args.length q0)/\w'.cell? ⟨rb,ro+q,none⟩=some (ι av)/\w'.cell? ⟨w.heap.size+1,0,none⟩=some (.slice (some ⟨xb,xo,none⟩) M.params.length pp)/\w'.cell? ⟨xb,xo+q*2,none⟩=some (ι t.kind)) w'):=fun w' f=>by
    have b0:Bl w0 w':=Below.trans YO.o f.bl
    refine ⟨?_,b0.cell wF,?_,b0.cell JK⟩
    ·rw [(YN.o.keep HC.o.k f).cs.2.2.2.2.2,PS]
    ·rw [(KC.o.fr HC.o.k f).cells.c0,BI]
   have z8:=ae (T8.o wr FR.o)
   clear hrc hxc wF JK PS M3 BI
   go_wp2
   refine wp_region_held_drew (S:=fun w'=>κ w' w.heap.size 5 (.slice (some ⟨rb,ro,none⟩) args.length q0)/\κ w' rb (ro+q) (ι av)/\κ w' (w.heap.size+1) 0 (.slice (some ⟨xb,xo,none⟩) M.params.length pp)/\κ w' xb (xo+q*2) (ι t.kind)) (by kernel_rfl) ?_ (fun aa=>?_)
   ·exact z8.o
   iterate 13 (refine tn rfl (by kernel_rfl) (fun _ _ _ h=>h) (by intro _ h;go_split_ands;go_simp<;>with_reducible rfl) aa ?_;try simp only [aZ])
   refine wpAnyH_ready (rs:=[13,14]) (by kernel_rfl) (by simp) ?_
   refine AllReadyH.cons rfl (fun K hK=>?_) (AllReadyH.cons rfl (fun K hK=>?_) (AllReadyH.nil))
   ·go_simp
    go_at_call 74
    refine (bQ w0 g p hk a c av t.kind _ (Wx.o.drewN 1) YP.o CK.o qp).mono ?_
    rintro e w2 ⟨rfl,H3,F3⟩
    have dQ:=H3.base
    have KV:=ae (((Fr.refl w0.heap.size g.T wr).drewN 1).trans F3)
    have d8:=ae (T8.o _ (FR.o.trans KV.o))
    have d9:=ae (T8.o _ ((FR.o.trans KV.o).alloc dQ eI))
    have d10:=ae (T8.o _ ((FR.o.trans KV.o).alloc dQ (bD (c.rd av))))
    have H5:Θ (Hs w0 g (w2.alloc (bD (c.rd av))) p (hk.rdH c av t.kind)):=H3.cf ((Cf.refl _ _ _).alloc dQ _)
    have F5:Θ (Fr w0.heap.size g.T wr (w2.alloc (bD (c.rd av)))):=KV.o.alloc dQ _
    have V5:Θ (aC (w2.alloc (bD (c.rd av))) w2.heap.size (c.rd av)):=aC.new w2 (c.rd av)
    have Z4:Θ (aC (w2.alloc eI) w2.heap.size aE):=aC.new w2 aE
    have s0:=Z4.o.c0
    have s1:=Z4.o.c1
    have sz:=Z4.o.fr
    clear H3 F3
    go_wp2_with fail
    refine hK.out _ _ (d8.o) (fun ah=>?_)
    try simp only [aZ]
    refine aY (i:=14) (by kernel_rfl) rfl fun K hK=>?_
    go_wp2_with fail
    refine hK.out _ _ (d9.o) (fun aH=>?_)
    try simp only [aZ]
    refine aY (i:=15) (by kernel_rfl) rfl fun K hK=>?_
    go_simp
    refine hK.out _ _ (d10.o) (fun bG=>?_)
    try simp only [aZ]
    refine wpAnyH_done (by kernel_rfl) ?_ _
    have O5:=ae (GK Ww.o HC.o.k F5.o)
    have G5:=ae (FR.o.trans F5.o)
    obtain ⟨su,hV⟩:∃su,su=(w2.alloc (.cells #[ι (c.rd av).kind,ι (c.rd av).n] 62)):=⟨_,rfl⟩
    obtain ⟨vb,hvb⟩:∃vb,vb=w2.heap.size:=⟨_,rfl⟩
    rw [<-hV,<-hvb]
    have H6:Θ (Hs w0 g su p (hk.rdH c av t.kind)):=by rw [hV];exact H5
    have G6:Θ (Fr w0.heap.size g.T W2 su):=by rw [hV];exact G5
    have O6:Θ (su.ownsRow (w.heap.size+2) 62 2 u11 q (bh (c.rds (args.take q) (M.params.take q)))):=by rw [hV];exact O5
    have V6:Θ (aC su vb (c.rd av)):=by rw [hV,hvb];exact V5
    have T6:w.heap.size+2<=su.heap.size:=by have:=G6.o.bl.size;have:=G6.o;have:=af (KC.o.fr HC.o.k G6.o).blk;omega
    clear hV hvb H5 F5 V5 O5 G5 d8 d9 d10 s0 s1 sz KV
    have v0:=V6.o.c0
    have v1:=V6.o.c1
    have hvb:=af V6.o.blk
    go_wp2_with (at_builtin;refine wpList_append_lies _ rfl (.tmp 100) (.tmp 102) 58 rfl (w.heap.size+2) 62 i0 _ 2 16 underlying58 wC vl wD wE rfl (by omega) u11 q (bh (c.rds (args.take q) (M.params.take q))) (by rfl) (by exact O6.o.alloc _) ⟨su.heap.size,0,none⟩ 1 1 [ι (c.rd av).kind,ι (c.rd av).n] (by rfl) (by rfl) (World.news_of_block (cs:=#[ι (c.rd av).kind,ι (c.rd av).n]) (t:=62) (fr:=(0,0)) (cK (w:=su) rfl)) (by simp [Value.oneCell']) (by omega) (by unfold maxLen;omega) (by omega) (by simp;omega) (su.heap.size+1) (by simp) ?_;intro gg cap w7 jk bO hat hlt;have H7:=ae (Hs.grown (H6.o.old ((Bl.refl _).alloc _)) HC.o.k (O6.o.alloc _) bO (by simp;omega) KU);have F7:=ae (Fr.grown (G6.o.trans (Fr.old H6.o.base ((Bl.refl _).alloc _))) (O6.o.alloc _) bO (by simp;omega) QL KU))
    go_roundw
    case rel =>
     refine ⟨q+1,by omega,by go_num,⟨?_,F7.o,?_⟩⟩
     ·rw [QN.o];exact H7.o
     ·rw [Wv.o,gj];exact jk
    case measure=>simp [intOf];omega
   ·have HD:Θ (Hs w0 g ((wr.alloc eI).drew) p hk):=(Wx.o.cf ((Cf.refl _ _ _).alloc QM eI)).drewN 1
    have FD:Θ (Fr w0.heap.size g.T wr ((wr.alloc eI).drew)):=((Fr.refl _ _ _).alloc QM eI).drewN 1
    have AD:Θ (aK w0 ((wr.alloc eI).drew) a c):=aK.fr AR.o HC.o.k HC.o.n7 FD.o
    have ZD:Θ (aC ((wr.alloc eI).drew) wr.heap.size aE):=(aC.new wr aE).drewN 1
    have d9:=ae (T8.o _ (FR.o.trans FD.o))
    go_wp2_with fail
    refine hK.out _ _ (d9.o) (fun bd=>?_)
    try simp only [aZ]
    refine aY (i:=13) (by kernel_rfl) rfl fun K hK=>?_
    go_simp
    go_at_call 74
    refine (bQ w0 g p hk a c av t.kind _ HD.o AD.o CK.o qp).mono ?_
    rintro e w2 ⟨rfl,H3,F3⟩
    have dQ:=H3.base
    have Z3:=ae (ZD.o.keep HC.o.k F3)
    have KV:=ae (FD.o.trans F3)
    have d8:=ae (T8.o _ (FR.o.trans KV.o))
    have F5:Θ (Fr w0.heap.size g.T wr ((w2.setCell ⟨wr.heap.size,0,none⟩ (ι (c.rd av).kind)).setCell ⟨wr.heap.size,1,none⟩ (ι (c.rd av).n))):=(KV.o.new (Nat.le_refl _) QM _).new (Nat.le_refl _) QM _
    have d10:=ae (T8.o _ (FR.o.trans F5.o))
    have H5:Θ (Hs w0 g ((w2.setCell ⟨wr.heap.size,0,none⟩ (ι (c.rd av).kind)).setCell ⟨wr.heap.size,1,none⟩ (ι (c.rd av).n)) p (hk.rdH c av t.kind)):=H3.cf (Z3.o.cf HC.o.k QM _ _)
    have V5:Θ (aC ((w2.setCell ⟨wr.heap.size,0,none⟩ (ι (c.rd av).kind)).setCell ⟨wr.heap.size,1,none⟩ (ι (c.rd av).n)) wr.heap.size (c.rd av)):=Z3.o.set (c.rd av)
    have s0:=Z3.o.c0
    have s1:=Z3.o.c1
    have sz:=Z3.o.fr
    clear H3 F3
    go_wp2_with fail
    refine hK.out _ _ (d8.o) (fun cQ=>?_)
    try simp only [aZ]
    refine aY (i:=15) (by kernel_rfl) rfl fun K hK=>?_
    go_simp
    refine hK.out _ _ (d10.o) (fun cd=>?_)
    try simp only [aZ]
    refine wpAnyH_done (by kernel_rfl) ?_ _
    have O5:=ae (GK Ww.o HC.o.k F5.o)
    have G5:=ae (FR.o.trans F5.o)
    obtain ⟨su,hV⟩:∃su,su=((w2.setCell ⟨wr.heap.size,0,none⟩ (ι (c.rd av).kind)).setCell ⟨wr.heap.size,1,none⟩ (ι (c.rd av).n)):=⟨_,rfl⟩
    obtain ⟨vb,hvb⟩:∃vb,vb=wr.heap.size:=⟨_,rfl⟩
    rw [<-hV,<-hvb]
    have H6:Θ (Hs w0 g su p (hk.rdH c av t.kind)):=by rw [hV];exact H5
    have G6:Θ (Fr w0.heap.size g.T W2 su):=by rw [hV];exact G5
    have O6:Θ (su.ownsRow (w.heap.size+2) 62 2 u11 q (bh (c.rds (args.take q) (M.params.take q)))):=by rw [hV];exact O5
    have V6:Θ (aC su vb (c.rd av)):=by rw [hV,hvb];exact V5
    have T6:w.heap.size+2<=su.heap.size:=by have:=G6.o.bl.size;have:=G6.o;have:=af (KC.o.fr HC.o.k G6.o).blk;omega
    clear hV hvb H5 F5 V5 O5 G5 d8 d9 d10 s0 s1 sz KV
    have v0:=V6.o.c0
    have v1:=V6.o.c1
    have hvb:=af V6.o.blk
    go_wp2_with (at_builtin;refine wpList_append_lies _ rfl (.tmp 100) (.tmp 102) 58 rfl (w.heap.size+2) 62 i0 _ 2 16 underlying58 wC vl wD wE rfl (by omega) u11 q (bh (c.rds (args.take q) (M.params.take q))) (by rfl) (by exact O6.o.alloc _) ⟨su.heap.size,0,none⟩ 1 1 [ι (c.rd av).kind,ι (c.rd av).n] (by rfl) (by rfl) (World.news_of_block (cs:=#[ι (c.rd av).kind,ι (c.rd av).n]) (t:=62) (fr:=(0,0)) (cK (w:=su) rfl)) (by simp [Value.oneCell']) (by omega) (by unfold maxLen;omega) (by omega) (by simp;omega) (su.heap.size+1) (by simp) ?_;intro gg cap w7 jk bO hat hlt;have H7:=ae (Hs.grown (H6.o.old ((Bl.refl _).alloc _)) HC.o.k (O6.o.alloc _) bO (by simp;omega) KU);have F7:=ae (Fr.grown (G6.o.trans (Fr.old H6.o.base ((Bl.refl _).alloc _))) (O6.o.alloc _) bO (by simp;omega) QL KU))
    go_roundw
    case rel =>
     refine ⟨q+1,by omega,by go_num,⟨?_,F7.o,?_⟩⟩
     ·rw [QN.o];exact H7.o
     ·rw [Wv.o,gj];exact jk
    case measure=>simp [intOf];omega
  ·obtain rfl:q=M.params.length:=by omega
   have T7:=M3.o.hs
   have Sx:=M3.o.row
   have FW:=ae (M1.o.trans FR.o)
   have AW:=ae (aK.fr QK.o HC.o.k HC.o.n7 FR.o)
   have MW:=ae (KC.o.fr HC.o.k FR.o)
   have e1:args.take M.params.length=args:=by rw [<-HL.o,List.take_length]
   have e2:M.params.take M.params.length=M.params:=List.take_length
   rw [e1,e2] at T7 Sx
   clear e1 e2
   have hlen:(c.rds args M.params).length=M.params.length:=dG c _ _ HL.o
   obtain ⟨L,lc,rfl,BK,lx⟩:∃L lc,u11=.slice L M.params.length lc/\ej a.lb wr L (c.rds args M.params)/\M.params.length<=lc:=by
    rcases Sx.2 with ⟨e1,e2⟩|⟨gb,cp,cur,e1,e2,e3,e4,-⟩
    ·exact ⟨none,0,by rw [e1,e2],Or.inl (by omega),by omega⟩
    ·subst e1
     exact ⟨_,cp,rfl,(BH Sx (lb:=a.lb) (by omega) hlen.symm).1,e4⟩
   have ey:=ae BK
   have PT:=ae T7
   clear Sx hlen M3 BK T7
   cases cY:(h.rdsH c args M.params).over
   ·have YQ:=ae (ez.o cY P CC K pp cc kk L lc a.lb wr sZ.o PT.o ey.o lx)
    have mI:wr.cell? ⟨p,12,none⟩=some (.bool false):=by obtain ⟨vo,vx,hv,X⟩:=PT.o;rw [X.cells.c12,cY]
    have x1:=MW.o.cells.c1
    have x2:=MW.o.cells.c2
    have x3:=MW.o.cells.c3
    have x4:=MW.o.cells.c4
    have x5:=MW.o.cells.c5
    have x6:=MW.o.cells.c6
    have x7:=MW.o.cells.c7
    go_wp2_with (go_at_call 33;refine YQ.o.mono ?_;rintro e w3 ⟨rfl,H3,F3⟩;have A3:=ae (aK.fr AW.o HC.o.k HC.o.n7 F3);have g9:=A3.o.cells.c9;have g10:=A3.o.cells.c10;have gf:=A3.o.free;have H3:=ae H3;have F3:=ae F3)
    go_ret
    have A4:=A3.o.setC (c':={ c with giv:=⟨R.2.kind,c.giv.n⟩ }) (i:=9) (v:=ι R.2.kind) rfl rfl rfl
    have A5:=A4.setC (c':={ c with giv:=R.2 }) (i:=10) (v:=ι R.2.n) rfl rfl rfl
    obtain ⟨e1,e2⟩:=MO.o cY
    rw [e1,e2]
    refine ⟨rfl,?_,?_,?_⟩
    ·exact (H3.o.cf (A3.o.cf HC.o.n7 9 _)).cf (A4.cf HC.o.n7 10 _) 
    ·exact A5
    ·exact ((FW.o.trans F3.o).fq.trans (A3.o.fq g.T 9 _)).trans (A4.fq g.T 10 _)
   ·have mI:wr.cell? ⟨p,12,none⟩=some (.bool true):=by obtain ⟨vo,vx,hv,X⟩:=PT.o;rw [X.cells.c12,cY]
    go_wp2
    go_ret
    obtain ⟨e1,e2⟩:=HY.o cY
    rw [e1,e2]
    refine ⟨rfl,?_,?_,FW.o.fq⟩
    ·exact PT.o
    ·exact AW.o
theorem zQ {k:List Ty} {q:Nat} (hq:q<l.length) (hk:l.length=k.length):h.enterL (l.drop q) (k.drop q)=(h.of (nth aE l q) (nth bS k q)&&h.enterL (l.drop (q+1)) (k.drop (q+1))):=by
 rw [List.drop_eq_getElem_cons hq,List.drop_eq_getElem_cons (l:=k) (by omega),Hp.enterL,<-cg (d:=aE) hq,<-cg (d:=bS) (by omega)]
theorem tK (w0:World) (g:Ad) (p:Nat) (h:Hp) (m:Me) (P CC K:Option Addr) (pp cc kk:Nat) (A:Option Addr) (ac lb:Nat) (l:List Va) (w:World) (hH:Hs w0 g w p h) (C:Cw w0 g h) (ho:h.over=false) (hP:cX w0 P m.params) (hl:l.length=m.params.length) (hA:ej lb w A l) (hg:∀v∈l,v.kind=3->v.n<h.objs.length) (hc:0<=h.calls/\h.calls<=20) :
  χ 51 #[π p 0,sK m P CC K pp cc kk,.slice A l.length ac] w fun e w'=>e=.returned (.bool (h.enterB m l))/\Hs w0 g w' p (h.enterH m l)/\Fr w0.heap.size g.T w w':=by
 have dX:=hH.base
 have HH:Θ (∀wr,Bl w wr->Hs w0 g wr p h):=fun wr hb=>hH.old hb
 have HC:Θ (Cw w0 g h):=C
 have Ua:Θ (∀wr,Bl w wr->cX wr P m.params):=fun wr hb=>(hP.bl hH.bl).bl hb
 have Wy:Θ (∀wr,Bl w wr->ej lb wr A l):=fun wr hb=>hA.keep fun b cs f e _=>(hb.block _ (af e)).trans e
 have HG:Θ (∀v∈l,v.kind=3->v.n<h.objs.length):=hg
 have HL:Θ (l.length=m.params.length):=hl
 have Gq:(!h.over)=true:=by rw [ho];rfl
 have CP:=hP.1
 unfold maxLen at CP
 have HM:Θ ((w.alloc (mS m P CC K pp cc kk)).cell? ⟨w.heap.size,0,none⟩=some (.slice P m.params.length pp)):=ai rfl
 have EY:Θ (∀q,q<l.length->h.enterL (l.drop q) (m.params.drop q)=(h.of (nth aE l q) (nth bS m.params q)&&h.enterL (l.drop (q+1)) (m.params.drop (q+1)))):=fun q hq=>zQ hq hl
 have vE:Θ (h.must false=h.fin 6):=rfl
 have YR:Θ (h.mustB false=false):=rfl
 obtain ⟨R,hR⟩:∃R,h.enterL l m.params=R:=⟨_,rfl⟩
 have HR:Θ (h.enterL (l.drop 0) (m.params.drop 0)=R):=by rw [List.drop_zero,List.drop_zero];exact hR
 have hB:h.enterB m l=(R&&!h.deep):=by unfold Hp.enterB;rw [hR]
 have hE:h.enterH m l=if R=false then h.fin 6 else if h.deep=true then h.fin 5 else { h with calls:=h.calls+1 }:=by unfold Hp.enterH;rw [hR]
 have HB:Θ (h.enterB m l=(R&&!h.deep)):=hB
 have HE:Θ (h.enterH m l=if R=false then h.fin 6 else if h.deep=true then h.fin 5 else { h with calls:=h.calls+1 }):=hE
 have YS:Θ (cX w0 P m.params):=hP
 have YT:Θ (∀wr,Bl (w.alloc (mS m P CC K pp cc kk)) wr->wr.heap[w.heap.size]?=some (mS m P CC K pp cc kk)):=fun wr hb=>(hb.block _ (by simp)).trans (aB _ _ _)
 clear hB hE hR hH C hP hA hg hl
 go_enter func51,ntmps51
 go_wp2
 go_loopw [7] (fun i wr=>∃q:Nat,q<=m.params.length/\i=ι q/\Θ (Bl w wr)/\Θ (Bl (w.alloc (mS m P CC K pp cc kk)) wr)/\wr.cell? ⟨w.heap.size,0,none⟩=some (.slice P m.params.length pp)/\Θ (h.enterL (l.drop q) (m.params.drop q)=R)) (fun i _=>m.params.length-(intOf i).toNat)
 case atStart=>exact ⟨0,Nat.zero_le _,rfl,(Bl.refl w).alloc _,Bl.refl _,HM.o,HR⟩
 case round =>
  obtain ⟨q,hq,rfl,Dm,Tr,c7,hr⟩:=hrel
  by_cases dI:q<m.params.length
  ·have vN:q<l.length:=by rw [HL.o];exact dI
   have TF:=Ua.o wr Dm.o
   rcases TF.2 with h0|⟨b',iO,BI,hcell⟩
   ·omega
   obtain ⟨g0,g1,-⟩:=hcell q dI
   obtain ⟨b,off,Ub,hcl⟩:=(Wy.o wr Dm.o).fst (by omega)
   obtain ⟨v0,v1⟩:=hcl q vN
   have GL:=EY.o q vN
   rw [BI] at c7
   have HV:Θ ((nth aE l q).kind=3->(nth aE l q).n<h.objs.length):=HG.o _ (bE vN)
   subst Ub
   have Wz:(q:Int)<(l.length:Int):=by omega
   have hAm:l.length<=2 ^ 63-1:=by have:=HL.o;omega
   have iY:(0:Int)<=(q:Int):=by omega
   have mH:(q:Int)<(m.params.length:Int):=by omega
   rw [hr.o] at GL
   have M5:Θ (R=(h.of (nth aE l q) (nth bS m.params q)&&h.enterL (l.drop (q+1)) (m.params.drop (q+1)))):=GL
   have TR:Θ (∀w2,Fr w0.heap.size g.T wr w2->w2.cell? ⟨b,off+q*2,none⟩=some (ι (nth aE l q).kind)/\w2.cell? ⟨b,off+q*2+1,none⟩=some (ι (nth aE l q).n)):=fun w2 f=>by
    obtain ⟨bb,oo,WB,BL⟩:=((Wy.o wr Dm.o).fr HC.o.k f).fst (by omega)
    simp only [Option.some.injEq,Addr.mk.injEq] at WB
    obtain ⟨rfl,rfl,-⟩:=WB
    exact BL q vN
   have YU:Θ (∀w2,Fr w0.heap.size g.T wr w2->w2.cell? ⟨w.heap.size,0,none⟩=some (.slice (some ⟨b',iO,none⟩) m.params.length pp)):=fun w2 f=>by
    have hb:=YT.o wr Tr.o
    rw [ab (f.keep _ _ _ _ hb HC.o.k.nm),<-BI];rfl
   have YV:Θ (∀w2,Fr w0.heap.size g.T wr w2->w2.cell? ⟨b',iO+q*2,none⟩=some (ι (nth bS m.params q).kind)/\w2.cell? ⟨b',iO+q*2+1,none⟩=some (ι (nth bS m.params q).cls)):=fun w2 f=>by
    rcases (YS.o.bl (Below.trans (HH.o wr Dm.o).bl f.bl)).2 with h0|⟨b2,o2,Uc,BL⟩
    ·omega
    rw [BI] at Uc
    simp only [Option.some.injEq,Addr.mk.injEq] at Uc
    obtain ⟨rfl,rfl,-⟩:=Uc
    exact ⟨(BL q dI).1,(BL q dI).2.1⟩
   have WC:Θ (P=some ⟨b',iO,none⟩):=BI
   clear hcell hcl TF GL hr BI
   generalize hX:nth aE l q=X at *
   generalize hY:nth bS m.params q=Y at *
   clear hX hY
   cases hO:h.of X Y
   ·have QO:R=false:=by rw [M5.o,hO];rfl
    subst QO
    go_wp2
    go_region_held3 (fun w'=>w'.cell? ⟨b,off+q*2,none⟩=some (ι X.kind)/\w'.cell? ⟨b,off+q*2+1,none⟩=some (ι X.n)/\w'.cell? ⟨w.heap.size,0,none⟩=some (.slice (some ⟨b',iO,none⟩) m.params.length pp)/\w'.cell? ⟨b',iO+q*2,none⟩=some (ι Y.kind)/\w'.cell? ⟨b',iO+q*2+1,none⟩=some (ι Y.cls))
     (go_keep)
     (first
      | (go_at_call 57;refine (ji w0 g p h X Y _ (by first|exact HH.o _ Dm.o.drew|exact HH.o _ Dm.o) HC.o.cls HC.o.tree HV.o).mono ?_;rintro e w1 ⟨he,h1,f1,b1⟩;rw [hO] at he;subst he;have e0:=b1.cell v0;have e1:=b1.cell v1;have e2:=b1.cell c7;have e3:=b1.cell g0;have e4:=b1.cell g1;have F1:Θ (Fr w0.heap.size g.T wr w1):=Fr.trans (Fr.drew (Fr.refl _ _ _)) f1;clear f1 b1)
      | (go_at_call 55;refine (bZ w0 g HC.o.k p h false _ h1).mono ?_;rintro e w2 ⟨he,h2,f2⟩;rw [YR.o] at he;subst he;rw [vE.o] at h2;have FF:Θ (Fr w0.heap.size g.T wr w2):=F1.o.trans f2;obtain ⟨a0,a1⟩:=TR.o w2 FF.o;have a2:=YU.o w2 FF.o;obtain ⟨a3,a4⟩:=YV.o w2 FF.o))
    go_wp2
    go_ret
    refine ⟨ag ?_,?_,(Fr.old dX Dm.o).trans FF.o⟩
    ·rw [HB.o];rfl
    ·rw [HE.o];first|(rw [if_pos rfl];exact h2)|(rw [if_pos trivial];exact h2)
   ·have Bt:Θ (h.enterL (l.drop (q+1)) (m.params.drop (q+1))=R):=by rw [M5.o,hO,Bool.true_and];rfl
    go_wp2
    go_region_held3 (fun w'=>w'.cell? ⟨b,off+q*2,none⟩=some (ι X.kind)/\w'.cell? ⟨b,off+q*2+1,none⟩=some (ι X.n)/\w'.cell? ⟨w.heap.size,0,none⟩=some (.slice (some ⟨b',iO,none⟩) m.params.length pp)/\w'.cell? ⟨b',iO+q*2,none⟩=some (ι Y.kind)/\w'.cell? ⟨b',iO+q*2+1,none⟩=some (ι Y.cls))
     (go_keep)
     (first
      | (go_at_call 57;refine (ji w0 g p h X Y _ (by first|exact HH.o _ Dm.o.drew|exact HH.o _ Dm.o) HC.o.cls HC.o.tree HV.o).mono ?_;rintro e w1 ⟨he,h1,f1,b1⟩;rw [hO] at he;subst he;have e0:=b1.cell v0;have e1:=b1.cell v1;have e2:=b1.cell c7;have e3:=b1.cell g0;have e4:=b1.cell g1;have B1:Θ (Bl w w1):=Bl.trans Dm.o.drew b1;have B2:Θ (Bl (w.alloc (mS m P CC K pp cc kk)) w1):=Bl.trans Tr.o.drew b1;clear f1 b1)
      | (go_at_call 55;refine (fU w0 g p h _ h1).mono ?_;rintro e w2 ⟨he,bX⟩;rw [Gq] at he;subst he;rw [bX];clear bX w2))
    go_wp2
    go_roundw
    case rel=>exact ⟨q+1,by omega,by go_num,B1,B2,by rw [WC.o];exact e2,Bt⟩
    case measure=>simp [intOf];omega
  ·obtain rfl:q=m.params.length:=by omega
   have YW:R=true:=by
    have:=hr.o
    rw [List.drop_length] at this
    rw [<-this]
    unfold Hp.enterL
    split
    ·rename_i h1 h2;simp at h2
    ·rfl
   subst YW
   obtain ⟨vo,vx,hv,H⟩:=HH.o wr Dm.o
   have c4:=H.cells.c4
   have f4:=H.free 4
   have HA:Θ (cO w0 g wr p h vo vx hv):=H
   clear H
   by_cases hd:20<=h.calls
   ·have d1:decide (20<=h.calls)=true:=decide_eq_true hd
    go_wp2_with (go_at_call 108;refine (nN w0 g HC.o.k p h 5 _ ⟨vo,vx,hv,HA.o⟩).mono ?_;rintro e w1 ⟨rfl,h1,f1⟩)
    go_ret
    have QP:h.deep=true:=d1
    refine ⟨ag ?_,?_,(Fr.old dX Dm.o).trans f1⟩
    ·rw [HB.o,QP];rfl
    ·rw [HE.o];simp only [if_pos QP];simpa using h1
   ·have d1:decide (20<=h.calls)=false:=decide_eq_false hd
    go_wp2
    go_ret
    have QP:h.deep=false:=d1
    refine ⟨ag ?_,?_,(Fr.old dX Dm.o).trans (HA.o.frSet 4 _)⟩
    ·rw [HB.o,QP];rfl
    ·rw [HE.o,if_neg (by decide),if_neg (by rw [QP];decide)]
     exact ⟨vo,vx,hv,HA.o.set HC.o.k _ rfl rfl rfl⟩
structure Env (w0:World) (g:Ad) (h:Hp):Prop where
 cq:Cq w0 g h
 may:nR h.file
 mes:cz w0 g.M h.file.methods
 inp:aU w0 g.I h.input
section
variable {w0:World} {g:Ad} {h h':Hp}
theorem Env.of (e:Env w0 g h) (e1:h'.file=h.file) (e2:h'.input=h.input):Env w0 g h' :=
 ⟨e.cq.same e1,by rw [e1];exact e.may,by rw [e1];exact e.mes,by rw [e2];exact e.inp⟩
theorem Env.le (e:Env w0 g h) (l:Le h h'):Env w0 g h':=e.of l.file l.input
end
def GM (w0:World) (g:Ad) (p n:Nat):Prop :=
 ∀(h:Hp) (m:Me) (P CC K:Option Addr) (pp cc kk:Nat) (A:Option Addr) (ac lb:Nat) (l:List Va) (w:World),
  Hs w0 g w p h->Env w0 g h->h.over=false->h.thrown=-1->Gh 0 h->Kd h->ku w0 m P CC K->fG h.file.classes h.file.methods m=true->(∀i∈m.code,i.ok)->l.length=m.params.length->(∀v∈l,jw h v)->ej lb w A l->l.length<=ac->(h.fuel-h.sh.steps).toNat<=n ->
  χ 33 #[π p 0,sK m P CC K pp cc kk,.slice A l.length ac] w fun e w' =>
   e=.returned (jh (jd (cn n) h m l).2)/\Hs w0 g w' p (jd (cn n) h m l).1/\Fr w0.heap.size g.T w w'
def kl (N:Nat) (h:Hp) (c:aL) (i:In):nr:=if i.op=18 then jB (cn N) h c i else bV h c i
theorem KW {N:Nat} {i:In} (dL:nR h.file) (gh:Gh 1 h) (kd:Kd h) (gc:Gc h c) (ho:h.over=false) (iG:h.thrown=-1) (ok:pR h.file.classes h.file.methods c.m.code.length c.m.regs c.m.ret.kind i) (iok:i.ok) (hr:i.op≠20) (hp:0<=c.pc/\c.pc<c.m.code.length):Kept h c (kl N h c i):=by
 unfold kl
 split
 ·rename_i e
  exact tG (tH h.file dL N) rfl gh.less kd gc ho iG dL ok e hp
 ·rename_i e
  exact kj gh kd gc ho iG dL.1 ok iok e hr hp
theorem kX {fn:Nat} {hf:Hp} {args:Array Value} {v:Value} (C:Tk g.T) (n7:¬gI g.T 149) (hC:aK w0 w a c) (k:χ fn args w fun e w'=>e=.returned v/\Hs w0 g w' p hf/\Fr w0.heap.size g.T w w') :
  χ fn args w fun e w'=>e=.returned v/\Hs w0 g w' p hf/\aK w0 w' a c/\Fq w0.heap.size g.T a w w' :=
 k.mono fun e w' ⟨he,hs,f⟩=>⟨he,hs,hC.fr C n7 f,f.fq⟩
theorem BM (c:aL):∀(l:List Int) (k:List Ty),c.clr.rds l k=c.rds l k
 | [],k=>by cases k<;>rfl
 | _::_,[]=>rfl
 | a::l,t::k=>by show c.rd a::c.clr.rds l k=_;rw [BM c l k];rfl
theorem xV (c:aL):∀(l:List Int) (k:List Ty) (h:Hp),h.rdsH c.clr l k=h.rdsH c l k
 | [],k,h=>by cases k<;>rfl
 | _::_,[],h=>rfl
 | a::l,t::k,h=>by show (h.rdH c a t.kind).rdsH c.clr l k=_;rw [xV c l k];rfl
theorem Ol (w0:World) (g:Ad) (p:Nat) (h:Hp) (a:Ca) (c:aL) (i:In) (Q:Option Addr) (q:Nat) (w:World) (hH:Hs w0 g w p h) (hC:aK w0 w a c.clr) (E:Env w0 g h) (hp:0<=c.pc/\c.pc<=100000) (n19:i.op≠19) (n20:i.op≠20) (n22:i.op≠22) (N:Nat) (IH:GM w0 g p N) (gh:Gh 1 h) (kd:Kd h) (ho:h.over=false) (iG:h.thrown=-1) (gc:Gc h c) {nc:Nat} {rt:Int} (ok:pR h.file.classes h.file.methods nc c.m.regs rt i) (iok:i.ok) (hQ:aU w0 Q i.args) (hN:(h.fuel-h.sh.steps).toNat<=N) :
  χ 76 #[π p 0,π a.q 0,.agg #[ι i.op,ι i.a,ι i.b,ι i.c,ι i.n,.slice Q i.args.length q]] w fun e w' =>
   e=.returned (ι (kl N h c i).nx)/\Hs w0 g w' p (kl N h c i).h/\aK w0 w' a (kl N h c i).c/\Fq w0.heap.size g.T a w w':=by
 have C:=E.cq
 have hlen:=gc.len
 have hL:c.clr.locs.length=c.locs.length:=rfl
 have ra:(i.op<=9∨(13<=i.op/\i.op<=17)∨i.op=19∨21<=i.op)->0<=i.a/\i.a<c.clr.locs.length:=fun x=>by have:=ok.a x;omega
 have r3:∀{n:Int},0<=n/\n<c.clr.locs.length->(c.clr.rd n).kind=3->(c.clr.rd n).n<h.objs.length:=fun {n} hn e=>((gc.rd (a:=n) (by omega)).ref e).2
 unfold kl
 by_cases oA:i.op=18
 ·rw [if_pos oA,oA]
  obtain ⟨c1,c2,c3⟩:=ok.call oA
  have iL:=E.may.2 _ (bE (d:=bT) (i:=i.a.toNat) (by omega:i.a.toNat<h.file.methods.length))
  have JN:(nth bT h.file.methods i.a.toNat).params.length<=4:=(j6 iL.1).2.2.2.1
  unfold jB
  dsimp only
  generalize M0:nth bT h.file.methods i.a.toNat=M at *
  rw [<-xV c,<-BM c]
  have key:=Dl w0 g p h a c.clr i.a i.b i.c i.n i.args Q q w hH hC C hp E.mes M M0 ⟨c1,c2⟩ hQ c3 JN (fun j hj=>by have:=ok.args oA j hj;omega) (jd (cn N) (h.rdsH c.clr i.args M.params) M (c.clr.rds i.args M.params))
   (if (h.rdsH c.clr i.args M.params).over=true then h.rdsH c.clr i.args M.params else (jd (cn N) (h.rdsH c.clr i.args M.params) M (c.clr.rds i.args M.params)).1)
   (if (h.rdsH c.clr i.args M.params).over=true then c.clr else { c.clr with giv:=(jd (cn N) (h.rdsH c.clr i.args M.params) M (c.clr.rds i.args M.params)).2 })
   (fun e=>⟨if_pos e,if_pos e⟩) (fun e=>⟨if_neg (by rw [e];decide),if_neg (by rw [e];decide)⟩)
   (fun e P CC K pp cc kk A1 ac lb w1 YX C9 PU Sy=>by
    have e1:h.rdsH c.clr i.args M.params=h:=qk c.clr i.args M.params e
    rw [e1] at C9
    rw [e1]
    have:=IH h M P CC K pp cc kk A1 ac lb (c.clr.rds i.args M.params) w1 C9 E ho iG gh.less kd YX iL.1 iL.2 (dG c.clr _ _ c3) (vI gc.clr _ _ (ok.args oA)) PU (by rw [dG c.clr _ _ c3];exact Sy) hN
    rw [dG c.clr _ _ c3] at this
    exact this)
  refine key.mono fun e w' ⟨he,hs,hc,hf⟩=>?_
  split
  ·rename_i hx
   rw [if_pos hx] at hs hc
   exact ⟨he,hs,hc,hf⟩
  ·rename_i hx
   rw [if_neg hx] at hs hc
   exact ⟨he,hs,hc,hf⟩
 rw [if_neg oA]
 unfold bV
 by_cases e:i.op=10
 ·rw [if_pos e,e]
  exact kX C.k C.n7 hC (zL w0 g p h a c.clr i.a i.b i.c i.n Q i.args.length q w hH hC C hp)
 rw [if_neg e]
 by_cases e1:i.op=11
 ·rw [if_pos e1,e1]
  have hr:0<=i.c/\i.c<c.clr.locs.length:=by have:=ok.c (by omega);omega
  unfold Tl
  dsimp only
  cases hh:kC i.b (c.rd i.c).n
  ·rw [if_neg (by decide)]
   exact kX C.k C.n7 hC (xN w0 g p h a c.clr i.a i.b i.c i.n Q i.args.length q w hH hC C hp hr hh)
  ·rw [if_pos rfl]
   exact kX C.k C.n7 hC (xL w0 g p h a c.clr i.a i.b i.c i.n Q i.args.length q w hH hC C hp hr hh)
 rw [if_neg e1]
 by_cases e2:i.op=12
 ·rw [if_pos e2,e2]
  have hr:0<=i.c/\i.c<c.clr.locs.length:=by have:=ok.c (by omega);omega
  unfold NC
  dsimp only
  by_cases hh:(c.rd i.c).n<0
  ·rw [if_pos hh]
   exact kX C.k C.n7 hC (xM w0 g p h a c.clr i.a i.b i.c i.n Q i.args.length q w hH hC C hp hr (decide_eq_true hh))
  ·rw [if_neg hh]
   exact kX C.k C.n7 hC (xO w0 g p h a c.clr i.a i.b i.c i.n Q i.args.length q w hH hC C hp hr (decide_eq_false hh))
 rw [if_neg e2]
 by_cases e3:i.op=15
 ·rw [if_pos e3,e3]
  have hr:0<=i.b/\i.b<c.clr.locs.length:=by have:=ok.b (by omega);omega
  have qp:=ra (by omega)
  have hfl:=ok.fld (Or.inr e3)
  unfold pQ
  dsimp only
  exact kX C.k C.n7 hC (zP w0 g p h a c.clr i.a i.b i.c i.n Q i.args.length q w hH hC C hp hr qp hfl ⟨r3 hr,r3 qp⟩ _ (fun e=>if_pos e) (fun e=>if_neg (fun x=>by rw [show ((h.rdH c i.b 3).rdH c i.a (bI h.file.classes i.c i.n).kind).over=false from e] at x;cases x)))
 rw [if_neg e3]
 by_cases e4:i.op=16
 ·rw [if_pos e4,e4]
  have qp:=ra (by omega)
  unfold wL
  cases cY:(h.rdH c i.a 3).over
  ·rw [if_neg (by decide)]
   exact kX C.k C.n7 hC (zN w0 g p h a c.clr i.a i.b i.c i.n Q i.args.length q w hH hC C hp qp cY (by rw [eO];exact r3 qp))
  ·rw [if_pos rfl]
   exact kX C.k C.n7 hC (xQ w0 g p h a c.clr i.a i.b i.c i.n Q i.args.length q w hH hC C hp qp cY)
 rw [if_neg e4,if_neg n19]
 by_cases e5:i.op=21
 ·rw [if_pos e5,e5]
  have qp:=ra (by omega)
  unfold Fk
  cases cY:(h.rdH c i.a 3).over
  ·rw [if_neg (by decide)]
   exact kX C.k C.n7 hC (zM w0 g p h a c.clr i.a i.b i.c i.n Q i.args.length q w hH hC C hp qp cY)
  ·rw [if_pos rfl]
   exact kX C.k C.n7 hC (xP w0 g p h a c.clr i.a i.b i.c i.n Q i.args.length q w hH hC C hp qp cY)
 rw [if_neg e5,if_neg n22]
 by_cases e6:i.op=23
 ·rw [if_pos e6,e6]
  have qp:=ra (by omega)
  unfold wM
  cases cY:(h.rdH c i.a i.b).over
  ·rw [if_neg (by decide)]
   exact kX C.k C.n7 hC (zO w0 g p h a c.clr i.a i.b i.c i.n Q i.args.length q w hH hC C hp qp cY (by
    have e7:h.rdH c.clr i.a i.b=h:=(oP (h:=h) (c:=c) (a:=i.a) (k:=i.b) cY).2.1
    rw [e7]
    have:=gh.o
    have:=gh.steps
    have:=gh.fuel
    omega))
  ·rw [if_pos rfl]
   exact kX C.k C.n7 hC (xR w0 g p h a c.clr i.a i.b i.c i.n Q i.args.length q w hH hC C hp qp cY)
 rw [if_neg e6]
 have hop:=ok.op
 have qp:=ra (by omega)
 have hg:=fun hs=>oQ gh kd gc ho iG E.may.1 ok iok (by omega) hs
 have:=xT w0 g p h a c.clr i.op i.a i.b i.c i.n i.args Q i.args.length q w hH hC C hp ⟨e,e1,e2,oA,e5,e3,e4,e6⟩
  ⟨by omega,fun x=>by have:=ok.b (by omega);omega,fun x=>by have:=ok.c (by omega);omega,fun x=>⟨(gc.rd (a:=i.b) (by have:=ok.b (by omega);omega)).num,(gc.rd (a:=i.c) (by have:=ok.c (by omega);omega)).num⟩,fun x=>ok.cls (Or.inl x),fun x=>r3 (by have:=ok.b (by omega);omega),E.inp,gh.used⟩
  (kh h c _).file qp (fun hs=>⟨gc.ok,fun x=>by have:=(hg hs).2.2 x;omega⟩)
 exact this
end Go.Proofs.YtgiiapenmjollaaGreat
