import Derived.Test.YtfncnhlihmnkiabGreatRsal
namespace Go.Proofs.YtfncnhlihmnkiabGreat
set_option linter.all false
set_option maxHeartbeats 40000000
set_option maxRecDepth 100000
open Go.RowKit
theorem qgives_op9 (w0:World) (g:Ad) (p:Nat) (h:Hp) (a:Ca) (c:Cal) (ia ib ic ii:Int) (args:List Int) (Q:Option Addr) (nl q:Nat) (w:World) (hH:Hs w0 g w p h) (hC:CalAt w0 w a c) (C:Cq w0 g h) (hrb:0≤ib∧ib<c.locs.length) (hrc:0≤ic∧ic<c.locs.length) :
  Calls Tryz.prog 156 #[.pointer (some ⟨p,0,none⟩),.pointer (some ⟨a.q,0,none⟩),.agg #[.int .i64 9,.int .i64 ia,.int .i64 ib,.int .i64 ic,.int .i64 ii,.slice Q nl q]] w fun e w'=>e=.returned (vaV (givesV h c ⟨9,ia,ib,ic,ii,args⟩))∧Hs w0 g w' p (givesH h c ⟨9,ia,ib,ic,ii,args⟩)∧Fr w0.heap.size g.T w w':=by
 obtain ⟨HF,HH,HA,HI,HR,HN,HC,hb,hq,hl⟩:=qpre 9 ia ib ic ii Q nl q hH hC C
 clear hH hC C
 have eH:givesH h c ⟨9,ia,ib,ic,ii,args⟩=(h.rdH c ib 2).rdH c ic 2:=by simp [givesH]
 have eV:givesV h c ⟨9,ia,ib,ic,ii,args⟩=⟨1,cmpV (c.rd ib).n (c.rd ic).n⟩:=by simp [givesV]
 rw [eH,eV]
 clear eH eV
 go_enter Tryz.func156,Tryz.ntmps156
 go_wp2_with (first
  | (go_at_call 82;refine (yread_any w0 g p (h.rdH c ib 2) a c ic 2 _ H1.out A2.out (HC.out.same (rdH_file h c ib 2)) hrc).mono ?_;rintro e w2 ⟨rfl,H2,F2⟩;have R3:=hid (R2.out.keep HC.out.k F2);have U3:=hid (U2.out.keep HC.out.k F2);have z0:=R3.out.c0;have z1:=R3.out.c1;have fz3:=R3.out.fr;have y0:=U3.out.c0;have y1:=U3.out.c1;have z0a:∀o,(w2.alloc o).cell? ⟨w.heap.size+1,0,none⟩=some (.int .i64 0):=(fun o=>((Bl.refl w2).alloc o).cell z0);have z1a:∀o,(w2.alloc o).cell? ⟨w.heap.size+1,1,none⟩=some (.int .i64 0):=(fun o=>((Bl.refl w2).alloc o).cell z1);have k1:=lt_some R3.out.blk;have k2:=lt_some U3.out.blk;have R4:Hid (VaBox (w2.alloc (vaO (c.rd ic))) (w.heap.size+1) va0):=⟨(Below.heap_alloc _ _ _ k1).trans R3.out.blk⟩;have U4:Hid (VaBox (w2.alloc (vaO (c.rd ic))) w1.heap.size (c.rd ib)):=⟨(Below.heap_alloc _ _ _ k2).trans U3.out.blk⟩;have q0:=R4.out.c0;have q1:=R4.out.c1;have fzb:∀i,(w2.alloc (vaO (c.rd ic))).frozen? ⟨w.heap.size+1,i,none⟩=false:=(fun i=>R4.out.fr i);have u0:=U4.out.c0;have u1:=U4.out.c1;have hx3:w2.heap.size≠w.heap.size+1:=(by omega);have hx4:w.heap.size+1≠w2.heap.size:=(by omega);have hx5:w1.heap.size≠w2.heap.size:=(by omega);have hx6:w2.heap.size≠w1.heap.size:=(by omega);have hb2:=H2.base;replace H2:=hid H2;replace F2:=hid (F1.out.trans F2))
  | (go_at_call 82;refine (yread_any w0 g p h a c ib 2 _ HH.out HA.out HC.out hrb).mono ?_;rintro e w1 ⟨rfl,H1,F1⟩;have R:=hid (HR.out.keep HC.out.k F1);have r0:=R.out.c0;have r1:=R.out.c1;have fz:=R.out.fr;have I1:=HI.out.keep HC.out.k F1;obtain ⟨i0,i1,i2,i3,i4,i5⟩:=I1.cs;replace I1:=hid I1;have N1:=HN.out.keep HC.out.k F1;have n0:=N1.c0;have n1:=N1.c1;replace N1:=hid N1;have hw1:=lt_some I1.out.blk;have hw2:=lt_some N1.out.blk;have hx1:w1.heap.size≠w.heap.size+1:=(by omega);have hx2:w.heap.size+1≠w1.heap.size:=(by omega);have r0a:∀o,(w1.alloc o).cell? ⟨w.heap.size+1,0,none⟩=some (.int .i64 0):=(fun o=>((Bl.refl w1).alloc o).cell r0);have r1a:∀o,(w1.alloc o).cell? ⟨w.heap.size+1,1,none⟩=some (.int .i64 0):=(fun o=>((Bl.refl w1).alloc o).cell r1);have R2:Hid (VaBox (w1.alloc (vaO (c.rd ib))) (w.heap.size+1) va0):=⟨(Below.heap_alloc _ _ _ (lt_some R.out.blk)).trans R.out.blk⟩;have fza:∀i,(w1.alloc (vaO (c.rd ib))).frozen? ⟨w.heap.size+1,i,none⟩=false:=(fun i=>R2.out.fr i);have r0b:=R2.out.c0;have r1b:=R2.out.c1;have hb1:=H1.base;have A2:=hid (CalAt.fr (HA.out.fr HC.out.k HC.out.n7 F1) HC.out.k HC.out.n7 ((Fr.refl w0.heap.size g.T w1).alloc hb1 (vaO (c.rd ib))));have U2:Hid (VaBox (w1.alloc (vaO (c.rd ib))) w1.heap.size (c.rd ib)):=⟨blk_new _ _ _⟩;have i3a:=((Bl.refl w1).alloc (vaO (c.rd ib))).cell i3;replace H1:=hid (H1.cf ((Cf.refl _ _ _).alloc hb1 (vaO (c.rd ib))));replace F1:=hid ((HF.out.trans F1).alloc hb1 (vaO (c.rd ib))))
  | (go_at_call 217;refine (rcmp_any _ _ _).mono ?_;rintro e w3 ⟨rfl,hw⟩;rw [hw];clear hw w3))
 first
  | (refine bodyPost_ret (results_cell_row rfl _ _ (w.heap.size+1) _ _ _ _ rfl (R4.out.set ⟨1,cmpV (c.rd ib).n (c.rd ic).n⟩).blk Tryz.underlying80 rfl info_va) rfl ?_;exact ⟨rfl,(H2.out.cf ((Cf.refl _ _ _).alloc (by omega) _)).cf (R4.out.cf HC.out.k (by omega) _ _),((F2.out.alloc (by omega) _).new (Nat.le_succ _) (by omega) _).new (Nat.le_succ _) (by omega) _⟩)
  | (refine bodyPost_ret (results_cell_row rfl _ _ (w.heap.size+1) _ _ _ _ rfl ((Below.heap_alloc _ _ _ (by simp;exact lt_some R3.out.blk)).trans (R3.out.set ⟨1,cmpV (c.rd ib).n (c.rd ic).n⟩).blk) Tryz.underlying80 rfl info_va) rfl ?_;exact ⟨rfl,(H2.out.cf (R3.out.cf HC.out.k (by omega) _ _)).cf ((Cf.refl _ _ _).alloc (by simp;omega) _),((F2.out.new (Nat.le_succ _) (by omega) _).new (Nat.le_succ _) (by omega) _).alloc (by simp;omega) _⟩)
theorem rdH_objs (h:Hp) (c:Cal) (n k:Int):(h.rdH c n k).objs=h.objs:=by unfold Hp.rdH Hp.must;split;rfl;unfold Hp.fin;split<;>rfl
theorem qgives_op14o (w0:World) (g:Ad) (p:Nat) (h:Hp) (a:Ca) (c:Cal) (ia ib ic ii:Int) (args:List Int) (Q:Option Addr) (nl q:Nat) (w:World) (hH:Hs w0 g w p h) (hC:CalAt w0 w a c) (C:Cq w0 g h) (hrb:0≤ib∧ib<c.locs.length) (ho:(h.rdH c ib 3).over=true) :
  Calls Tryz.prog 156 #[.pointer (some ⟨p,0,none⟩),.pointer (some ⟨a.q,0,none⟩),.agg #[.int .i64 14,.int .i64 ia,.int .i64 ib,.int .i64 ic,.int .i64 ii,.slice Q nl q]] w fun e w'=>e=.returned (vaV (givesV h c ⟨14,ia,ib,ic,ii,args⟩))∧Hs w0 g w' p (givesH h c ⟨14,ia,ib,ic,ii,args⟩)∧Fr w0.heap.size g.T w w':=by
 obtain ⟨HF,HH,HA,HI,HR,HN,HC,hb,hq,hl⟩:=qpre 14 ia ib ic ii Q nl q hH hC C
 clear hH hC C
 have eH:givesH h c ⟨14,ia,ib,ic,ii,args⟩=h.rdH c ib 3:=by simp [givesH,ho]
 have eV:givesV h c ⟨14,ia,ib,ic,ii,args⟩=va0:=by simp [givesV,ho]
 rw [eH,eV]
 clear eH eV
 go_enter Tryz.func156,Tryz.ntmps156
 go_wp2_with (go_at_call 82;refine (yread_any w0 g p h a c ib 3 _ HH.out HA.out HC.out hrb).mono ?_;rintro e w1 ⟨rfl,H1,F1⟩;have R:=hid (HR.out.keep HC.out.k F1);have r0:=R.out.c0;have r1:=R.out.c1;have fz:=R.out.fr;have I1:=HI.out.keep HC.out.k F1;obtain ⟨i0,i1,i2,i3,i4,i5⟩:=I1.cs;replace I1:=hid I1;have N1:=HN.out.keep HC.out.k F1;have n0:=N1.c0;have n1:=N1.c1;replace N1:=hid N1;have hw1:=lt_some I1.out.blk;have hw2:=lt_some N1.out.blk;have hx1:w1.heap.size≠w.heap.size+1:=(by omega);have hx2:w.heap.size+1≠w1.heap.size:=(by omega);have r0a:∀o,(w1.alloc o).cell? ⟨w.heap.size+1,0,none⟩=some (.int .i64 0):=(fun o=>((Bl.refl w1).alloc o).cell r0);have r1a:∀o,(w1.alloc o).cell? ⟨w.heap.size+1,1,none⟩=some (.int .i64 0):=(fun o=>((Bl.refl w1).alloc o).cell r1);have R2:Hid (VaBox (w1.alloc (vaO (c.rd ib))) (w.heap.size+1) va0):=⟨(Below.heap_alloc _ _ _ (lt_some R.out.blk)).trans R.out.blk⟩;have fza:∀i,(w1.alloc (vaO (c.rd ib))).frozen? ⟨w.heap.size+1,i,none⟩=false:=(fun i=>R2.out.fr i);have r0b:=R2.out.c0;have r1b:=R2.out.c1;have hb1:=H1.base;have o12:w1.cell? ⟨p,12,none⟩=some (.bool true):=(by obtain ⟨vo,vx,hv,X⟩:=H1;rw [X.cells.c12,ho]);have o12a:=((Bl.refl w1).alloc (vaO (c.rd ib))).cell o12;have N2:Hid (VaBox (w1.alloc (vaO (c.rd ib))) (w.heap.size+1+1) va0):=⟨(Below.heap_alloc _ _ _ hw2).trans N1.out.blk⟩;have n0a:=N2.out.c0;have n1a:=N2.out.c1;have U2:Hid (VaBox (w1.alloc (vaO (c.rd ib))) w1.heap.size (c.rd ib)):=⟨blk_new _ _ _⟩;have I2:Hid (IBox (w1.alloc (vaO (c.rd ib))) w.heap.size 14 ia ib ic ii Q nl q):=⟨(Below.heap_alloc _ _ _ hw1).trans I1.out.blk⟩;replace H1:=hid H1;replace F1:=hid (HF.out.trans F1))
 first
  | (refine bodyPost_ret (results_cell_row rfl _ _ (w.heap.size+1) _ _ _ _ rfl (R2.out.set va0).blk Tryz.underlying80 rfl info_va) rfl ?_;exact ⟨rfl,(H1.out.cf ((Cf.refl _ _ _).alloc (by omega) _)).cf (R2.out.cf HC.out.k (by omega) _ _),((F1.out.alloc (by omega) _).new (Nat.le_succ _) (by omega) _).new (Nat.le_succ _) (by omega) _⟩)
  | (refine bodyPost_ret (results_cell_row rfl _ _ (w.heap.size+1) _ _ _ _ rfl ((Below.heap_alloc _ _ _ (by simp;exact lt_some R.out.blk)).trans (R.out.set va0).blk) Tryz.underlying80 rfl info_va) rfl ?_;exact ⟨rfl,(H1.out.cf (R.out.cf HC.out.k (by omega) _ _)).cf ((Cf.refl _ _ _).alloc (by simp;omega) _),((F1.out.new (Nat.le_succ _) (by omega) _).new (Nat.le_succ _) (by omega) _).alloc (by simp;omega) _⟩)
theorem qgives_op14 (w0:World) (g:Ad) (p:Nat) (h:Hp) (a:Ca) (c:Cal) (ia ib ic ii:Int) (args:List Int) (Q:Option Addr) (nl q:Nat) (w:World) (hH:Hs w0 g w p h) (hC:CalAt w0 w a c) (C:Cq w0 g h) (hrb:0≤ib∧ib<c.locs.length) (ho:(h.rdH c ib 3).over=false) (h3:(c.rd ib).kind=3→(c.rd ib).n<(h.rdH c ib 3).objs.length) :
  Calls Tryz.prog 156 #[.pointer (some ⟨p,0,none⟩),.pointer (some ⟨a.q,0,none⟩),.agg #[.int .i64 14,.int .i64 ia,.int .i64 ib,.int .i64 ic,.int .i64 ii,.slice Q nl q]] w fun e w'=>e=.returned (vaV (givesV h c ⟨14,ia,ib,ic,ii,args⟩))∧Hs w0 g w' p (givesH h c ⟨14,ia,ib,ic,ii,args⟩)∧Fr w0.heap.size g.T w w':=by
 obtain ⟨HF,HH,HA,HI,HR,HN,HC,hb,hq,hl⟩:=qpre 14 ia ib ic ii Q nl q hH hC C
 clear hH hC C
 have eH:givesH h c ⟨14,ia,ib,ic,ii,args⟩=(h.rdH c ib 3).findH (c.rd ib) ic:=by simp [givesH,ho]
 have eV:givesV h c ⟨14,ia,ib,ic,ii,args⟩=(h.rdH c ib 3).getV (c.rd ib) ic ii:=by simp [givesV,ho]
 rw [eH,eV]
 clear eH eV
 go_enter Tryz.func156,Tryz.ntmps156
 go_wp2_with (go_at_call 82;refine (yread_any w0 g p h a c ib 3 _ HH.out HA.out HC.out hrb).mono ?_;rintro e w1 ⟨rfl,H1,F1⟩;have R:=hid (HR.out.keep HC.out.k F1);have r0:=R.out.c0;have r1:=R.out.c1;have fz:=R.out.fr;have I1:=HI.out.keep HC.out.k F1;obtain ⟨i0,i1,i2,i3,i4,i5⟩:=I1.cs;replace I1:=hid I1;have N1:=HN.out.keep HC.out.k F1;have n0:=N1.c0;have n1:=N1.c1;replace N1:=hid N1;have hw1:=lt_some I1.out.blk;have hw2:=lt_some N1.out.blk;have hx1:w1.heap.size≠w.heap.size+1:=(by omega);have hx2:w.heap.size+1≠w1.heap.size:=(by omega);have r0a:∀o,(w1.alloc o).cell? ⟨w.heap.size+1,0,none⟩=some (.int .i64 0):=(fun o=>((Bl.refl w1).alloc o).cell r0);have r1a:∀o,(w1.alloc o).cell? ⟨w.heap.size+1,1,none⟩=some (.int .i64 0):=(fun o=>((Bl.refl w1).alloc o).cell r1);have R2:Hid (VaBox (w1.alloc (vaO (c.rd ib))) (w.heap.size+1) va0):=⟨(Below.heap_alloc _ _ _ (lt_some R.out.blk)).trans R.out.blk⟩;have fza:∀i,(w1.alloc (vaO (c.rd ib))).frozen? ⟨w.heap.size+1,i,none⟩=false:=(fun i=>R2.out.fr i);have r0b:=R2.out.c0;have r1b:=R2.out.c1;have hb1:=H1.base;have o12:w1.cell? ⟨p,12,none⟩=some (.bool false):=(by obtain ⟨vo,vx,hv,X⟩:=H1;rw [X.cells.c12,ho]);have o12a:=((Bl.refl w1).alloc (vaO (c.rd ib))).cell o12;have N2:Hid (VaBox (w1.alloc (vaO (c.rd ib))) (w.heap.size+1+1) va0):=⟨(Below.heap_alloc _ _ _ hw2).trans N1.out.blk⟩;have n0a:=N2.out.c0;have n1a:=N2.out.c1;have U2:Hid (VaBox (w1.alloc (vaO (c.rd ib))) w1.heap.size (c.rd ib)):=⟨blk_new _ _ _⟩;have I2:Hid (IBox (w1.alloc (vaO (c.rd ib))) w.heap.size 14 ia ib ic ii Q nl q):=⟨(Below.heap_alloc _ _ _ hw1).trans I1.out.blk⟩;replace H1:=hid H1;replace F1:=hid (HF.out.trans F1))
 have H2:=hid (H1.out.cf ((Cf.refl _ _ _).alloc hb1 (vaO (c.rd ib))))
 have F2:=hid (F1.out.alloc hb1 (vaO (c.rd ib)))
 have z2:=hid (And.intro U2.out.c0 (And.intro U2.out.c1 (And.intro I2.out.cs.2.2.2.1 I2.out.cs.2.2.2.2.1)))
 refine wp_region_held_drew (S:=fun w'=>w'.cell? ⟨w1.heap.size,0,none⟩=some (.int .i64 (c.rd ib).kind)∧w'.cell? ⟨w1.heap.size,1,none⟩=some (.int .i64 (c.rd ib).n)∧w'.cell? ⟨w.heap.size,3,none⟩=some (.int .i64 ic)∧w'.cell? ⟨w.heap.size,4,none⟩=some (.int .i64 ii)) (by kernel_rfl) ?_ (fun hHeld0=>?_)
 ·exact z2.out
 iterate 8 (refine tn rfl (by kernel_rfl) (fun _ _ _ h=>h) (by intro _ h;go_split_ands;go_simp<;>with_reducible rfl) hHeld0 ?_;try simp only [aS,aN,aT,a0,a1])
 refine rd1 (i:=8) (by kernel_rfl) rfl fun K hK=>?_
 go_simp
 go_at_call 219
 refine (get_any w0 g p (h.rdH c ib 3) (c.rd ib) ic ii _ (H2.out.drewN 1) (HC.out.same (rdH_file h c ib 3)).cw h3).mono ?_
 rintro e w2 ⟨rfl,H3,F3⟩
 have R3:=hid ((R2.out.drewN 1).keep HC.out.k F3)
 have z0:=R3.out.c0
 have z1:=R3.out.c1
 have fz3:=R3.out.fr
 have I3:=hid ((IBox.mk I2.out.blk:IBox ((w1.alloc (vaO (c.rd ib))).drew) _ _ _ _ _ _ _ _ _).keep HC.out.k F3)
 have U3:=hid ((U2.out.drewN 1).keep HC.out.k F3)
 have d8:=hid (And.intro U3.out.c0 (And.intro U3.out.c1 (And.intro I3.out.cs.2.2.2.1 I3.out.cs.2.2.2.2.1)))
 replace H3:=hid H3
 replace F3:=hid ((F2.out.drewN 1).trans F3)
 go_wp2_with fail
 refine hK.out _ _ (d8.out) (fun hHeld1=>?_)
 try simp only [aS,aN,aT,a0,a1]
 refine rd1 (i:=9) (by kernel_rfl) rfl fun K hK=>?_
 go_wp2_with fail
 refine hK.out _ _ (⟨set2_cellQ d8.out.1 (by omega),set2_cellQ d8.out.2.1 (by omega),set2_cellQ d8.out.2.2.1 (by omega),set2_cellQ d8.out.2.2.2 (by omega)⟩) (fun hHeld2=>?_)
 try simp only [aS,aN,aT,a0,a1]
 refine wpAnyH_done (by kernel_rfl) ?_ _
 go_wp2
 refine bodyPost_ret (results_cell_row rfl _ _ (w.heap.size+1) _ _ _ _ rfl (R3.out.set ((h.rdH c ib 3).getV (c.rd ib) ic ii)).blk Tryz.underlying80 rfl info_va) rfl ?_
 exact ⟨rfl,H3.out.cf (R3.out.cf HC.out.k (by omega) _ _),(F3.out.new (Nat.le_succ _) (by omega) _).new (Nat.le_succ _) (by omega) _⟩
theorem qgives_op17o (w0:World) (g:Ad) (p:Nat) (h:Hp) (a:Ca) (c:Cal) (ia ib ic ii:Int) (args:List Int) (Q:Option Addr) (nl q:Nat) (w:World) (hH:Hs w0 g w p h) (hC:CalAt w0 w a c) (C:Cq w0 g h) (hrb:0≤ib∧ib<c.locs.length) (ho:(h.rdH c ib 3).over=true) :
  Calls Tryz.prog 156 #[.pointer (some ⟨p,0,none⟩),.pointer (some ⟨a.q,0,none⟩),.agg #[.int .i64 17,.int .i64 ia,.int .i64 ib,.int .i64 ic,.int .i64 ii,.slice Q nl q]] w fun e w'=>e=.returned (vaV (givesV h c ⟨17,ia,ib,ic,ii,args⟩))∧Hs w0 g w' p (givesH h c ⟨17,ia,ib,ic,ii,args⟩)∧Fr w0.heap.size g.T w w':=by
 obtain ⟨HF,HH,HA,HI,HR,HN,HC,hb,hq,hl⟩:=qpre 17 ia ib ic ii Q nl q hH hC C
 clear hH hC C
 have eH:givesH h c ⟨17,ia,ib,ic,ii,args⟩=h.rdH c ib 3:=by simp [givesH,ho]
 have eV:givesV h c ⟨17,ia,ib,ic,ii,args⟩=va0:=by simp [givesV,ho]
 rw [eH,eV]
 clear eH eV
 go_enter Tryz.func156,Tryz.ntmps156
 go_wp2_with (go_at_call 82;refine (yread_any w0 g p h a c ib 3 _ HH.out HA.out HC.out hrb).mono ?_;rintro e w1 ⟨rfl,H1,F1⟩;have R:=hid (HR.out.keep HC.out.k F1);have r0:=R.out.c0;have r1:=R.out.c1;have fz:=R.out.fr;have I1:=HI.out.keep HC.out.k F1;obtain ⟨i0,i1,i2,i3,i4,i5⟩:=I1.cs;replace I1:=hid I1;have N1:=HN.out.keep HC.out.k F1;have n0:=N1.c0;have n1:=N1.c1;replace N1:=hid N1;have hw1:=lt_some I1.out.blk;have hw2:=lt_some N1.out.blk;have hx1:w1.heap.size≠w.heap.size+1:=(by omega);have hx2:w.heap.size+1≠w1.heap.size:=(by omega);have r0a:∀o,(w1.alloc o).cell? ⟨w.heap.size+1,0,none⟩=some (.int .i64 0):=(fun o=>((Bl.refl w1).alloc o).cell r0);have r1a:∀o,(w1.alloc o).cell? ⟨w.heap.size+1,1,none⟩=some (.int .i64 0):=(fun o=>((Bl.refl w1).alloc o).cell r1);have R2:Hid (VaBox (w1.alloc (vaO (c.rd ib))) (w.heap.size+1) va0):=⟨(Below.heap_alloc _ _ _ (lt_some R.out.blk)).trans R.out.blk⟩;have fza:∀i,(w1.alloc (vaO (c.rd ib))).frozen? ⟨w.heap.size+1,i,none⟩=false:=(fun i=>R2.out.fr i);have r0b:=R2.out.c0;have r1b:=R2.out.c1;have hb1:=H1.base;have o12:w1.cell? ⟨p,12,none⟩=some (.bool true):=(by obtain ⟨vo,vx,hv,X⟩:=H1;rw [X.cells.c12,ho]);have o12a:=((Bl.refl w1).alloc (vaO (c.rd ib))).cell o12;have N2:Hid (VaBox (w1.alloc (vaO (c.rd ib))) (w.heap.size+1+1) va0):=⟨(Below.heap_alloc _ _ _ hw2).trans N1.out.blk⟩;have n0a:=N2.out.c0;have n1a:=N2.out.c1;have U2:Hid (VaBox (w1.alloc (vaO (c.rd ib))) w1.heap.size (c.rd ib)):=⟨blk_new _ _ _⟩;have I2:Hid (IBox (w1.alloc (vaO (c.rd ib))) w.heap.size 17 ia ib ic ii Q nl q):=⟨(Below.heap_alloc _ _ _ hw1).trans I1.out.blk⟩;replace H1:=hid H1;replace F1:=hid (HF.out.trans F1))
 first
  | (refine bodyPost_ret (results_cell_row rfl _ _ (w.heap.size+1) _ _ _ _ rfl (R2.out.set va0).blk Tryz.underlying80 rfl info_va) rfl ?_;exact ⟨rfl,(H1.out.cf ((Cf.refl _ _ _).alloc (by omega) _)).cf (R2.out.cf HC.out.k (by omega) _ _),((F1.out.alloc (by omega) _).new (Nat.le_succ _) (by omega) _).new (Nat.le_succ _) (by omega) _⟩)
  | (refine bodyPost_ret (results_cell_row rfl _ _ (w.heap.size+1) _ _ _ _ rfl ((Below.heap_alloc _ _ _ (by simp;exact lt_some R.out.blk)).trans (R.out.set va0).blk) Tryz.underlying80 rfl info_va) rfl ?_;exact ⟨rfl,(H1.out.cf (R.out.cf HC.out.k (by omega) _ _)).cf ((Cf.refl _ _ _).alloc (by simp;omega) _),((F1.out.new (Nat.le_succ _) (by omega) _).new (Nat.le_succ _) (by omega) _).alloc (by simp;omega) _⟩)
theorem qgives_op17 (w0:World) (g:Ad) (p:Nat) (h:Hp) (a:Ca) (c:Cal) (ia ib ic ii:Int) (args:List Int) (Q:Option Addr) (nl q:Nat) (w:World) (hH:Hs w0 g w p h) (hC:CalAt w0 w a c) (C:Cq w0 g h) (hrb:0≤ib∧ib<c.locs.length) (ho:(h.rdH c ib 3).over=false) (h3:(c.rd ib).kind=3→(c.rd ib).n<(h.rdH c ib 3).objs.length) :
  Calls Tryz.prog 156 #[.pointer (some ⟨p,0,none⟩),.pointer (some ⟨a.q,0,none⟩),.agg #[.int .i64 17,.int .i64 ia,.int .i64 ib,.int .i64 ic,.int .i64 ii,.slice Q nl q]] w fun e w'=>e=.returned (vaV (givesV h c ⟨17,ia,ib,ic,ii,args⟩))∧Hs w0 g w' p (givesH h c ⟨17,ia,ib,ic,ii,args⟩)∧Fr w0.heap.size g.T w w':=by
 obtain ⟨HF,HH,HA,HI,HR,HN,HC,hb,hq,hl⟩:=qpre 17 ia ib ic ii Q nl q hH hC C
 clear hH hC C
 have eH:givesH h c ⟨17,ia,ib,ic,ii,args⟩=(h.rdH c ib 3).must (isRef (c.rd ib)):=by simp [givesH,ho]
 have eV:givesV h c ⟨17,ia,ib,ic,ii,args⟩=(h.rdH c ib 3).isV (c.rd ib) ic:=by simp [givesV,ho]
 rw [eH,eV]
 clear eH eV
 go_enter Tryz.func156,Tryz.ntmps156
 go_wp2_with (go_at_call 82;refine (yread_any w0 g p h a c ib 3 _ HH.out HA.out HC.out hrb).mono ?_;rintro e w1 ⟨rfl,H1,F1⟩;have R:=hid (HR.out.keep HC.out.k F1);have r0:=R.out.c0;have r1:=R.out.c1;have fz:=R.out.fr;have I1:=HI.out.keep HC.out.k F1;obtain ⟨i0,i1,i2,i3,i4,i5⟩:=I1.cs;replace I1:=hid I1;have N1:=HN.out.keep HC.out.k F1;have n0:=N1.c0;have n1:=N1.c1;replace N1:=hid N1;have hw1:=lt_some I1.out.blk;have hw2:=lt_some N1.out.blk;have hx1:w1.heap.size≠w.heap.size+1:=(by omega);have hx2:w.heap.size+1≠w1.heap.size:=(by omega);have r0a:∀o,(w1.alloc o).cell? ⟨w.heap.size+1,0,none⟩=some (.int .i64 0):=(fun o=>((Bl.refl w1).alloc o).cell r0);have r1a:∀o,(w1.alloc o).cell? ⟨w.heap.size+1,1,none⟩=some (.int .i64 0):=(fun o=>((Bl.refl w1).alloc o).cell r1);have R2:Hid (VaBox (w1.alloc (vaO (c.rd ib))) (w.heap.size+1) va0):=⟨(Below.heap_alloc _ _ _ (lt_some R.out.blk)).trans R.out.blk⟩;have fza:∀i,(w1.alloc (vaO (c.rd ib))).frozen? ⟨w.heap.size+1,i,none⟩=false:=(fun i=>R2.out.fr i);have r0b:=R2.out.c0;have r1b:=R2.out.c1;have hb1:=H1.base;have o12:w1.cell? ⟨p,12,none⟩=some (.bool false):=(by obtain ⟨vo,vx,hv,X⟩:=H1;rw [X.cells.c12,ho]);have o12a:=((Bl.refl w1).alloc (vaO (c.rd ib))).cell o12;have N2:Hid (VaBox (w1.alloc (vaO (c.rd ib))) (w.heap.size+1+1) va0):=⟨(Below.heap_alloc _ _ _ hw2).trans N1.out.blk⟩;have n0a:=N2.out.c0;have n1a:=N2.out.c1;have U2:Hid (VaBox (w1.alloc (vaO (c.rd ib))) w1.heap.size (c.rd ib)):=⟨blk_new _ _ _⟩;have I2:Hid (IBox (w1.alloc (vaO (c.rd ib))) w.heap.size 17 ia ib ic ii Q nl q):=⟨(Below.heap_alloc _ _ _ hw1).trans I1.out.blk⟩;replace H1:=hid H1;replace F1:=hid (HF.out.trans F1))
 have H2:=hid (H1.out.cf ((Cf.refl _ _ _).alloc hb1 (vaO (c.rd ib))))
 have F2:=hid (F1.out.alloc hb1 (vaO (c.rd ib)))
 have z2:=hid (And.intro U2.out.c0 (And.intro U2.out.c1 (And.intro I2.out.cs.2.2.2.1 I2.out.cs.2.2.2.2.1)))
 refine wp_region_held_drew (S:=fun w'=>w'.cell? ⟨w1.heap.size,0,none⟩=some (.int .i64 (c.rd ib).kind)∧w'.cell? ⟨w1.heap.size,1,none⟩=some (.int .i64 (c.rd ib).n)∧w'.cell? ⟨w.heap.size,3,none⟩=some (.int .i64 ic)∧w'.cell? ⟨w.heap.size,4,none⟩=some (.int .i64 ii)) (by kernel_rfl) ?_ (fun hHeld0=>?_)
 ·exact z2.out
 iterate 6 (refine tn rfl (by kernel_rfl) (fun _ _ _ h=>h) (by intro _ h;go_split_ands;go_simp<;>with_reducible rfl) hHeld0 ?_;try simp only [aS,aN,aT,a0,a1])
 refine rd1 (i:=6) (by kernel_rfl) rfl fun K hK=>?_
 go_simp
 go_at_call 220
 refine (is_any w0 g p (h.rdH c ib 3) (c.rd ib) ic _ (H2.out.drewN 1) (HC.out.same (rdH_file h c ib 3)).cw h3).mono ?_
 rintro e w2 ⟨rfl,H3,F3⟩
 have R3:=hid ((R2.out.drewN 1).keep HC.out.k F3)
 have z0:=R3.out.c0
 have z1:=R3.out.c1
 have fz3:=R3.out.fr
 have I3:=hid ((IBox.mk I2.out.blk:IBox ((w1.alloc (vaO (c.rd ib))).drew) _ _ _ _ _ _ _ _ _).keep HC.out.k F3)
 have U3:=hid ((U2.out.drewN 1).keep HC.out.k F3)
 have d8:=hid (And.intro U3.out.c0 (And.intro U3.out.c1 (And.intro I3.out.cs.2.2.2.1 I3.out.cs.2.2.2.2.1)))
 replace H3:=hid H3
 replace F3:=hid ((F2.out.drewN 1).trans F3)
 go_wp2_with fail
 refine hK.out _ _ (d8.out) (fun hHeld1=>?_)
 try simp only [aS,aN,aT,a0,a1]
 refine rd1 (i:=7) (by kernel_rfl) rfl fun K hK=>?_
 go_wp2_with fail
 refine hK.out _ _ (⟨set2_cellQ d8.out.1 (by omega),set2_cellQ d8.out.2.1 (by omega),set2_cellQ d8.out.2.2.1 (by omega),set2_cellQ d8.out.2.2.2 (by omega)⟩) (fun hHeld2=>?_)
 try simp only [aS,aN,aT,a0,a1]
 refine wpAnyH_done (by kernel_rfl) ?_ _
 go_wp2
 refine bodyPost_ret (results_cell_row rfl _ _ (w.heap.size+1) _ _ _ _ rfl (R3.out.set ((h.rdH c ib 3).isV (c.rd ib) ic)).blk Tryz.underlying80 rfl info_va) rfl ?_
 exact ⟨rfl,H3.out.cf (R3.out.cf HC.out.k (by omega) _ _),(F3.out.new (Nat.le_succ _) (by omega) _).new (Nat.le_succ _) (by omega) _⟩
structure GOk (w0:World) (g:Ad) (h:Hp) (c:Cal) (k ib ic:Int):Prop where
 op:k=1∨k=2∨k=3∨k=4∨k=5∨k=6∨k=7∨k=8∨k=9∨k=13∨k=14∨k=17∨k=24
 rb:(k=4∨k=5∨k=6∨k=7∨k=8∨k=9∨k=14∨k=17)→0≤ib∧ib<c.locs.length
 rc:(k=5∨k=6∨k=9)→0≤ic∧ic<c.locs.length
 nb:(k=5∨k=6)→I64 (c.rd ib).n∧I64 (c.rd ic).n
 cb:k=13→0≤ib∧ib<h.file.classes.length
 r3:(k=14∨k=17)→(c.rd ib).kind=3→(c.rd ib).n<h.objs.length
 inp:IntsAt w0 g.I h.input
 used:0≤h.sh.used
theorem qgives_any (w0:World) (g:Ad) (p:Nat) (h:Hp) (a:Ca) (c:Cal) (k ia ib ic ii:Int) (args:List Int) (Q:Option Addr) (nl q:Nat) (w:World) (hH:Hs w0 g w p h) (hC:CalAt w0 w a c) (C:Cq w0 g h) (G:GOk w0 g h c k ib ic) :
  Calls Tryz.prog 156 #[.pointer (some ⟨p,0,none⟩),.pointer (some ⟨a.q,0,none⟩),.agg #[.int .i64 k,.int .i64 ia,.int .i64 ib,.int .i64 ic,.int .i64 ii,.slice Q nl q]] w fun e w'=>e=.returned (vaV (givesV h c ⟨k,ia,ib,ic,ii,args⟩))∧Hs w0 g w' p (givesH h c ⟨k,ia,ib,ic,ii,args⟩)∧Fr w0.heap.size g.T w w':=by
 obtain ⟨hk,rb,rc,nb,cb,r3,inp,used⟩:=G
 rcases hk with rfl|rfl|rfl|rfl|rfl|rfl|rfl|rfl|rfl|rfl|rfl|rfl|rfl
 ·exact qgives_op1 w0 g p h a c ia ib ic ii args Q nl q w hH hC C
 ·exact qgives_op2 w0 g p h a c ia ib ic ii args Q nl q w hH hC C
 ·exact qgives_op3 w0 g p h a c ia ib ic ii args Q nl q w hH hC C
 ·exact qgives_op4 w0 g p h a c ia ib ic ii args Q nl q w hH hC C (rb (by decide))
 ·exact qgives_op5 w0 g p h a c ia ib ic ii args Q nl q w hH hC C (rb (by decide)) (rc (by decide)) (nb (by decide)).1 (nb (by decide)).2
 ·exact qgives_op6 w0 g p h a c ia ib ic ii args Q nl q w hH hC C (rb (by decide)) (rc (by decide)) (nb (by decide)).1 (nb (by decide)).2
 ·exact qgives_op7 w0 g p h a c ia ib ic ii args Q nl q w hH hC C (rb (by decide))
 ·exact qgives_op8 w0 g p h a c ia ib ic ii args Q nl q w hH hC C (rb (by decide))
 ·exact qgives_op9 w0 g p h a c ia ib ic ii args Q nl q w hH hC C (rb (by decide)) (rc (by decide))
 ·exact qgives_op13 w0 g p h a c ia ib ic ii args Q nl q w hH hC C (cb rfl)
 ·cases ho:(h.rdH c ib 3).over
  ·exact qgives_op14 w0 g p h a c ia ib ic ii args Q nl q w hH hC C (rb (by decide)) ho (by rw [rdH_objs];exact r3 (by decide))
  ·exact qgives_op14o w0 g p h a c ia ib ic ii args Q nl q w hH hC C (rb (by decide)) ho
 ·cases ho:(h.rdH c ib 3).over
  ·exact qgives_op17 w0 g p h a c ia ib ic ii args Q nl q w hH hC C (rb (by decide)) ho (by rw [rdH_objs];exact r3 (by decide))
  ·exact qgives_op17o w0 g p h a c ia ib ic ii args Q nl q w hH hC C (rb (by decide)) ho
 ·exact qgives_op24 w0 g p h a c ia ib ic ii args Q nl q w hH hC C inp used
end Go.Proofs.YtfncnhlihmnkiabGreat
