import Derived.Test.YtgiiapenmjollabGreatRsan
import Derived.Deep.Upon
namespace Go.Proofs.YtgiiapenmjollabGreat
set_option linter.all false
set_option maxHeartbeats 40000000
set_option maxRecDepth 100000
open Go.RowKit
theorem rdH_objs (h:Hp) (c:Cal) (n k:Int):(h.rdH c n k).objs=h.objs:=by unfold Hp.rdH Hp.must;split;rfl;unfold Hp.fin;split<;>rfl
theorem qgives_op14o (w0:World) (g:Ad) (p:Nat) (h:Hp) (a:Ca) (c:Cal) (ia ib ic ii:Int) (args:List Int) (Q:Option Addr) (nl q:Nat) (w:World) (hH:Hs w0 g w p h) (hC:CalAt w0 w a c) (C:Cq w0 g h) (hrb:0≤ib∧ib<c.locs.length) (ho:(h.rdH c ib 3).over=true) :
  Calls Tryz.prog 167 #[.pointer (some ⟨p,0,none⟩),.pointer (some ⟨a.q,0,none⟩),.agg #[.int .i64 14,.int .i64 ia,.int .i64 ib,.int .i64 ic,.int .i64 ii,.slice Q nl q]] w fun e w'=>e=.returned (vaV (givesV h c ⟨14,ia,ib,ic,ii,args⟩))∧Hs w0 g w' p (givesH h c ⟨14,ia,ib,ic,ii,args⟩)∧Fr w0.heap.size g.T w w':=by
 obtain ⟨HF,HH,HA,HI,HR,HN,HC,hb,hq,hl⟩:=qpre 14 ia ib ic ii Q nl q hH hC C
 clear hH hC C
 have eH:givesH h c ⟨14,ia,ib,ic,ii,args⟩=h.rdH c ib 3:=by simp [givesH,ho]
 have eV:givesV h c ⟨14,ia,ib,ic,ii,args⟩=va0:=by simp [givesV,ho]
 rw [eH,eV]
 clear eH eV
 go_enter Tryz.func167,Tryz.ntmps167
 go_wp2_with (go_at_call 86;refine (yread_any w0 g p h a c ib 3 _ HH.out HA.out HC.out hrb).mono ?_;rintro e w1 ⟨rfl,H1,F1⟩;have R:=hid (HR.out.keep HC.out.k F1);have r0:=R.out.c0;have r1:=R.out.c1;have fz:=R.out.fr;have I1:=HI.out.keep HC.out.k F1;obtain ⟨i0,i1,i2,i3,i4,i5⟩:=I1.cs;replace I1:=hid I1;have N1:=HN.out.keep HC.out.k F1;have n0:=N1.c0;have n1:=N1.c1;replace N1:=hid N1;have hw1:=lt_some I1.out.blk;have hw2:=lt_some N1.out.blk;have hx1:w1.heap.size≠w.heap.size+1:=(by omega);have hx2:w.heap.size+1≠w1.heap.size:=(by omega);have r0a:∀o,(w1.alloc o).cell? ⟨w.heap.size+1,0,none⟩=some (.int .i64 0):=(fun o=>((Bl.refl w1).alloc o).cell r0);have r1a:∀o,(w1.alloc o).cell? ⟨w.heap.size+1,1,none⟩=some (.int .i64 0):=(fun o=>((Bl.refl w1).alloc o).cell r1);have R2:Hid (VaBox (w1.alloc (vaO (c.rd ib))) (w.heap.size+1) va0):=⟨(Below.heap_alloc _ _ _ (lt_some R.out.blk)).trans R.out.blk⟩;have fza:∀i,(w1.alloc (vaO (c.rd ib))).frozen? ⟨w.heap.size+1,i,none⟩=false:=(fun i=>R2.out.fr i);have r0b:=R2.out.c0;have r1b:=R2.out.c1;have hb1:=H1.base;have o12:w1.cell? ⟨p,12,none⟩=some (.bool true):=(by obtain ⟨vo,vx,hv,X⟩:=H1;rw [X.cells.c12,ho]);have o12a:=((Bl.refl w1).alloc (vaO (c.rd ib))).cell o12;have N2:Hid (VaBox (w1.alloc (vaO (c.rd ib))) (w.heap.size+1+1) va0):=⟨(Below.heap_alloc _ _ _ hw2).trans N1.out.blk⟩;have n0a:=N2.out.c0;have n1a:=N2.out.c1;have U2:Hid (VaBox (w1.alloc (vaO (c.rd ib))) w1.heap.size (c.rd ib)):=⟨blk_new _ _ _⟩;have I2:Hid (IBox (w1.alloc (vaO (c.rd ib))) w.heap.size 14 ia ib ic ii Q nl q):=⟨(Below.heap_alloc _ _ _ hw1).trans I1.out.blk⟩;replace H1:=hid H1;replace F1:=hid (HF.out.trans F1))
 first
  | (refine bodyPost_ret (results_cell_row rfl _ _ (w.heap.size+1) _ _ _ _ rfl (R2.out.set va0).blk Tryz.underlying82 rfl info_va) rfl ?_;exact ⟨rfl,(H1.out.cf ((Cf.refl _ _ _).alloc (by omega) _)).cf (R2.out.cf HC.out.k (by omega) _ _),((F1.out.alloc (by omega) _).new (Nat.le_succ _) (by omega) _).new (Nat.le_succ _) (by omega) _⟩)
  | (refine bodyPost_ret (results_cell_row rfl _ _ (w.heap.size+1) _ _ _ _ rfl ((Below.heap_alloc _ _ _ (by simp;exact lt_some R.out.blk)).trans (R.out.set va0).blk) Tryz.underlying82 rfl info_va) rfl ?_;exact ⟨rfl,(H1.out.cf (R.out.cf HC.out.k (by omega) _ _)).cf ((Cf.refl _ _ _).alloc (by simp;omega) _),((F1.out.new (Nat.le_succ _) (by omega) _).new (Nat.le_succ _) (by omega) _).alloc (by simp;omega) _⟩)
theorem qgives_op14 (w0:World) (g:Ad) (p:Nat) (h:Hp) (a:Ca) (c:Cal) (ia ib ic ii:Int) (args:List Int) (Q:Option Addr) (nl q:Nat) (w:World) (hH:Hs w0 g w p h) (hC:CalAt w0 w a c) (C:Cq w0 g h) (hrb:0≤ib∧ib<c.locs.length) (ho:(h.rdH c ib 3).over=false) (h3:(c.rd ib).kind=3→(c.rd ib).n<(h.rdH c ib 3).objs.length) :
  Calls Tryz.prog 167 #[.pointer (some ⟨p,0,none⟩),.pointer (some ⟨a.q,0,none⟩),.agg #[.int .i64 14,.int .i64 ia,.int .i64 ib,.int .i64 ic,.int .i64 ii,.slice Q nl q]] w fun e w'=>e=.returned (vaV (givesV h c ⟨14,ia,ib,ic,ii,args⟩))∧Hs w0 g w' p (givesH h c ⟨14,ia,ib,ic,ii,args⟩)∧Fr w0.heap.size g.T w w':=by
 obtain ⟨HF,HH,HA,HI,HR,HN,HC,hb,hq,hl⟩:=qpre 14 ia ib ic ii Q nl q hH hC C
 clear hH hC C
 have eH:givesH h c ⟨14,ia,ib,ic,ii,args⟩=(h.rdH c ib 3).findH (c.rd ib) ic:=by simp [givesH,ho]
 have eV:givesV h c ⟨14,ia,ib,ic,ii,args⟩=(h.rdH c ib 3).getV (c.rd ib) ic ii:=by simp [givesV,ho]
 rw [eH,eV]
 clear eH eV
 go_enter Tryz.func167,Tryz.ntmps167
 go_wp2_with (go_at_call 86;refine (yread_any w0 g p h a c ib 3 _ HH.out HA.out HC.out hrb).mono ?_;rintro e w1 ⟨rfl,H1,F1⟩;have R:=hid (HR.out.keep HC.out.k F1);have r0:=R.out.c0;have r1:=R.out.c1;have fz:=R.out.fr;have I1:=HI.out.keep HC.out.k F1;obtain ⟨i0,i1,i2,i3,i4,i5⟩:=I1.cs;replace I1:=hid I1;have N1:=HN.out.keep HC.out.k F1;have n0:=N1.c0;have n1:=N1.c1;replace N1:=hid N1;have hw1:=lt_some I1.out.blk;have hw2:=lt_some N1.out.blk;have hx1:w1.heap.size≠w.heap.size+1:=(by omega);have hx2:w.heap.size+1≠w1.heap.size:=(by omega);have r0a:∀o,(w1.alloc o).cell? ⟨w.heap.size+1,0,none⟩=some (.int .i64 0):=(fun o=>((Bl.refl w1).alloc o).cell r0);have r1a:∀o,(w1.alloc o).cell? ⟨w.heap.size+1,1,none⟩=some (.int .i64 0):=(fun o=>((Bl.refl w1).alloc o).cell r1);have R2:Hid (VaBox (w1.alloc (vaO (c.rd ib))) (w.heap.size+1) va0):=⟨(Below.heap_alloc _ _ _ (lt_some R.out.blk)).trans R.out.blk⟩;have fza:∀i,(w1.alloc (vaO (c.rd ib))).frozen? ⟨w.heap.size+1,i,none⟩=false:=(fun i=>R2.out.fr i);have r0b:=R2.out.c0;have r1b:=R2.out.c1;have hb1:=H1.base;have o12:w1.cell? ⟨p,12,none⟩=some (.bool false):=(by obtain ⟨vo,vx,hv,X⟩:=H1;rw [X.cells.c12,ho]);have o12a:=((Bl.refl w1).alloc (vaO (c.rd ib))).cell o12;have N2:Hid (VaBox (w1.alloc (vaO (c.rd ib))) (w.heap.size+1+1) va0):=⟨(Below.heap_alloc _ _ _ hw2).trans N1.out.blk⟩;have n0a:=N2.out.c0;have n1a:=N2.out.c1;have U2:Hid (VaBox (w1.alloc (vaO (c.rd ib))) w1.heap.size (c.rd ib)):=⟨blk_new _ _ _⟩;have I2:Hid (IBox (w1.alloc (vaO (c.rd ib))) w.heap.size 14 ia ib ic ii Q nl q):=⟨(Below.heap_alloc _ _ _ hw1).trans I1.out.blk⟩;replace H1:=hid H1;replace F1:=hid (HF.out.trans F1))
 have H2:=hid (H1.out.cf ((Cf.refl _ _ _).alloc hb1 (vaO (c.rd ib))))
 have F2:=hid (F1.out.alloc hb1 (vaO (c.rd ib)))
 have z2:=hid (And.intro U2.out.c0 (And.intro U2.out.c1 (And.intro I2.out.cs.2.2.2.1 I2.out.cs.2.2.2.2.1)))
 refine wp_region_held_drew (S:=fun w'=>w'.cell? ⟨w1.heap.size,0,none⟩=some (.int .i64 (c.rd ib).kind)∧w'.cell? ⟨w1.heap.size,1,none⟩=some (.int .i64 (c.rd ib).n)∧w'.cell? ⟨w.heap.size,3,none⟩=some (.int .i64 ic)∧w'.cell? ⟨w.heap.size,4,none⟩=some (.int .i64 ii)) (by kernel_rfl) ?_ (fun hHeld0=>?_)
 ·exact z2.out
 iterate 8 (refine tn rfl (by kernel_rfl) (fun _ _ _ h=>h) (by intro _ h;go_split_ands;go_simp<;>with_reducible rfl) hHeld0 ?_;try simp only [aS,aN,aT,a0,a1])
 refine rd1 (i:=8) (by kernel_rfl) rfl fun K hK=>?_
 go_simp
 go_at_call 231
 refine (get_any w0 g p (h.rdH c ib 3) (c.rd ib) ic ii _ (H2.out.drewN 1) (HC.out.same (rdH_file h c ib 3)).cw h3).mono ?_
 rintro e w2 ⟨rfl,H3,F3⟩
 have R3:=hid ((R2.out.drewN 1).keep HC.out.k F3)
 have z0:=R3.out.c0
 have z1:=R3.out.c1
 have fz3:=R3.out.fr
 have I3:=hid ((IBox.mk I2.out.blk:IBox ((w1.alloc (vaO (c.rd ib))).drew) _ _ _ _ _ _ _ _ _).keep HC.out.k F3)
 have U3:=hid ((U2.out.drewN 1).keep HC.out.k F3)
 have d8:=hid (And.intro U3.out.c0 (And.intro U3.out.c1 (And.intro I3.out.cs.2.2.2.1 I3.out.cs.2.2.2.2.1)))
 replace H3:=hid H3
 replace F3:=hid ((F2.out.drewN 1).trans F3)
 go_wp2_with fail
 refine hK.out _ _ (d8.out) (fun hHeld1=>?_)
 try simp only [aS,aN,aT,a0,a1]
 refine rd1 (i:=9) (by kernel_rfl) rfl fun K hK=>?_
 go_wp2_with fail
 refine hK.out _ _ (⟨set2_cellQ d8.out.1 (by omega),set2_cellQ d8.out.2.1 (by omega),set2_cellQ d8.out.2.2.1 (by omega),set2_cellQ d8.out.2.2.2 (by omega)⟩) (fun hHeld2=>?_)
 try simp only [aS,aN,aT,a0,a1]
 refine wpAnyH_done (by kernel_rfl) ?_ _
 go_wp2
 refine bodyPost_ret (results_cell_row rfl _ _ (w.heap.size+1) _ _ _ _ rfl (R3.out.set ((h.rdH c ib 3).getV (c.rd ib) ic ii)).blk Tryz.underlying82 rfl info_va) rfl ?_
 exact ⟨rfl,H3.out.cf (R3.out.cf HC.out.k (by omega) _ _),(F3.out.new (Nat.le_succ _) (by omega) _).new (Nat.le_succ _) (by omega) _⟩
theorem qgives_op17o (w0:World) (g:Ad) (p:Nat) (h:Hp) (a:Ca) (c:Cal) (ia ib ic ii:Int) (args:List Int) (Q:Option Addr) (nl q:Nat) (w:World) (hH:Hs w0 g w p h) (hC:CalAt w0 w a c) (C:Cq w0 g h) (hrb:0≤ib∧ib<c.locs.length) (ho:(h.rdH c ib 3).over=true) :
  Calls Tryz.prog 167 #[.pointer (some ⟨p,0,none⟩),.pointer (some ⟨a.q,0,none⟩),.agg #[.int .i64 17,.int .i64 ia,.int .i64 ib,.int .i64 ic,.int .i64 ii,.slice Q nl q]] w fun e w'=>e=.returned (vaV (givesV h c ⟨17,ia,ib,ic,ii,args⟩))∧Hs w0 g w' p (givesH h c ⟨17,ia,ib,ic,ii,args⟩)∧Fr w0.heap.size g.T w w':=by
 obtain ⟨HF,HH,HA,HI,HR,HN,HC,hb,hq,hl⟩:=qpre 17 ia ib ic ii Q nl q hH hC C
 clear hH hC C
 have eH:givesH h c ⟨17,ia,ib,ic,ii,args⟩=h.rdH c ib 3:=by simp [givesH,ho]
 have eV:givesV h c ⟨17,ia,ib,ic,ii,args⟩=va0:=by simp [givesV,ho]
 rw [eH,eV]
 clear eH eV
 go_enter Tryz.func167,Tryz.ntmps167
 go_wp2_with (go_at_call 86;refine (yread_any w0 g p h a c ib 3 _ HH.out HA.out HC.out hrb).mono ?_;rintro e w1 ⟨rfl,H1,F1⟩;have R:=hid (HR.out.keep HC.out.k F1);have r0:=R.out.c0;have r1:=R.out.c1;have fz:=R.out.fr;have I1:=HI.out.keep HC.out.k F1;obtain ⟨i0,i1,i2,i3,i4,i5⟩:=I1.cs;replace I1:=hid I1;have N1:=HN.out.keep HC.out.k F1;have n0:=N1.c0;have n1:=N1.c1;replace N1:=hid N1;have hw1:=lt_some I1.out.blk;have hw2:=lt_some N1.out.blk;have hx1:w1.heap.size≠w.heap.size+1:=(by omega);have hx2:w.heap.size+1≠w1.heap.size:=(by omega);have r0a:∀o,(w1.alloc o).cell? ⟨w.heap.size+1,0,none⟩=some (.int .i64 0):=(fun o=>((Bl.refl w1).alloc o).cell r0);have r1a:∀o,(w1.alloc o).cell? ⟨w.heap.size+1,1,none⟩=some (.int .i64 0):=(fun o=>((Bl.refl w1).alloc o).cell r1);have R2:Hid (VaBox (w1.alloc (vaO (c.rd ib))) (w.heap.size+1) va0):=⟨(Below.heap_alloc _ _ _ (lt_some R.out.blk)).trans R.out.blk⟩;have fza:∀i,(w1.alloc (vaO (c.rd ib))).frozen? ⟨w.heap.size+1,i,none⟩=false:=(fun i=>R2.out.fr i);have r0b:=R2.out.c0;have r1b:=R2.out.c1;have hb1:=H1.base;have o12:w1.cell? ⟨p,12,none⟩=some (.bool true):=(by obtain ⟨vo,vx,hv,X⟩:=H1;rw [X.cells.c12,ho]);have o12a:=((Bl.refl w1).alloc (vaO (c.rd ib))).cell o12;have N2:Hid (VaBox (w1.alloc (vaO (c.rd ib))) (w.heap.size+1+1) va0):=⟨(Below.heap_alloc _ _ _ hw2).trans N1.out.blk⟩;have n0a:=N2.out.c0;have n1a:=N2.out.c1;have U2:Hid (VaBox (w1.alloc (vaO (c.rd ib))) w1.heap.size (c.rd ib)):=⟨blk_new _ _ _⟩;have I2:Hid (IBox (w1.alloc (vaO (c.rd ib))) w.heap.size 17 ia ib ic ii Q nl q):=⟨(Below.heap_alloc _ _ _ hw1).trans I1.out.blk⟩;replace H1:=hid H1;replace F1:=hid (HF.out.trans F1))
 first
  | (refine bodyPost_ret (results_cell_row rfl _ _ (w.heap.size+1) _ _ _ _ rfl (R2.out.set va0).blk Tryz.underlying82 rfl info_va) rfl ?_;exact ⟨rfl,(H1.out.cf ((Cf.refl _ _ _).alloc (by omega) _)).cf (R2.out.cf HC.out.k (by omega) _ _),((F1.out.alloc (by omega) _).new (Nat.le_succ _) (by omega) _).new (Nat.le_succ _) (by omega) _⟩)
  | (refine bodyPost_ret (results_cell_row rfl _ _ (w.heap.size+1) _ _ _ _ rfl ((Below.heap_alloc _ _ _ (by simp;exact lt_some R.out.blk)).trans (R.out.set va0).blk) Tryz.underlying82 rfl info_va) rfl ?_;exact ⟨rfl,(H1.out.cf (R.out.cf HC.out.k (by omega) _ _)).cf ((Cf.refl _ _ _).alloc (by simp;omega) _),((F1.out.new (Nat.le_succ _) (by omega) _).new (Nat.le_succ _) (by omega) _).alloc (by simp;omega) _⟩)
theorem qgives_op17 (w0:World) (g:Ad) (p:Nat) (h:Hp) (a:Ca) (c:Cal) (ia ib ic ii:Int) (args:List Int) (Q:Option Addr) (nl q:Nat) (w:World) (hH:Hs w0 g w p h) (hC:CalAt w0 w a c) (C:Cq w0 g h) (hrb:0≤ib∧ib<c.locs.length) (ho:(h.rdH c ib 3).over=false) (h3:(c.rd ib).kind=3→(c.rd ib).n<(h.rdH c ib 3).objs.length) :
  Calls Tryz.prog 167 #[.pointer (some ⟨p,0,none⟩),.pointer (some ⟨a.q,0,none⟩),.agg #[.int .i64 17,.int .i64 ia,.int .i64 ib,.int .i64 ic,.int .i64 ii,.slice Q nl q]] w fun e w'=>e=.returned (vaV (givesV h c ⟨17,ia,ib,ic,ii,args⟩))∧Hs w0 g w' p (givesH h c ⟨17,ia,ib,ic,ii,args⟩)∧Fr w0.heap.size g.T w w':=by
 obtain ⟨HF,HH,HA,HI,HR,HN,HC,hb,hq,hl⟩:=qpre 17 ia ib ic ii Q nl q hH hC C
 clear hH hC C
 have eH:givesH h c ⟨17,ia,ib,ic,ii,args⟩=(h.rdH c ib 3).must (isRef (c.rd ib)):=by simp [givesH,ho]
 have eV:givesV h c ⟨17,ia,ib,ic,ii,args⟩=(h.rdH c ib 3).isV (c.rd ib) ic:=by simp [givesV,ho]
 rw [eH,eV]
 clear eH eV
 go_enter Tryz.func167,Tryz.ntmps167
 go_wp2_with (go_at_call 86;refine (yread_any w0 g p h a c ib 3 _ HH.out HA.out HC.out hrb).mono ?_;rintro e w1 ⟨rfl,H1,F1⟩;have R:=hid (HR.out.keep HC.out.k F1);have r0:=R.out.c0;have r1:=R.out.c1;have fz:=R.out.fr;have I1:=HI.out.keep HC.out.k F1;obtain ⟨i0,i1,i2,i3,i4,i5⟩:=I1.cs;replace I1:=hid I1;have N1:=HN.out.keep HC.out.k F1;have n0:=N1.c0;have n1:=N1.c1;replace N1:=hid N1;have hw1:=lt_some I1.out.blk;have hw2:=lt_some N1.out.blk;have hx1:w1.heap.size≠w.heap.size+1:=(by omega);have hx2:w.heap.size+1≠w1.heap.size:=(by omega);have r0a:∀o,(w1.alloc o).cell? ⟨w.heap.size+1,0,none⟩=some (.int .i64 0):=(fun o=>((Bl.refl w1).alloc o).cell r0);have r1a:∀o,(w1.alloc o).cell? ⟨w.heap.size+1,1,none⟩=some (.int .i64 0):=(fun o=>((Bl.refl w1).alloc o).cell r1);have R2:Hid (VaBox (w1.alloc (vaO (c.rd ib))) (w.heap.size+1) va0):=⟨(Below.heap_alloc _ _ _ (lt_some R.out.blk)).trans R.out.blk⟩;have fza:∀i,(w1.alloc (vaO (c.rd ib))).frozen? ⟨w.heap.size+1,i,none⟩=false:=(fun i=>R2.out.fr i);have r0b:=R2.out.c0;have r1b:=R2.out.c1;have hb1:=H1.base;have o12:w1.cell? ⟨p,12,none⟩=some (.bool false):=(by obtain ⟨vo,vx,hv,X⟩:=H1;rw [X.cells.c12,ho]);have o12a:=((Bl.refl w1).alloc (vaO (c.rd ib))).cell o12;have N2:Hid (VaBox (w1.alloc (vaO (c.rd ib))) (w.heap.size+1+1) va0):=⟨(Below.heap_alloc _ _ _ hw2).trans N1.out.blk⟩;have n0a:=N2.out.c0;have n1a:=N2.out.c1;have U2:Hid (VaBox (w1.alloc (vaO (c.rd ib))) w1.heap.size (c.rd ib)):=⟨blk_new _ _ _⟩;have I2:Hid (IBox (w1.alloc (vaO (c.rd ib))) w.heap.size 17 ia ib ic ii Q nl q):=⟨(Below.heap_alloc _ _ _ hw1).trans I1.out.blk⟩;replace H1:=hid H1;replace F1:=hid (HF.out.trans F1))
 have H2:=hid (H1.out.cf ((Cf.refl _ _ _).alloc hb1 (vaO (c.rd ib))))
 have F2:=hid (F1.out.alloc hb1 (vaO (c.rd ib)))
 have z2:=hid (And.intro U2.out.c0 (And.intro U2.out.c1 (And.intro I2.out.cs.2.2.2.1 I2.out.cs.2.2.2.2.1)))
 refine wp_region_held_drew (S:=fun w'=>w'.cell? ⟨w1.heap.size,0,none⟩=some (.int .i64 (c.rd ib).kind)∧w'.cell? ⟨w1.heap.size,1,none⟩=some (.int .i64 (c.rd ib).n)∧w'.cell? ⟨w.heap.size,3,none⟩=some (.int .i64 ic)∧w'.cell? ⟨w.heap.size,4,none⟩=some (.int .i64 ii)) (by kernel_rfl) ?_ (fun hHeld0=>?_)
 ·exact z2.out
 iterate 6 (refine tn rfl (by kernel_rfl) (fun _ _ _ h=>h) (by intro _ h;go_split_ands;go_simp<;>with_reducible rfl) hHeld0 ?_;try simp only [aS,aN,aT,a0,a1])
 refine rd1 (i:=6) (by kernel_rfl) rfl fun K hK=>?_
 go_simp
 go_at_call 232
 refine (is_any w0 g p (h.rdH c ib 3) (c.rd ib) ic _ (H2.out.drewN 1) (HC.out.same (rdH_file h c ib 3)).cw h3).mono ?_
 rintro e w2 ⟨rfl,H3,F3⟩
 have R3:=hid ((R2.out.drewN 1).keep HC.out.k F3)
 have z0:=R3.out.c0
 have z1:=R3.out.c1
 have fz3:=R3.out.fr
 have I3:=hid ((IBox.mk I2.out.blk:IBox ((w1.alloc (vaO (c.rd ib))).drew) _ _ _ _ _ _ _ _ _).keep HC.out.k F3)
 have U3:=hid ((U2.out.drewN 1).keep HC.out.k F3)
 have d8:=hid (And.intro U3.out.c0 (And.intro U3.out.c1 (And.intro I3.out.cs.2.2.2.1 I3.out.cs.2.2.2.2.1)))
 replace H3:=hid H3
 replace F3:=hid ((F2.out.drewN 1).trans F3)
 go_wp2_with fail
 refine hK.out _ _ (d8.out) (fun hHeld1=>?_)
 try simp only [aS,aN,aT,a0,a1]
 refine rd1 (i:=7) (by kernel_rfl) rfl fun K hK=>?_
 go_wp2_with fail
 refine hK.out _ _ (⟨set2_cellQ d8.out.1 (by omega),set2_cellQ d8.out.2.1 (by omega),set2_cellQ d8.out.2.2.1 (by omega),set2_cellQ d8.out.2.2.2 (by omega)⟩) (fun hHeld2=>?_)
 try simp only [aS,aN,aT,a0,a1]
 refine wpAnyH_done (by kernel_rfl) ?_ _
 go_wp2
 refine bodyPost_ret (results_cell_row rfl _ _ (w.heap.size+1) _ _ _ _ rfl (R3.out.set ((h.rdH c ib 3).isV (c.rd ib) ic)).blk Tryz.underlying82 rfl info_va) rfl ?_
 exact ⟨rfl,H3.out.cf (R3.out.cf HC.out.k (by omega) _ _),(F3.out.new (Nat.le_succ _) (by omega) _).new (Nat.le_succ _) (by omega) _⟩
structure GOk (w0:World) (g:Ad) (h:Hp) (c:Cal) (k ib ic:Int):Prop where
 op:k=1∨k=2∨k=3∨k=4∨k=5∨k=6∨k=7∨k=8∨k=9∨k=13∨k=14∨k=17∨k=24
 rb:(k=4∨k=5∨k=6∨k=7∨k=8∨k=9∨k=14∨k=17)→0≤ib∧ib<c.locs.length
 rc:(k=5∨k=6∨k=9)→0≤ic∧ic<c.locs.length
 nb:(k=5∨k=6)→I64 (c.rd ib).n∧I64 (c.rd ic).n
 cb:k=13→0≤ib∧ib<h.file.classes.length
 r3:(k=14∨k=17)→(c.rd ib).kind=3→(c.rd ib).n<h.objs.length
 inp:IntsAt w0 g.I h.input
 used:0≤h.sh.used
theorem qgives_any (w0:World) (g:Ad) (p:Nat) (h:Hp) (a:Ca) (c:Cal) (k ia ib ic ii:Int) (args:List Int) (Q:Option Addr) (nl q:Nat) (w:World) (hH:Hs w0 g w p h) (hC:CalAt w0 w a c) (C:Cq w0 g h) (G:GOk w0 g h c k ib ic) :
  Calls Tryz.prog 167 #[.pointer (some ⟨p,0,none⟩),.pointer (some ⟨a.q,0,none⟩),.agg #[.int .i64 k,.int .i64 ia,.int .i64 ib,.int .i64 ic,.int .i64 ii,.slice Q nl q]] w fun e w'=>e=.returned (vaV (givesV h c ⟨k,ia,ib,ic,ii,args⟩))∧Hs w0 g w' p (givesH h c ⟨k,ia,ib,ic,ii,args⟩)∧Fr w0.heap.size g.T w w':=by
 obtain ⟨hk,rb,rc,nb,cb,r3,inp,used⟩:=G
 rcases hk with rfl|rfl|rfl|rfl|rfl|rfl|rfl|rfl|rfl|rfl|rfl|rfl|rfl
 ·exact qgives_op1 w0 g p h a c ia ib ic ii args Q nl q w hH hC C
 ·exact qgives_op2 w0 g p h a c ia ib ic ii args Q nl q w hH hC C
 ·exact qgives_op3 w0 g p h a c ia ib ic ii args Q nl q w hH hC C
 ·exact qgives_op4 w0 g p h a c ia ib ic ii args Q nl q w hH hC C (rb (by decide))
 ·exact qgives_op5 w0 g p h a c ia ib ic ii args Q nl q w hH hC C (rb (by decide)) (rc (by decide)) (nb (by decide)).1 (nb (by decide)).2
 ·exact qgives_op6 w0 g p h a c ia ib ic ii args Q nl q w hH hC C (rb (by decide)) (rc (by decide)) (nb (by decide)).1 (nb (by decide)).2
 ·exact qgives_op7 w0 g p h a c ia ib ic ii args Q nl q w hH hC C (rb (by decide))
 ·exact qgives_op8 w0 g p h a c ia ib ic ii args Q nl q w hH hC C (rb (by decide))
 ·exact qgives_op9 w0 g p h a c ia ib ic ii args Q nl q w hH hC C (rb (by decide)) (rc (by decide))
 ·exact qgives_op13 w0 g p h a c ia ib ic ii args Q nl q w hH hC C (cb rfl)
 ·cases ho:(h.rdH c ib 3).over
  ·exact qgives_op14 w0 g p h a c ia ib ic ii args Q nl q w hH hC C (rb (by decide)) ho (by rw [rdH_objs];exact r3 (by decide))
  ·exact qgives_op14o w0 g p h a c ia ib ic ii args Q nl q w hH hC C (rb (by decide)) ho
 ·cases ho:(h.rdH c ib 3).over
  ·exact qgives_op17 w0 g p h a c ia ib ic ii args Q nl q w hH hC C (rb (by decide)) ho (by rw [rdH_objs];exact r3 (by decide))
  ·exact qgives_op17o w0 g p h a c ia ib ic ii args Q nl q w hH hC C (rb (by decide)) ho
 ·exact qgives_op24 w0 g p h a c ia ib ic ii args Q nl q w hH hC C inp used
theorem dqpre {w0:World} {g:Ad} {p:Nat} {h:Hp} {a:Ca} {c:Cal} {w:World} (k ia ib ic ii:Int) (Q:Option Addr) (nl q:Nat) (hH:Hs w0 g w p h) (hC:CalAt w0 w a c) (C:Cq w0 g h) :
  Hid (Fr w0.heap.size g.T w (w.alloc (.cells #[.int .i64 k,.int .i64 ia,.int .i64 ib,.int .i64 ic,.int .i64 ii,.slice Q nl q] 58)))∧Hid (Hs w0 g (w.alloc (.cells #[.int .i64 k,.int .i64 ia,.int .i64 ib,.int .i64 ic,.int .i64 ii,.slice Q nl q] 58)) p h)∧Hid (CalAt w0 (w.alloc (.cells #[.int .i64 k,.int .i64 ia,.int .i64 ib,.int .i64 ic,.int .i64 ii,.slice Q nl q] 58)) a c)∧Hid (IBox (w.alloc (.cells #[.int .i64 k,.int .i64 ia,.int .i64 ib,.int .i64 ic,.int .i64 ii,.slice Q nl q] 58)) w.heap.size k ia ib ic ii Q nl q)∧Hid (Cq w0 g h)∧(w.alloc (.cells #[.int .i64 k,.int .i64 ia,.int .i64 ib,.int .i64 ic,.int .i64 ii,.slice Q nl q] 58)).cell? ⟨a.q,13,none⟩=some (.int .i64 c.pc)∧w0.heap.size≤w.heap.size∧a.q<w.heap.size∧a.lb<w.heap.size:=by
 have hb:=hH.base
 have F0:Fr w0.heap.size g.T w (w.alloc (.cells #[.int .i64 k,.int .i64 ia,.int .i64 ib,.int .i64 ic,.int .i64 ii,.slice Q nl q] 58)):=(Fr.refl _ _ w).alloc hb _
 have A0:=hC.fr C.k C.n7 F0
 exact ⟨F0,hH.cf ((Cf.refl _ _ w).alloc hb _),A0,⟨blk_new _ _ _⟩,C,A0.cells.c13,hb,lt_some hC.blk,lt_some hC.loc.blk⟩
theorem qdoes_op10 (w0:World) (g:Ad) (p:Nat) (h:Hp) (a:Ca) (c:Cal) (ia ib ic ii:Int) (Q:Option Addr) (nl q:Nat) (w:World) (hH:Hs w0 g w p h) (hC:CalAt w0 w a c) (C:Cq w0 g h) (hp:0≤c.pc∧c.pc≤100000) :
  Calls Tryz.prog 89 #[.pointer (some ⟨p,0,none⟩),.pointer (some ⟨a.q,0,none⟩),.agg #[.int .i64 10,.int .i64 ia,.int .i64 ib,.int .i64 ic,.int .i64 ii,.slice Q nl q]] w fun e w'=>e=.returned (.int .i64 (ia))∧Hs w0 g w' p (h)∧Fr w0.heap.size g.T w w':=by
 obtain ⟨HF,HH,HA,HI,HC,d13,hb,hq,hl⟩:=dqpre 10 ia ib ic ii Q nl q hH hC C
 clear hH hC C
 go_enter Tryz.func89,Tryz.ntmps89
 go_wp2
 go_ret
 exact ⟨rfl,HH.out,HF.out⟩
theorem qdoes_op11y (w0:World) (g:Ad) (p:Nat) (h:Hp) (a:Ca) (c:Cal) (ia ib ic ii:Int) (Q:Option Addr) (nl q:Nat) (w:World) (hH:Hs w0 g w p h) (hC:CalAt w0 w a c) (C:Cq w0 g h) (hp:0≤c.pc∧c.pc≤100000) (hr:0≤ic∧ic<c.locs.length) (hh:hldB ib (c.rd ic).n=true) :
  Calls Tryz.prog 89 #[.pointer (some ⟨p,0,none⟩),.pointer (some ⟨a.q,0,none⟩),.agg #[.int .i64 11,.int .i64 ia,.int .i64 ib,.int .i64 ic,.int .i64 ii,.slice Q nl q]] w fun e w'=>e=.returned (.int .i64 (ia))∧Hs w0 g w' p (h.rdH c ic 1)∧Fr w0.heap.size g.T w w':=by
 obtain ⟨HF,HH,HA,HI,HC,d13,hb,hq,hl⟩:=dqpre 11 ia ib ic ii Q nl q hH hC C
 clear hH hC C
 go_enter Tryz.func89,Tryz.ntmps89
 go_wp2_with (first
  | (go_at_call 86;refine (yread_any w0 g p h a c ic 1 _ HH.out HA.out HC.out hr).mono ?_;rintro e w1 ⟨rfl,H1,F1⟩;have hb1:=H1.base;have I1:=HI.out.keep HC.out.k F1;obtain ⟨i0,i1,i2,i3,i4,i5⟩:=I1.cs;have hw1:=lt_some I1.blk;have I2:Hid (IBox (w1.alloc (vaO (c.rd ic))) w.heap.size 11 ia ib ic ii Q nl q):=⟨(Below.heap_alloc _ _ _ hw1).trans I1.blk⟩;replace I1:=hid I1;obtain ⟨j0,j1,j2,j3,j4,j5⟩:=I2.out.cs;have U2:Hid (VaBox (w1.alloc (vaO (c.rd ic))) w1.heap.size (c.rd ic)):=⟨blk_new _ _ _⟩;have u0:=U2.out.c0;have u1:=U2.out.c1;have H2:=hid (H1.cf ((Cf.refl _ _ _).alloc hb1 (vaO (c.rd ic))));have F2:=hid ((HF.out.trans F1).alloc hb1 (vaO (c.rd ic)));clear H1 F1)
  | (go_at_call 162;refine (rholds_any _ _ _).mono ?_;rintro e w2 ⟨he,hw⟩;rw [hh] at he;subst he;rw [hw];clear hw w2))
 go_ret
 exact ⟨rfl,H2.out,F2.out⟩
theorem qdoes_op12y (w0:World) (g:Ad) (p:Nat) (h:Hp) (a:Ca) (c:Cal) (ia ib ic ii:Int) (Q:Option Addr) (nl q:Nat) (w:World) (hH:Hs w0 g w p h) (hC:CalAt w0 w a c) (C:Cq w0 g h) (hp:0≤c.pc∧c.pc≤100000) (hr:0≤ic∧ic<c.locs.length) (hh:decide ((c.rd ic).n<0)=true) :
  Calls Tryz.prog 89 #[.pointer (some ⟨p,0,none⟩),.pointer (some ⟨a.q,0,none⟩),.agg #[.int .i64 12,.int .i64 ia,.int .i64 ib,.int .i64 ic,.int .i64 ii,.slice Q nl q]] w fun e w'=>e=.returned (.int .i64 (ia))∧Hs w0 g w' p (h.rdH c ic 3)∧Fr w0.heap.size g.T w w':=by
 obtain ⟨HF,HH,HA,HI,HC,d13,hb,hq,hl⟩:=dqpre 12 ia ib ic ii Q nl q hH hC C
 clear hH hC C
 go_enter Tryz.func89,Tryz.ntmps89
 go_wp2_with (go_at_call 86;refine (yread_any w0 g p h a c ic 3 _ HH.out HA.out HC.out hr).mono ?_;rintro e w1 ⟨rfl,H1,F1⟩;have hb1:=H1.base;have I1:=HI.out.keep HC.out.k F1;obtain ⟨i0,i1,i2,i3,i4,i5⟩:=I1.cs;have hw1:=lt_some I1.blk;have I2:Hid (IBox (w1.alloc (vaO (c.rd ic))) w.heap.size 12 ia ib ic ii Q nl q):=⟨(Below.heap_alloc _ _ _ hw1).trans I1.blk⟩;replace I1:=hid I1;obtain ⟨j0,j1,j2,j3,j4,j5⟩:=I2.out.cs;have U2:Hid (VaBox (w1.alloc (vaO (c.rd ic))) w1.heap.size (c.rd ic)):=⟨blk_new _ _ _⟩;have u0:=U2.out.c0;have u1:=U2.out.c1;have H2:=hid (H1.cf ((Cf.refl _ _ _).alloc hb1 (vaO (c.rd ic))));have F2:=hid ((HF.out.trans F1).alloc hb1 (vaO (c.rd ic)));clear H1 F1)
 go_ret
 exact ⟨rfl,H2.out,F2.out⟩
theorem qdoes_op11n (w0:World) (g:Ad) (p:Nat) (h:Hp) (a:Ca) (c:Cal) (ia ib ic ii:Int) (Q:Option Addr) (nl q:Nat) (w:World) (hH:Hs w0 g w p h) (hC:CalAt w0 w a c) (C:Cq w0 g h) (hp:0≤c.pc∧c.pc≤100000) (hr:0≤ic∧ic<c.locs.length) (hh:hldB ib (c.rd ic).n=false) :
  Calls Tryz.prog 89 #[.pointer (some ⟨p,0,none⟩),.pointer (some ⟨a.q,0,none⟩),.agg #[.int .i64 11,.int .i64 ia,.int .i64 ib,.int .i64 ic,.int .i64 ii,.slice Q nl q]] w fun e w'=>e=.returned (.int .i64 (c.pc+1))∧Hs w0 g w' p (h.rdH c ic 1)∧Fr w0.heap.size g.T w w':=by
 obtain ⟨HF,HH,HA,HI,HC,d13,hb,hq,hl⟩:=dqpre 11 ia ib ic ii Q nl q hH hC C
 clear hH hC C
 go_enter Tryz.func89,Tryz.ntmps89
 go_wp2_with (first
  | (go_at_call 86;refine (yread_any w0 g p h a c ic 1 _ HH.out HA.out HC.out hr).mono ?_;rintro e w1 ⟨rfl,H1,F1⟩;have hb1:=H1.base;have I1:=HI.out.keep HC.out.k F1;obtain ⟨i0,i1,i2,i3,i4,i5⟩:=I1.cs;have hw1:=lt_some I1.blk;have I2:Hid (IBox (w1.alloc (vaO (c.rd ic))) w.heap.size 11 ia ib ic ii Q nl q):=⟨(Below.heap_alloc _ _ _ hw1).trans I1.blk⟩;replace I1:=hid I1;obtain ⟨j0,j1,j2,j3,j4,j5⟩:=I2.out.cs;have U2:Hid (VaBox (w1.alloc (vaO (c.rd ic))) w1.heap.size (c.rd ic)):=⟨blk_new _ _ _⟩;have u0:=U2.out.c0;have u1:=U2.out.c1;have H2:=hid (H1.cf ((Cf.refl _ _ _).alloc hb1 (vaO (c.rd ic))));have F2:=hid ((HF.out.trans F1).alloc hb1 (vaO (c.rd ic)));clear H1 F1)
  | (go_at_call 162;refine (rholds_any _ _ _).mono ?_;rintro e w2 ⟨he,hw⟩;rw [hh] at he;subst he;rw [hw];clear hw w2))
 go_ret
 exact ⟨rfl,H2.out,F2.out⟩
theorem qdoes_op12n (w0:World) (g:Ad) (p:Nat) (h:Hp) (a:Ca) (c:Cal) (ia ib ic ii:Int) (Q:Option Addr) (nl q:Nat) (w:World) (hH:Hs w0 g w p h) (hC:CalAt w0 w a c) (C:Cq w0 g h) (hp:0≤c.pc∧c.pc≤100000) (hr:0≤ic∧ic<c.locs.length) (hh:decide ((c.rd ic).n<0)=false) :
  Calls Tryz.prog 89 #[.pointer (some ⟨p,0,none⟩),.pointer (some ⟨a.q,0,none⟩),.agg #[.int .i64 12,.int .i64 ia,.int .i64 ib,.int .i64 ic,.int .i64 ii,.slice Q nl q]] w fun e w'=>e=.returned (.int .i64 (c.pc+1))∧Hs w0 g w' p (h.rdH c ic 3)∧Fr w0.heap.size g.T w w':=by
 obtain ⟨HF,HH,HA,HI,HC,d13,hb,hq,hl⟩:=dqpre 12 ia ib ic ii Q nl q hH hC C
 clear hH hC C
 go_enter Tryz.func89,Tryz.ntmps89
 go_wp2_with (go_at_call 86;refine (yread_any w0 g p h a c ic 3 _ HH.out HA.out HC.out hr).mono ?_;rintro e w1 ⟨rfl,H1,F1⟩;have hb1:=H1.base;have I1:=HI.out.keep HC.out.k F1;obtain ⟨i0,i1,i2,i3,i4,i5⟩:=I1.cs;have hw1:=lt_some I1.blk;have I2:Hid (IBox (w1.alloc (vaO (c.rd ic))) w.heap.size 12 ia ib ic ii Q nl q):=⟨(Below.heap_alloc _ _ _ hw1).trans I1.blk⟩;replace I1:=hid I1;obtain ⟨j0,j1,j2,j3,j4,j5⟩:=I2.out.cs;have U2:Hid (VaBox (w1.alloc (vaO (c.rd ic))) w1.heap.size (c.rd ic)):=⟨blk_new _ _ _⟩;have u0:=U2.out.c0;have u1:=U2.out.c1;have H2:=hid (H1.cf ((Cf.refl _ _ _).alloc hb1 (vaO (c.rd ic))));have F2:=hid ((HF.out.trans F1).alloc hb1 (vaO (c.rd ic)));clear H1 F1)
 go_ret
 exact ⟨rfl,H2.out,F2.out⟩
theorem qdoes_op21o (w0:World) (g:Ad) (p:Nat) (h:Hp) (a:Ca) (c:Cal) (ia ib ic ii:Int) (Q:Option Addr) (nl q:Nat) (w:World) (hH:Hs w0 g w p h) (hC:CalAt w0 w a c) (C:Cq w0 g h) (hp:0≤c.pc∧c.pc≤100000) (hr:0≤ia∧ia<c.locs.length) (ho:(h.rdH c ia 3).over=true) :
  Calls Tryz.prog 89 #[.pointer (some ⟨p,0,none⟩),.pointer (some ⟨a.q,0,none⟩),.agg #[.int .i64 21,.int .i64 ia,.int .i64 ib,.int .i64 ic,.int .i64 ii,.slice Q nl q]] w fun e w'=>e=.returned (.int .i64 (c.pc+1))∧Hs w0 g w' p (h.rdH c ia 3)∧Fr w0.heap.size g.T w w':=by
 obtain ⟨HF,HH,HA,HI,HC,d13,hb,hq,hl⟩:=dqpre 21 ia ib ic ii Q nl q hH hC C
 clear hH hC C
 go_enter Tryz.func89,Tryz.ntmps89
 go_wp2_with (go_at_call 86;refine (yread_any w0 g p h a c ia 3 _ HH.out HA.out HC.out hr).mono ?_;rintro e w1 ⟨rfl,H1,F1⟩;have hb1:=H1.base;have I1:=HI.out.keep HC.out.k F1;obtain ⟨i0,i1,i2,i3,i4,i5⟩:=I1.cs;have hw1:=lt_some I1.blk;have I2:Hid (IBox (w1.alloc (vaO (c.rd ia))) w.heap.size 21 ia ib ic ii Q nl q):=⟨(Below.heap_alloc _ _ _ hw1).trans I1.blk⟩;replace I1:=hid I1;obtain ⟨j0,j1,j2,j3,j4,j5⟩:=I2.out.cs;have U2:Hid (VaBox (w1.alloc (vaO (c.rd ia))) w1.heap.size (c.rd ia)):=⟨blk_new _ _ _⟩;have u0:=U2.out.c0;have u1:=U2.out.c1;have o12:w1.cell? ⟨p,12,none⟩=some (.bool true):=(by obtain ⟨vo,vx,hv,X⟩:=H1;rw [X.cells.c12,ho]);have o12a:=((Bl.refl w1).alloc (vaO (c.rd ia))).cell o12;have H2:=hid (H1.cf ((Cf.refl _ _ _).alloc hb1 (vaO (c.rd ia))));have F2:=hid ((HF.out.trans F1).alloc hb1 (vaO (c.rd ia)));clear H1 F1)
 go_ret
 exact ⟨rfl,H2.out,F2.out⟩
theorem qdoes_op21 (w0:World) (g:Ad) (p:Nat) (h:Hp) (a:Ca) (c:Cal) (ia ib ic ii:Int) (Q:Option Addr) (nl q:Nat) (w:World) (hH:Hs w0 g w p h) (hC:CalAt w0 w a c) (C:Cq w0 g h) (hp:0≤c.pc∧c.pc≤100000) (hr:0≤ia∧ia<c.locs.length) (ho:(h.rdH c ia 3).over=false) :
  Calls Tryz.prog 89 #[.pointer (some ⟨p,0,none⟩),.pointer (some ⟨a.q,0,none⟩),.agg #[.int .i64 21,.int .i64 ia,.int .i64 ib,.int .i64 ic,.int .i64 ii,.slice Q nl q]] w fun e w'=>e=.returned (.int .i64 (c.pc+1))∧Hs w0 g w' p ((h.rdH c ia 3).throw (c.rd ia))∧Fr w0.heap.size g.T w w':=by
 obtain ⟨HF,HH,HA,HI,HC,d13,hb,hq,hl⟩:=dqpre 21 ia ib ic ii Q nl q hH hC C
 clear hH hC C
 go_enter Tryz.func89,Tryz.ntmps89
 go_wp2_with (go_at_call 86;refine (yread_any w0 g p h a c ia 3 _ HH.out HA.out HC.out hr).mono ?_;rintro e w1 ⟨rfl,H1,F1⟩;have hb1:=H1.base;have I1:=HI.out.keep HC.out.k F1;obtain ⟨i0,i1,i2,i3,i4,i5⟩:=I1.cs;have hw1:=lt_some I1.blk;have I2:Hid (IBox (w1.alloc (vaO (c.rd ia))) w.heap.size 21 ia ib ic ii Q nl q):=⟨(Below.heap_alloc _ _ _ hw1).trans I1.blk⟩;replace I1:=hid I1;obtain ⟨j0,j1,j2,j3,j4,j5⟩:=I2.out.cs;have U2:Hid (VaBox (w1.alloc (vaO (c.rd ia))) w1.heap.size (c.rd ia)):=⟨blk_new _ _ _⟩;have u0:=U2.out.c0;have u1:=U2.out.c1;have o12:w1.cell? ⟨p,12,none⟩=some (.bool false):=(by obtain ⟨vo,vx,hv,X⟩:=H1;rw [X.cells.c12,ho]);have o12a:=((Bl.refl w1).alloc (vaO (c.rd ia))).cell o12;have H2:=hid (H1.cf ((Cf.refl _ _ _).alloc hb1 (vaO (c.rd ia))));have F2:=hid ((HF.out.trans F1).alloc hb1 (vaO (c.rd ia)));clear H1 F1)
 have z2:=hid (And.intro U2.out.c0 (And.intro U2.out.c1 I2.out.cs.2.2.1))
 refine wp_region_held_drew (S:=fun w'=>w'.cell? ⟨w1.heap.size,0,none⟩=some (.int .i64 (c.rd ia).kind)∧w'.cell? ⟨w1.heap.size,1,none⟩=some (.int .i64 (c.rd ia).n)∧w'.cell? ⟨w.heap.size,2,none⟩=some (.int .i64 ib)) (by kernel_rfl) ?_ (fun hHeld0=>?_)
 ·exact z2.out
 iterate 4 (refine tn rfl (by kernel_rfl) (fun _ _ _ h=>h) (by intro _ h;go_split_ands;go_simp<;>with_reducible rfl) hHeld0 ?_;try simp only [aS,aN,aT,a0,a1])
 refine rd1 (i:=4) (by kernel_rfl) rfl fun K hK=>?_
 go_simp
 go_at_call 163
 refine (throw_any w0 g p (h.rdH c ia 3) (c.rd ia) _ (H2.out.drewN 1) (HC.out.same (rdH_file h c ia 3)).cw).mono ?_
 rintro e w2 ⟨rfl,H3,F3⟩
 have I3:=hid ((IBox.mk I2.out.blk:IBox ((w1.alloc (vaO (c.rd ia))).drew) _ _ _ _ _ _ _ _ _).keep HC.out.k F3)
 have U3:=hid ((U2.out.drewN 1).keep HC.out.k F3)
 have d8:=hid (And.intro U3.out.c0 (And.intro U3.out.c1 I3.out.cs.2.2.1))
 replace H3:=hid H3
 replace F3:=hid ((F2.out.drewN 1).trans F3)
 go_wp2_with fail
 refine hK.out _ _ (d8.out) (fun hHeld1=>?_)
 try simp only [aS,aN,aT,a0,a1]
 refine wpAnyH_done (by kernel_rfl) ?_ _
 go_wp2
 go_ret
 exact ⟨rfl,H3.out,F3.out⟩
theorem qdoes_op16o (w0:World) (g:Ad) (p:Nat) (h:Hp) (a:Ca) (c:Cal) (ia ib ic ii:Int) (Q:Option Addr) (nl q:Nat) (w:World) (hH:Hs w0 g w p h) (hC:CalAt w0 w a c) (C:Cq w0 g h) (hp:0≤c.pc∧c.pc≤100000) (hr:0≤ia∧ia<c.locs.length) (ho:(h.rdH c ia 3).over=true) :
  Calls Tryz.prog 89 #[.pointer (some ⟨p,0,none⟩),.pointer (some ⟨a.q,0,none⟩),.agg #[.int .i64 16,.int .i64 ia,.int .i64 ib,.int .i64 ic,.int .i64 ii,.slice Q nl q]] w fun e w'=>e=.returned (.int .i64 (c.pc+1))∧Hs w0 g w' p (h.rdH c ia 3)∧Fr w0.heap.size g.T w w':=by
 obtain ⟨HF,HH,HA,HI,HC,d13,hb,hq,hl⟩:=dqpre 16 ia ib ic ii Q nl q hH hC C
 clear hH hC C
 go_enter Tryz.func89,Tryz.ntmps89
 go_wp2_with (go_at_call 86;refine (yread_any w0 g p h a c ia 3 _ HH.out HA.out HC.out hr).mono ?_;rintro e w1 ⟨rfl,H1,F1⟩;have hb1:=H1.base;have I1:=HI.out.keep HC.out.k F1;obtain ⟨i0,i1,i2,i3,i4,i5⟩:=I1.cs;have hw1:=lt_some I1.blk;have I2:Hid (IBox (w1.alloc (vaO (c.rd ia))) w.heap.size 16 ia ib ic ii Q nl q):=⟨(Below.heap_alloc _ _ _ hw1).trans I1.blk⟩;replace I1:=hid I1;obtain ⟨j0,j1,j2,j3,j4,j5⟩:=I2.out.cs;have U2:Hid (VaBox (w1.alloc (vaO (c.rd ia))) w1.heap.size (c.rd ia)):=⟨blk_new _ _ _⟩;have u0:=U2.out.c0;have u1:=U2.out.c1;have o12:w1.cell? ⟨p,12,none⟩=some (.bool true):=(by obtain ⟨vo,vx,hv,X⟩:=H1;rw [X.cells.c12,ho]);have o12a:=((Bl.refl w1).alloc (vaO (c.rd ia))).cell o12;have H2:=hid (H1.cf ((Cf.refl _ _ _).alloc hb1 (vaO (c.rd ia))));have F2:=hid ((HF.out.trans F1).alloc hb1 (vaO (c.rd ia)));clear H1 F1)
 go_ret
 exact ⟨rfl,H2.out,F2.out⟩
theorem qdoes_op16 (w0:World) (g:Ad) (p:Nat) (h:Hp) (a:Ca) (c:Cal) (ia ib ic ii:Int) (Q:Option Addr) (nl q:Nat) (w:World) (hH:Hs w0 g w p h) (hC:CalAt w0 w a c) (C:Cq w0 g h) (hp:0≤c.pc∧c.pc≤100000) (hr:0≤ia∧ia<c.locs.length) (ho:(h.rdH c ia 3).over=false) (h3:(c.rd ia).kind=3→(c.rd ia).n<(h.rdH c ia 3).objs.length) :
  Calls Tryz.prog 89 #[.pointer (some ⟨p,0,none⟩),.pointer (some ⟨a.q,0,none⟩),.agg #[.int .i64 16,.int .i64 ia,.int .i64 ib,.int .i64 ic,.int .i64 ii,.slice Q nl q]] w fun e w'=>e=.returned (.int .i64 (c.pc+1))∧Hs w0 g w' p ((h.rdH c ia 3).cast (c.rd ia) ib)∧Fr w0.heap.size g.T w w':=by
 obtain ⟨HF,HH,HA,HI,HC,d13,hb,hq,hl⟩:=dqpre 16 ia ib ic ii Q nl q hH hC C
 clear hH hC C
 go_enter Tryz.func89,Tryz.ntmps89
 go_wp2_with (go_at_call 86;refine (yread_any w0 g p h a c ia 3 _ HH.out HA.out HC.out hr).mono ?_;rintro e w1 ⟨rfl,H1,F1⟩;have hb1:=H1.base;have I1:=HI.out.keep HC.out.k F1;obtain ⟨i0,i1,i2,i3,i4,i5⟩:=I1.cs;have hw1:=lt_some I1.blk;have I2:Hid (IBox (w1.alloc (vaO (c.rd ia))) w.heap.size 16 ia ib ic ii Q nl q):=⟨(Below.heap_alloc _ _ _ hw1).trans I1.blk⟩;replace I1:=hid I1;obtain ⟨j0,j1,j2,j3,j4,j5⟩:=I2.out.cs;have U2:Hid (VaBox (w1.alloc (vaO (c.rd ia))) w1.heap.size (c.rd ia)):=⟨blk_new _ _ _⟩;have u0:=U2.out.c0;have u1:=U2.out.c1;have o12:w1.cell? ⟨p,12,none⟩=some (.bool false):=(by obtain ⟨vo,vx,hv,X⟩:=H1;rw [X.cells.c12,ho]);have o12a:=((Bl.refl w1).alloc (vaO (c.rd ia))).cell o12;have H2:=hid (H1.cf ((Cf.refl _ _ _).alloc hb1 (vaO (c.rd ia))));have F2:=hid ((HF.out.trans F1).alloc hb1 (vaO (c.rd ia)));clear H1 F1)
 have z2:=hid (And.intro U2.out.c0 (And.intro U2.out.c1 I2.out.cs.2.2.1))
 refine wp_region_held_drew (S:=fun w'=>w'.cell? ⟨w1.heap.size,0,none⟩=some (.int .i64 (c.rd ia).kind)∧w'.cell? ⟨w1.heap.size,1,none⟩=some (.int .i64 (c.rd ia).n)∧w'.cell? ⟨w.heap.size,2,none⟩=some (.int .i64 ib)) (by kernel_rfl) ?_ (fun hHeld0=>?_)
 ·exact z2.out
 iterate 6 (refine tn rfl (by kernel_rfl) (fun _ _ _ h=>h) (by intro _ h;go_split_ands;go_simp<;>with_reducible rfl) hHeld0 ?_;try simp only [aS,aN,aT,a0,a1])
 refine rd1 (i:=6) (by kernel_rfl) rfl fun K hK=>?_
 go_simp
 go_at_call 165
 refine (cast_any w0 g p (h.rdH c ia 3) (c.rd ia) ib _ (H2.out.drewN 1) (HC.out.same (rdH_file h c ia 3)).cw h3).mono ?_
 rintro e w2 ⟨rfl,H3,F3⟩
 have I3:=hid ((IBox.mk I2.out.blk:IBox ((w1.alloc (vaO (c.rd ia))).drew) _ _ _ _ _ _ _ _ _).keep HC.out.k F3)
 have U3:=hid ((U2.out.drewN 1).keep HC.out.k F3)
 have d8:=hid (And.intro U3.out.c0 (And.intro U3.out.c1 I3.out.cs.2.2.1))
 replace H3:=hid H3
 replace F3:=hid ((F2.out.drewN 1).trans F3)
 go_wp2_with fail
 refine hK.out _ _ (d8.out) (fun hHeld1=>?_)
 try simp only [aS,aN,aT,a0,a1]
 refine wpAnyH_done (by kernel_rfl) ?_ _
 go_wp2
 go_ret
 exact ⟨rfl,H3.out,F3.out⟩
theorem qdoes_op23o (w0:World) (g:Ad) (p:Nat) (h:Hp) (a:Ca) (c:Cal) (ia ib ic ii:Int) (Q:Option Addr) (nl q:Nat) (w:World) (hH:Hs w0 g w p h) (hC:CalAt w0 w a c) (C:Cq w0 g h) (hp:0≤c.pc∧c.pc≤100000) (hr:0≤ia∧ia<c.locs.length) (ho:(h.rdH c ia ib).over=true) :
  Calls Tryz.prog 89 #[.pointer (some ⟨p,0,none⟩),.pointer (some ⟨a.q,0,none⟩),.agg #[.int .i64 23,.int .i64 ia,.int .i64 ib,.int .i64 ic,.int .i64 ii,.slice Q nl q]] w fun e w'=>e=.returned (.int .i64 (c.pc+1))∧Hs w0 g w' p (h.rdH c ia ib)∧Fr w0.heap.size g.T w w':=by
 obtain ⟨HF,HH,HA,HI,HC,d13,hb,hq,hl⟩:=dqpre 23 ia ib ic ii Q nl q hH hC C
 clear hH hC C
 go_enter Tryz.func89,Tryz.ntmps89
 go_wp2_with (go_at_call 86;refine (yread_any w0 g p h a c ia ib _ HH.out HA.out HC.out hr).mono ?_;rintro e w1 ⟨rfl,H1,F1⟩;have hb1:=H1.base;have I1:=HI.out.keep HC.out.k F1;obtain ⟨i0,i1,i2,i3,i4,i5⟩:=I1.cs;have hw1:=lt_some I1.blk;have I2:Hid (IBox (w1.alloc (vaO (c.rd ia))) w.heap.size 23 ia ib ic ii Q nl q):=⟨(Below.heap_alloc _ _ _ hw1).trans I1.blk⟩;replace I1:=hid I1;obtain ⟨j0,j1,j2,j3,j4,j5⟩:=I2.out.cs;have U2:Hid (VaBox (w1.alloc (vaO (c.rd ia))) w1.heap.size (c.rd ia)):=⟨blk_new _ _ _⟩;have u0:=U2.out.c0;have u1:=U2.out.c1;have o12:w1.cell? ⟨p,12,none⟩=some (.bool true):=(by obtain ⟨vo,vx,hv,X⟩:=H1;rw [X.cells.c12,ho]);have o12a:=((Bl.refl w1).alloc (vaO (c.rd ia))).cell o12;have H2:=hid (H1.cf ((Cf.refl _ _ _).alloc hb1 (vaO (c.rd ia))));have F2:=hid ((HF.out.trans F1).alloc hb1 (vaO (c.rd ia)));clear H1 F1)
 go_ret
 exact ⟨rfl,H2.out,F2.out⟩
theorem qdoes_op23 (w0:World) (g:Ad) (p:Nat) (h:Hp) (a:Ca) (c:Cal) (ia ib ic ii:Int) (Q:Option Addr) (nl q:Nat) (w:World) (hH:Hs w0 g w p h) (hC:CalAt w0 w a c) (C:Cq w0 g h) (hp:0≤c.pc∧c.pc≤100000) (hr:0≤ia∧ia<c.locs.length) (ho:(h.rdH c ia ib).over=false) (h3:(h.rdH c ia ib).sh.out.length≤60000) :
  Calls Tryz.prog 89 #[.pointer (some ⟨p,0,none⟩),.pointer (some ⟨a.q,0,none⟩),.agg #[.int .i64 23,.int .i64 ia,.int .i64 ib,.int .i64 ic,.int .i64 ii,.slice Q nl q]] w fun e w'=>e=.returned (.int .i64 (c.pc+1))∧Hs w0 g w' p ((h.rdH c ia ib).emit (c.rd ia) ib)∧Fr w0.heap.size g.T w w':=by
 obtain ⟨HF,HH,HA,HI,HC,d13,hb,hq,hl⟩:=dqpre 23 ia ib ic ii Q nl q hH hC C
 clear hH hC C
 go_enter Tryz.func89,Tryz.ntmps89
 go_wp2_with (go_at_call 86;refine (yread_any w0 g p h a c ia ib _ HH.out HA.out HC.out hr).mono ?_;rintro e w1 ⟨rfl,H1,F1⟩;have hb1:=H1.base;have I1:=HI.out.keep HC.out.k F1;obtain ⟨i0,i1,i2,i3,i4,i5⟩:=I1.cs;have hw1:=lt_some I1.blk;have I2:Hid (IBox (w1.alloc (vaO (c.rd ia))) w.heap.size 23 ia ib ic ii Q nl q):=⟨(Below.heap_alloc _ _ _ hw1).trans I1.blk⟩;replace I1:=hid I1;obtain ⟨j0,j1,j2,j3,j4,j5⟩:=I2.out.cs;have U2:Hid (VaBox (w1.alloc (vaO (c.rd ia))) w1.heap.size (c.rd ia)):=⟨blk_new _ _ _⟩;have u0:=U2.out.c0;have u1:=U2.out.c1;have o12:w1.cell? ⟨p,12,none⟩=some (.bool false):=(by obtain ⟨vo,vx,hv,X⟩:=H1;rw [X.cells.c12,ho]);have o12a:=((Bl.refl w1).alloc (vaO (c.rd ia))).cell o12;have H2:=hid (H1.cf ((Cf.refl _ _ _).alloc hb1 (vaO (c.rd ia))));have F2:=hid ((HF.out.trans F1).alloc hb1 (vaO (c.rd ia)));clear H1 F1)
 have z2:=hid (And.intro U2.out.c0 (And.intro U2.out.c1 I2.out.cs.2.2.1))
 refine wp_region_held_drew (S:=fun w'=>w'.cell? ⟨w1.heap.size,0,none⟩=some (.int .i64 (c.rd ia).kind)∧w'.cell? ⟨w1.heap.size,1,none⟩=some (.int .i64 (c.rd ia).n)∧w'.cell? ⟨w.heap.size,2,none⟩=some (.int .i64 ib)) (by kernel_rfl) ?_ (fun hHeld0=>?_)
 ·exact z2.out
 iterate 6 (refine tn rfl (by kernel_rfl) (fun _ _ _ h=>h) (by intro _ h;go_split_ands;go_simp<;>with_reducible rfl) hHeld0 ?_;try simp only [aS,aN,aT,a0,a1])
 refine rd1 (i:=6) (by kernel_rfl) rfl fun K hK=>?_
 go_simp
 go_at_call 166
 refine (emit_any w0 g HC.out.k p (h.rdH c ia ib) (c.rd ia) ib _ (H2.out.drewN 1) h3).mono ?_
 rintro e w2 ⟨rfl,H3,F3⟩
 have I3:=hid ((IBox.mk I2.out.blk:IBox ((w1.alloc (vaO (c.rd ia))).drew) _ _ _ _ _ _ _ _ _).keep HC.out.k F3)
 have U3:=hid ((U2.out.drewN 1).keep HC.out.k F3)
 have d8:=hid (And.intro U3.out.c0 (And.intro U3.out.c1 I3.out.cs.2.2.1))
 replace H3:=hid H3
 replace F3:=hid ((F2.out.drewN 1).trans F3)
 go_wp2_with fail
 refine hK.out _ _ (d8.out) (fun hHeld1=>?_)
 try simp only [aS,aN,aT,a0,a1]
 refine wpAnyH_done (by kernel_rfl) ?_ _
 go_wp2
 go_ret
 exact ⟨rfl,H3.out,F3.out⟩
def StkAt (lb:Nat) (w:World) (A:Option Addr) (l:List Va):Prop :=
 l.length=0∨∃b off cs f,A=some ⟨b,off,none⟩∧w.heap[b]?=some (.cells cs 82 f)∧b≠lb ∧
  ∀i,i<l.length→cs[off+i*2]?=some (.int .i64 (nth va0 l i).kind)∧cs[off+i*2+1]?=some (.int .i64 (nth va0 l i).n)
theorem StkAt.keep {lb:Nat} {w w':World} {A:Option Addr} {l:List Va} (h:StkAt lb w A l)
  (k:∀b cs f,w.heap[b]?=some (.cells cs 82 f)→b≠lb→w'.heap[b]?=some (.cells cs 82 f)):StkAt lb w' A l:=by
 rcases h with h|⟨b,off,cs,f,h1,h2,h3,h4⟩
 ·exact Or.inl h
 ·exact Or.inr ⟨b,off,cs,f,h1,k b cs f h2 h3,h3,h4⟩
theorem StkAt.fr {B lb:Nat} {T:TypeId} {w w':World} {A:Option Addr} {l:List Va} (h:StkAt lb w A l) (k:Tk T) (f:Fr B T w w'):StkAt lb w' A l :=
 h.keep fun b cs fz e _=>f.keep b cs _ fz e k.nv
theorem info_va3:(Tryz.prog.info? 82).map (fun i=>(i.zero,i.size,i.bytes))=some (some (.agg #[.int .i64 0,.int .i64 0]),2,16):=by kernel_rfl
theorem rep_at:∀(k j:Nat),j<k*2→(vaCells (List.replicate k va0))[j]?=some (.int .i64 0)
 | 0,j,h=>by omega
 | k+1,0,_=>by rw [List.replicate_succ];rfl
 | k+1,1,_=>by rw [List.replicate_succ];rfl
 | k+1,j+2,h=>by
  rw [List.replicate_succ]
  show (vaCells (List.replicate k va0))[j]?=_
  exact rep_at k j (by omega)
theorem made_va (k:Nat):madeCells #[.int .i64 0,.int .i64 0] (k*2)=(vaCells (List.replicate k va0)).toArray:=by
 apply Array.ext_getElem?
 intro j
 by_cases hj:j<k*2
 ·have h2:=rep_at k j hj
  simp only [List.getElem?_toArray,h2]
  unfold madeCells
  have hm:j%2=0∨j%2=1:=by omega
  rcases hm with hm|hm<;>simp [hj,hm]
 ·rw [Array.getElem?_eq_none (by rw [size_madeCells];omega),Array.getElem?_eq_none (by simp [vaCells_length];omega)]
theorem make_va (n:Nat) (hn:n≤1000000) (u:World):(Instr.makeSlice 72 (.int .i64 (n:Int)) (.int .i64 (n:Int))).run Tryz.prog u=.ok (.slice (some ⟨u.heap.size,0,none⟩) n n) (u.alloc (.cells (vaCells (List.replicate n va0)).toArray 82)):=by
 obtain ⟨i,hi,hz,hs,hb⟩:=info_parts info_va3
 have h:=run_make u 72 82 i _ Tryz.underlying72 hi hz .i64 .i64 (n:Int) (n:Int) (by omega) (Int.le_refl _) (by rw [hb];omega) (by omega)
 rw [hs] at h
 simp only [Int.toNat_natCast] at h
 rw [←made_va]
 exact h
theorem blk_at {w:World} {b:Nat} {cs:Array Value} {t:TypeId} (hb:b=w.heap.size):(w.alloc (.cells cs t)).heap[b]?=some (.cells cs t (0,0)):=by subst hb;exact blk_new _ _ _
theorem blk_up {w:World} {b:Nat} {o o':Obj} (hb:b<w.heap.size) (h:w.heap[b]?=some o):(w.alloc o').heap[b]?=some o:=(Below.heap_alloc _ _ _ hb).trans h
theorem bl_grown {W0 W w1:World} (h:Bl W0 W) {row:Option Nat} (hg:W.grownBy w1 row) (hr:∀k,row=some k→W0.heap.size≤k):Bl W0 w1:=Below.grown h hg h.size hr
theorem Hs.old {w0 w w':World} {g:Ad} {p:Nat} {h:Hp} (H:Hs w0 g w p h) (hb:Bl w w'):Hs w0 g w' p h:=by
 obtain ⟨vo,vx,hv,H⟩:=H
 exact ⟨vo,vx,hv,H.old hb⟩
theorem own_stk {w:World} {base lb n:Nat} {b cap:Nat} {l:List Va} (h:w.ownsRow base 82 2 (.slice (some ⟨b,0,none⟩) n cap) n (vaCells l)) (hl:lb<base) (hn:n=l.length):StkAt lb w (some ⟨b,0,none⟩) l∧l.length≤cap:=by
 subst hn
 rcases h.2 with ⟨h1,h2⟩|⟨gb,cp,cur,h1,h2,h3,h4,h5,h6,h7⟩
 ·simp at h1
 ·simp at h1
  obtain ⟨rfl,rfl⟩:=h1
  refine ⟨Or.inr ⟨b,0,cur,(0,0),rfl,h3,by omega,fun i hi=>?_⟩,h4⟩
  have hv:=va_cells l i hi
  rw [←h7] at hv
  rw [List.getElem?_take,if_pos (by omega),List.getElem?_take,if_pos (by omega)] at hv
  simpa using hv
theorem size_at (A:Option Addr) (c n:Nat) (l:List Va) (w:World) (hl:VasAt w A l) (hb:l.length≤1000000) (hn:n=l.length) :
  Calls Tryz.prog 83 #[.slice A n c] w fun e w'=>e=.returned (.int .i64 (sizP l:Nat))∧w'=w:=by
 subst hn
 exact size_any A c l w hl hb
theorem CalAt.old {w0 w w':World} {a:Ca} {c:Cal} (h:CalAt w0 w a c) (hb:Bl w w'):CalAt w0 w' a c :=
 ⟨h.own,h.ownl,(hb.block _ (lt_some h.blk)).trans h.blk,⟨(hb.block _ (lt_some h.loc.blk)).trans h.loc.blk,h.loc.len⟩,h.me⟩
theorem VaBox.fq {B:Nat} {T:TypeId} {a:Ca} {w w':World} {b:Nat} {v:Va} (h:VaBox w b v) (k:Tk T) (f:Fq B T a w w') (h1:b≠a.q) (h2:b≠a.lb):VaBox w' b v:=⟨f.keep _ _ _ _ h.blk k.nv h1 h2⟩
theorem StkAt.fst {lb:Nat} {w:World} {A:Option Addr} {l:List Va} (h:StkAt lb w A l) (hl:0<l.length):∃b off,A=some ⟨b,off,none⟩∧∀i,i<l.length→w.cell? ⟨b,off+i*2,none⟩=some (.int .i64 (nth va0 l i).kind)∧w.cell? ⟨b,off+i*2+1,none⟩=some (.int .i64 (nth va0 l i).n):=by
 rcases h with h|⟨b,off,cs,f,h1,h2,h3,h4⟩
 ·omega
 ·exact ⟨b,off,h1,fun i hi=>by rw [cell_blk h2,cell_blk h2];exact h4 i hi⟩
theorem mes_cells {w:World} {A:Option Addr} {l:List Me} (h:MesAt w A l) {i:Nat} (hi:i<l.length):∃b off P C K p c k,A=some ⟨b,off,none⟩ ∧
  (w.cell? ⟨b,off+i*8,none⟩=some (.slice P (nth me0 l i).params.length p)∧w.cell? ⟨b,off+i*8+1,none⟩=some (.int .i64 (nth me0 l i).ret.kind)∧w.cell? ⟨b,off+i*8+2,none⟩=some (.int .i64 (nth me0 l i).ret.cls)
  ∧ w.cell? ⟨b,off+i*8+3,none⟩=some (.int .i64 (nth me0 l i).stack)∧w.cell? ⟨b,off+i*8+4,none⟩=some (.int .i64 (nth me0 l i).locs)∧w.cell? ⟨b,off+i*8+5,none⟩=some (.int .i64 (nth me0 l i).regs)
  ∧ w.cell? ⟨b,off+i*8+6,none⟩=some (.slice C (nth me0 l i).code.length c)∧w.cell? ⟨b,off+i*8+7,none⟩=some (.slice K (nth me0 l i).hands.length k))∧MeAt w (nth me0 l i) P C K:=by
 rcases h.2 with h0|⟨b,off,hA,hc⟩
 ·omega
 obtain ⟨P,C,K,p,c,k,h0,h1,h2,h3,h4,h5,h6,h7,h8⟩:=hc i hi
 exact ⟨b,off,P,C,K,p,c,k,hA,⟨h0,h1,h2,h3,h4,h5,h6,h7⟩,h8⟩
structure MthBox (w:World) (b:Nat) (m:Me) (P C K:Option Addr) (p c k:Nat):Prop where
 blk:w.heap[b]?=some (meBO m P C K p c k)
structure MthCells (w:World) (b:Nat) (m:Me) (P C K:Option Addr) (p c k:Nat):Prop where
 c0:w.cell? ⟨b,0,none⟩=some (.slice P m.params.length p)
 c1:w.cell? ⟨b,1,none⟩=some (.int .i64 m.ret.kind)
 c2:w.cell? ⟨b,2,none⟩=some (.int .i64 m.ret.cls)
 c3:w.cell? ⟨b,3,none⟩=some (.int .i64 m.stack)
 c4:w.cell? ⟨b,4,none⟩=some (.int .i64 m.locs)
 c5:w.cell? ⟨b,5,none⟩=some (.int .i64 m.regs)
 c6:w.cell? ⟨b,6,none⟩=some (.slice C m.code.length c)
 c7:w.cell? ⟨b,7,none⟩=some (.slice K m.hands.length k)
theorem MthBox.cells {w:World} {b:Nat} {m:Me} {P C K:Option Addr} {p c k:Nat} (h:MthBox w b m P C K p c k):MthCells w b m P C K p c k:=by
 constructor<;>(rw [cell_blk h.blk];rfl)
theorem MthBox.fr {B:Nat} {T:TypeId} {w w':World} {b:Nat} {m:Me} {P C K:Option Addr} {p c k:Nat} (h:MthBox w b m P C K p c k) (t:Tk T) (f:Fr B T w w'):MthBox w' b m P C K p c k:=⟨f.keep _ _ _ _ h.blk t.nm⟩
theorem MthBox.fq {B:Nat} {T:TypeId} {a:Ca} {w w':World} {b:Nat} {m:Me} {P C K:Option Addr} {p c k:Nat} (h:MthBox w b m P C K p c k) (t:Tk T) (f:Fq B T a w w') (h1:b≠a.q) (h2:b≠a.lb):MthBox w' b m P C K p c k:=⟨f.keep _ _ _ _ h.blk t.nm h1 h2⟩
theorem own_ge {w:World} {base:Nat} {e:TypeId} {size n:Nat} {v:Value} {xs:List Value} (h:w.ownsRow base e size v n xs) {k:Nat} (hk:v.ownBlock=some k):base≤k:=(h.lt k hk).1
theorem make_vaI (k:Int) (h0:0≤k) (hn:k≤1000000) (u:World):(Instr.makeSlice 72 (.int .i64 k) (.int .i64 k)).run Tryz.prog u=.ok (.slice (some ⟨u.heap.size,0,none⟩) k.toNat k.toNat) (u.alloc (.cells (vaCells (List.replicate k.toNat va0)).toArray 82)):=by
 have:=make_va k.toNat (by omega) u
 rw [Int.toNat_of_nonneg h0] at this
 exact this
theorem qdoes_gives (w0:World) (g:Ad) (p:Nat) (h:Hp) (a:Ca) (c:Cal) (k ia ib ic ii:Int) (args:List Int) (Q:Option Addr) (nl q:Nat) (w:World) (hH:Hs w0 g w p h) (hC:CalAt w0 w a c) (C:Cq w0 g h) (hp:0≤c.pc∧c.pc≤100000) (hk:k≠10∧k≠11∧k≠12∧k≠18∧k≠21∧k≠15∧k≠16∧k≠23) (G:GOk w0 g h c k ib ic) (hf:(givesH h c ⟨k,ia,ib,ic,ii,args⟩).file=h.file) (hn:0≤ia∧ia<c.locs.length) (hw:(givesH h c ⟨k,ia,ib,ic,ii,args⟩).stops=false→LocOk c.locs∧((givesV h c ⟨k,ia,ib,ic,ii,args⟩).kind=2→ia+1<c.locs.length)) :
  Calls Tryz.prog 89 #[.pointer (some ⟨p,0,none⟩),.pointer (some ⟨a.q,0,none⟩),.agg #[.int .i64 k,.int .i64 ia,.int .i64 ib,.int .i64 ic,.int .i64 ii,.slice Q nl q]] w fun e w'=>e=.returned (.int .i64 (c.pc+1))∧Hs w0 g w' p (givesH h c ⟨k,ia,ib,ic,ii,args⟩)∧CalAt w0 w' a (wrP (givesH h c ⟨k,ia,ib,ic,ii,args⟩) c ia (givesV h c ⟨k,ia,ib,ic,ii,args⟩))∧Fq w0.heap.size g.T a w w':=by
 obtain ⟨HF,HH,HA,HI,HC,d13,hb,hq,hl⟩:=dqpre k ia ib ic ii Q nl q hH hC C
 obtain ⟨n10,n11,n12,n18,n21,n15,n16,n23⟩:=hk
 have b10:decide (k=10)=false:=decide_eq_false n10
 have c10:(k==10)=false:=beq_eq_false_iff_ne.2 n10
 have b11:decide (k=11)=false:=decide_eq_false n11
 have c11:(k==11)=false:=beq_eq_false_iff_ne.2 n11
 have b12:decide (k=12)=false:=decide_eq_false n12
 have c12:(k==12)=false:=beq_eq_false_iff_ne.2 n12
 have b18:decide (k=18)=false:=decide_eq_false n18
 have c18:(k==18)=false:=beq_eq_false_iff_ne.2 n18
 have b21:decide (k=21)=false:=decide_eq_false n21
 have c21:(k==21)=false:=beq_eq_false_iff_ne.2 n21
 have b15:decide (k=15)=false:=decide_eq_false n15
 have c15:(k==15)=false:=beq_eq_false_iff_ne.2 n15
 have b16:decide (k=16)=false:=decide_eq_false n16
 have c16:(k==16)=false:=beq_eq_false_iff_ne.2 n16
 have b23:decide (k=23)=false:=decide_eq_false n23
 have c23:(k==23)=false:=beq_eq_false_iff_ne.2 n23
 clear hH hC C
 have HG:=hid G
 have HW:=hid hw
 clear G hw
 go_enter Tryz.func89,Tryz.ntmps89
 go_wp2_with (first
  | (go_at_call 167;refine (qgives_any w0 g p h a c k ia ib ic ii args Q nl q _ HH.out HA.out HC.out HG.out).mono ?_;rintro e w1 ⟨rfl,H1,F1⟩;have hb1:=H1.base;have I1:=HI.out.keep HC.out.k F1;have hw1:=lt_some I1.blk;have I2:Hid (IBox (w1.alloc (vaO (givesV h c ⟨k,ia,ib,ic,ii,args⟩))) w.heap.size k ia ib ic ii Q nl q):=⟨(Below.heap_alloc _ _ _ hw1).trans I1.blk⟩;obtain ⟨j0,j1,j2,j3,j4,j5⟩:=I2.out.cs;have U2:Hid (VaBox (w1.alloc (vaO (givesV h c ⟨k,ia,ib,ic,ii,args⟩))) w1.heap.size (givesV h c ⟨k,ia,ib,ic,ii,args⟩)):=⟨blk_new _ _ _⟩;have u0:=U2.out.c0;have u1:=U2.out.c1;have H2:=hid (H1.cf ((Cf.refl _ _ _).alloc hb1 (vaO (givesV h c ⟨k,ia,ib,ic,ii,args⟩))));have F2:=hid ((HF.out.trans F1).alloc hb1 (vaO (givesV h c ⟨k,ia,ib,ic,ii,args⟩)));have A2:=hid (CalAt.fr HA.out HC.out.k HC.out.n7 (F1.alloc hb1 (vaO (givesV h c ⟨k,ia,ib,ic,ii,args⟩))));clear H1 F1 I1)
  | (go_at_call 88;refine (qwrite_any w0 g p (givesH h c ⟨k,ia,ib,ic,ii,args⟩) a c ia (givesV h c ⟨k,ia,ib,ic,ii,args⟩) _ H2.out A2.out (HC.out.same hf) hn HW.out).mono ?_;rintro e w2 ⟨rfl,H3,A3,F3⟩;replace H3:=hid H3;replace A3:=hid A3;replace F3:=hid F3))
 go_ret
 exact ⟨rfl,H3.out,A3.out,F2.out.fq.trans F3.out⟩
end Go.Proofs.YtgiiapenmjollabGreat
