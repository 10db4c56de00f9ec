import Derived.Test.YtgiiapenmjollabGreatRsam
namespace Go.Proofs.YtgiiapenmjollabGreat
set_option linter.all false
set_option maxHeartbeats 40000000
set_option maxRecDepth 100000
open Go.RowKit
theorem qgives_op24 (w0:World) (g:Ad) (p:Nat) (h:Hp) (a:Ca) (c:Cal) (ia ib ic ii:Int) (args:List Int) (Q:Option Addr) (nl q:Nat) (w:World) (hH:Hs w0 g w p h) (hC:CalAt w0 w a c) (C:Cq w0 g h) (hI:IntsAt w0 g.I h.input) (hu:0≤h.sh.used) :
  Calls Tryz.prog 167 #[.pointer (some ⟨p,0,none⟩),.pointer (some ⟨a.q,0,none⟩),.agg #[.int .i64 24,.int .i64 ia,.int .i64 ib,.int .i64 ic,.int .i64 ii,.slice Q nl q]] w fun e w'=>e=.returned (vaV (givesV h c ⟨24,ia,ib,ic,ii,args⟩))∧Hs w0 g w' p (givesH h c ⟨24,ia,ib,ic,ii,args⟩)∧Fr w0.heap.size g.T w w':=by
 obtain ⟨HF,HH,HA,HI,HR,HN,HC,hb,hq,hl⟩:=qpre 24 ia ib ic ii Q nl q hH hC C
 clear hH hC C
 have eH:givesH h c ⟨24,ia,ib,ic,ii,args⟩=h.input':=by simp [givesH]
 have eV:givesV h c ⟨24,ia,ib,ic,ii,args⟩=h.inV:=by simp [givesV]
 rw [eH,eV]
 clear eH eV
 have HIN:=hid (And.intro hI hu)
 clear hI hu
 go_enter Tryz.func167,Tryz.ntmps167
 go_wp2_with (go_at_call 233;refine (in_any w0 g HC.out.k p h _ HH.out HIN.out.1 HIN.out.2).mono ?_;rintro e w1 ⟨rfl,H1,F1⟩;have R:=hid (HR.out.keep HC.out.k F1);have r0:=R.out.c0;have r1:=R.out.c1;have fz:=R.out.fr;replace H1:=hid H1;replace F1:=hid (HF.out.trans F1))
 refine bodyPost_ret (results_cell_row rfl _ _ (w.heap.size+1) _ _ _ _ rfl (R.out.set h.inV).blk Tryz.underlying82 rfl info_va) rfl ?_
 exact ⟨rfl,H1.out.cf (R.out.cf HC.out.k (by omega) _ _),(F1.out.new (Nat.le_succ _) (by omega) _).new (Nat.le_succ _) (by omega) _⟩
theorem set2_cellQ {w:World} {b b' i:Nat} {k n x:Value} (h:w.cell? ⟨b,i,none⟩=some x) (hb:b≠b'):((w.setCell ⟨b',0,none⟩ k).setCell ⟨b',1,none⟩ n).cell? ⟨b,i,none⟩=some x:=by
 rw [World.cell?_setCell_far _ _ _ _ (Ne.symm hb),World.cell?_setCell_far _ _ _ _ (Ne.symm hb)];exact h
theorem qgives_op13 (w0:World) (g:Ad) (p:Nat) (h:Hp) (a:Ca) (c:Cal) (ia ib ic ii:Int) (args:List Int) (Q:Option Addr) (nl q:Nat) (w:World) (hH:Hs w0 g w p h) (hC:CalAt w0 w a c) (C:Cq w0 g h) (hcb:0≤ib∧ib<h.file.classes.length) :
  Calls Tryz.prog 167 #[.pointer (some ⟨p,0,none⟩),.pointer (some ⟨a.q,0,none⟩),.agg #[.int .i64 13,.int .i64 ia,.int .i64 ib,.int .i64 ic,.int .i64 ii,.slice Q nl q]] w fun e w'=>e=.returned (vaV (givesV h c ⟨13,ia,ib,ic,ii,args⟩))∧Hs w0 g w' p (givesH h c ⟨13,ia,ib,ic,ii,args⟩)∧Fr w0.heap.size g.T w w':=by
 obtain ⟨HF,HH,HA,HI,HR,HN,HC,hb,hq,hl⟩:=qpre 13 ia ib ic ii Q nl q hH hC C
 clear hH hC C
 have eH:givesH h c ⟨13,ia,ib,ic,ii,args⟩=h.new ib:=by simp [givesH]
 have eV:givesV h c ⟨13,ia,ib,ic,ii,args⟩=h.newV:=by simp [givesV]
 rw [eH,eV]
 clear eH eV
 have HCB:=hid hcb
 have z2:=hid HI.out.cs.2.2.1
 clear hcb
 go_enter Tryz.func167,Tryz.ntmps167
 go_wp2
 refine wp_region_held_drew (S:=fun w'=>w'.cell? ⟨w.heap.size,2,none⟩=some (.int .i64 ib)) (by kernel_rfl) ?_ (fun hHeld0=>?_)
 ·exact z2.out
 iterate 5 (refine tn rfl (by kernel_rfl) (fun _ _ _ h=>h) (by intro _ h;go_split_ands;go_simp<;>with_reducible rfl) hHeld0 ?_;try simp only [aS,aN,aT,a0,a1])
 refine rd1 (i:=5) (by kernel_rfl) rfl fun K hK=>?_
 go_simp
 go_at_call 230
 refine (new_any w0 g HC.out.k p h ib _ (HH.out.drewN 1) HC.out.cw.cls HC.out.cw.tree HCB.out HC.out.cw.le HC.out.cw.fl).mono ?_
 rintro e w1 ⟨rfl,H1,F1⟩
 have R:=hid ((HR.out.drewN 1).keep HC.out.k F1)
 have r0:=R.out.c0
 have r1:=R.out.c1
 have fz:=R.out.fr
 have I1:=hid ((IBox.mk HI.out.blk:IBox ((((w.alloc (.cells #[.int .i64 13,.int .i64 ia,.int .i64 ib,.int .i64 ic,.int .i64 ii,.slice Q nl q] 58)).alloc vzO).alloc vzO).drew) _ _ _ _ _ _ _ _ _).keep HC.out.k F1)
 replace H1:=hid H1
 replace F1:=hid ((HF.out.drewN 1).trans F1)
 go_wp2_with fail
 refine hK.out _ _ (I1.out.cs.2.2.1) (fun hHeld1=>?_)
 try simp only [aS,aN,aT,a0,a1]
 refine rd1 (i:=6) (by kernel_rfl) rfl fun K hK=>?_
 go_wp2_with fail
 refine hK.out _ _ (set2_cellQ I1.out.cs.2.2.1 (by omega)) (fun hHeld2=>?_)
 try simp only [aS,aN,aT,a0,a1]
 refine wpAnyH_done (by kernel_rfl) ?_ _
 go_wp2
 refine bodyPost_ret (results_cell_row rfl _ _ (w.heap.size+1) _ _ _ _ rfl (R.out.set h.newV).blk Tryz.underlying82 rfl info_va) rfl ?_
 exact ⟨rfl,H1.out.cf (R.out.cf HC.out.k (by omega) _ _),(F1.out.new (Nat.le_succ _) (by omega) _).new (Nat.le_succ _) (by omega) _⟩
theorem qgives_op5 (w0:World) (g:Ad) (p:Nat) (h:Hp) (a:Ca) (c:Cal) (ia ib ic ii:Int) (args:List Int) (Q:Option Addr) (nl q:Nat) (w:World) (hH:Hs w0 g w p h) (hC:CalAt w0 w a c) (C:Cq w0 g h) (hrb:0≤ib∧ib<c.locs.length) (hrc:0≤ic∧ic<c.locs.length) (hub:I64 (c.rd ib).n) (huc:I64 (c.rd ic).n) :
  Calls Tryz.prog 167 #[.pointer (some ⟨p,0,none⟩),.pointer (some ⟨a.q,0,none⟩),.agg #[.int .i64 5,.int .i64 ia,.int .i64 ib,.int .i64 ic,.int .i64 ii,.slice Q nl q]] w fun e w'=>e=.returned (vaV (givesV h c ⟨5,ia,ib,ic,ii,args⟩))∧Hs w0 g w' p (givesH h c ⟨5,ia,ib,ic,ii,args⟩)∧Fr w0.heap.size g.T w w':=by
 obtain ⟨nb,rfl⟩:∃nb:Nat,ib=nb:=⟨ib.toNat,by omega⟩
 obtain ⟨nc,rfl⟩:∃nc:Nat,ic=nc:=⟨ic.toNat,by omega⟩
 obtain ⟨HF,HH,HA,HI,HR,HN,HC,hb,hq,hl⟩:=qpre 5 ia (nb:Int) (nc:Int) ii Q nl q hH hC C
 clear hH hC C
 have eH:givesH h c ⟨5,ia,(nb:Int),(nc:Int),ii,args⟩=h.reckH (c.rd (nb:Int)) (c.rd (nc:Int)) 1 ii:=by simp [givesH]
 have eV:givesV h c ⟨5,ia,(nb:Int),(nc:Int),ii,args⟩=h.reckV (c.rd (nb:Int)) (c.rd (nc:Int)) 1 ii:=by simp [givesV]
 rw [eH,eV]
 clear eH eV
 have hnb:nb<c.locs.length:=by omega
 have hnc:nc<c.locs.length:=by omega
 have eu:c.rd (nb:Int)=nth va0 c.locs nb:=by unfold Cal.rd;rw [Int.toNat_natCast]
 have ev:c.rd (nc:Int)=nth va0 c.locs nc:=by unfold Cal.rd;rw [Int.toNat_natCast]
 rw [eu] at hub ⊢
 rw [ev] at huc ⊢
 have T8:Hid (∀w',CalAt w0 w' a c→IBox w' w.heap.size 5 ia (nb:Int) (nc:Int) ii Q nl q→(fun w'=>w'.cell? ⟨a.q,8,none⟩=some (.slice (some ⟨a.lb,0,none⟩) c.locs.length a.lc)∧w'.cell? ⟨w.heap.size,2,none⟩=some (.int .i64 (nb:Int))∧w'.cell? ⟨w.heap.size,3,none⟩=some (.int .i64 (nc:Int))∧w'.cell? ⟨w.heap.size,4,none⟩=some (.int .i64 ii)∧w'.cell? ⟨a.lb,nb*2,none⟩=some (.int .i64 (nth va0 c.locs nb).kind)∧w'.cell? ⟨a.lb,nb*2+1,none⟩=some (.int .i64 (nth va0 c.locs nb).n)∧w'.cell? ⟨a.lb,nc*2,none⟩=some (.int .i64 (nth va0 c.locs nc).kind)∧w'.cell? ⟨a.lb,nc*2+1,none⟩=some (.int .i64 (nth va0 c.locs nc).n)) w'):=fun w' A I=>⟨A.cells.c8,I.cs.2.2.1,I.cs.2.2.2.1,I.cs.2.2.2.2.1,A.loc.c0 hnb,A.loc.c1 hnb,A.loc.c0 hnc,A.loc.c1 hnc⟩
 have HU:=hid (And.intro hub huc)
 have hlen:=HA.out.loc.len
 generalize nth va0 c.locs nb=u at *
 generalize nth va0 c.locs nc=v at *
 have z2:=hid (T8.out _ HA.out HI.out)
 clear hub huc hrb hrc eu ev
 go_enter Tryz.func167,Tryz.ntmps167
 go_wp2
 refine wp_region_held_drew (S:=fun w'=>w'.cell? ⟨a.q,8,none⟩=some (.slice (some ⟨a.lb,0,none⟩) c.locs.length a.lc)∧w'.cell? ⟨w.heap.size,2,none⟩=some (.int .i64 (nb:Int))∧w'.cell? ⟨w.heap.size,3,none⟩=some (.int .i64 (nc:Int))∧w'.cell? ⟨w.heap.size,4,none⟩=some (.int .i64 ii)∧w'.cell? ⟨a.lb,nb*2,none⟩=some (.int .i64 u.kind)∧w'.cell? ⟨a.lb,nb*2+1,none⟩=some (.int .i64 u.n)∧w'.cell? ⟨a.lb,nc*2,none⟩=some (.int .i64 v.kind)∧w'.cell? ⟨a.lb,nc*2+1,none⟩=some (.int .i64 v.n)) (by kernel_rfl) ?_ (fun hHeld0=>?_)
 ·exact z2.out
 iterate 22 (refine tn rfl (by kernel_rfl) (fun _ _ _ h=>h) (by intro _ h;go_split_ands;go_simp<;>with_reducible rfl) hHeld0 ?_;try simp only [aS,aN,aT,a0,a1])
 refine rd1 (i:=22) (by kernel_rfl) rfl fun K hK=>?_
 go_simp
 go_at_call 228
 refine (reckon_any w0 g p h u v 1 ii _ (HH.out.drewN 1) HC.out.cw (by omega) HU.out.1 HU.out.2).mono ?_
 rintro e w1 ⟨rfl,H1,F1⟩
 have R:=hid ((HR.out.drewN 1).keep HC.out.k F1)
 have r0:=R.out.c0
 have r1:=R.out.c1
 have fz:=R.out.fr
 have I1:=hid ((IBox.mk HI.out.blk:IBox ((((w.alloc (.cells #[.int .i64 5,.int .i64 ia,.int .i64 (nb:Int),.int .i64 (nc:Int),.int .i64 ii,.slice Q nl q] 58)).alloc vzO).alloc vzO).drew) _ _ _ _ _ _ _ _ _).keep HC.out.k F1)
 have A1:=hid (CalAt.fr (w:=(((w.alloc (.cells #[.int .i64 5,.int .i64 ia,.int .i64 (nb:Int),.int .i64 (nc:Int),.int .i64 ii,.slice Q nl q] 58)).alloc vzO).alloc vzO).drew) ⟨HA.out.own,HA.out.ownl,HA.out.blk,⟨HA.out.loc.blk,HA.out.loc.len⟩,HA.out.me⟩ HC.out.k HC.out.n7 F1)
 have d8:=hid (T8.out _ A1.out I1.out)
 replace H1:=hid H1
 replace F1:=hid ((HF.out.drewN 1).trans F1)
 go_wp2_with fail
 refine hK.out _ _ (d8.out) (fun hHeld1=>?_)
 try simp only [aS,aN,aT,a0,a1]
 refine rd1 (i:=23) (by kernel_rfl) rfl fun K hK=>?_
 go_wp2_with fail
 refine hK.out _ _ (⟨set2_cellQ d8.out.1 (by omega),set2_cellQ d8.out.2.1 (by omega),set2_cellQ d8.out.2.2.1 (by omega),set2_cellQ d8.out.2.2.2.1 (by omega),set2_cellQ d8.out.2.2.2.2.1 (by omega),set2_cellQ d8.out.2.2.2.2.2.1 (by omega),set2_cellQ d8.out.2.2.2.2.2.2.1 (by omega),set2_cellQ d8.out.2.2.2.2.2.2.2 (by omega)⟩) (fun hHeld2=>?_)
 try simp only [aS,aN,aT,a0,a1]
 refine wpAnyH_done (by kernel_rfl) ?_ _
 go_wp2
 refine bodyPost_ret (results_cell_row rfl _ _ (w.heap.size+1) _ _ _ _ rfl (R.out.set (h.reckV u v 1 ii)).blk Tryz.underlying82 rfl info_va) rfl ?_
 exact ⟨rfl,H1.out.cf (R.out.cf HC.out.k (by omega) _ _),(F1.out.new (Nat.le_succ _) (by omega) _).new (Nat.le_succ _) (by omega) _⟩
theorem qgives_op6 (w0:World) (g:Ad) (p:Nat) (h:Hp) (a:Ca) (c:Cal) (ia ib ic ii:Int) (args:List Int) (Q:Option Addr) (nl q:Nat) (w:World) (hH:Hs w0 g w p h) (hC:CalAt w0 w a c) (C:Cq w0 g h) (hrb:0≤ib∧ib<c.locs.length) (hrc:0≤ic∧ic<c.locs.length) (hub:I64 (c.rd ib).n) (huc:I64 (c.rd ic).n) :
  Calls Tryz.prog 167 #[.pointer (some ⟨p,0,none⟩),.pointer (some ⟨a.q,0,none⟩),.agg #[.int .i64 6,.int .i64 ia,.int .i64 ib,.int .i64 ic,.int .i64 ii,.slice Q nl q]] w fun e w'=>e=.returned (vaV (givesV h c ⟨6,ia,ib,ic,ii,args⟩))∧Hs w0 g w' p (givesH h c ⟨6,ia,ib,ic,ii,args⟩)∧Fr w0.heap.size g.T w w':=by
 obtain ⟨nb,rfl⟩:∃nb:Nat,ib=nb:=⟨ib.toNat,by omega⟩
 obtain ⟨nc,rfl⟩:∃nc:Nat,ic=nc:=⟨ic.toNat,by omega⟩
 obtain ⟨HF,HH,HA,HI,HR,HN,HC,hb,hq,hl⟩:=qpre 6 ia (nb:Int) (nc:Int) ii Q nl q hH hC C
 clear hH hC C
 have eH:givesH h c ⟨6,ia,(nb:Int),(nc:Int),ii,args⟩=h.reckH (c.rd (nb:Int)) (c.rd (nc:Int)) 2 ii:=by simp [givesH]
 have eV:givesV h c ⟨6,ia,(nb:Int),(nc:Int),ii,args⟩=h.reckV (c.rd (nb:Int)) (c.rd (nc:Int)) 2 ii:=by simp [givesV]
 rw [eH,eV]
 clear eH eV
 have hnb:nb<c.locs.length:=by omega
 have hnc:nc<c.locs.length:=by omega
 have eu:c.rd (nb:Int)=nth va0 c.locs nb:=by unfold Cal.rd;rw [Int.toNat_natCast]
 have ev:c.rd (nc:Int)=nth va0 c.locs nc:=by unfold Cal.rd;rw [Int.toNat_natCast]
 rw [eu] at hub ⊢
 rw [ev] at huc ⊢
 have T8:Hid (∀w',CalAt w0 w' a c→IBox w' w.heap.size 6 ia (nb:Int) (nc:Int) ii Q nl q→(fun w'=>w'.cell? ⟨a.q,8,none⟩=some (.slice (some ⟨a.lb,0,none⟩) c.locs.length a.lc)∧w'.cell? ⟨w.heap.size,2,none⟩=some (.int .i64 (nb:Int))∧w'.cell? ⟨w.heap.size,3,none⟩=some (.int .i64 (nc:Int))∧w'.cell? ⟨w.heap.size,4,none⟩=some (.int .i64 ii)∧w'.cell? ⟨a.lb,nb*2,none⟩=some (.int .i64 (nth va0 c.locs nb).kind)∧w'.cell? ⟨a.lb,nb*2+1,none⟩=some (.int .i64 (nth va0 c.locs nb).n)∧w'.cell? ⟨a.lb,nc*2,none⟩=some (.int .i64 (nth va0 c.locs nc).kind)∧w'.cell? ⟨a.lb,nc*2+1,none⟩=some (.int .i64 (nth va0 c.locs nc).n)) w'):=fun w' A I=>⟨A.cells.c8,I.cs.2.2.1,I.cs.2.2.2.1,I.cs.2.2.2.2.1,A.loc.c0 hnb,A.loc.c1 hnb,A.loc.c0 hnc,A.loc.c1 hnc⟩
 have HU:=hid (And.intro hub huc)
 have hlen:=HA.out.loc.len
 generalize nth va0 c.locs nb=u at *
 generalize nth va0 c.locs nc=v at *
 have z2:=hid (T8.out _ HA.out HI.out)
 clear hub huc hrb hrc eu ev
 go_enter Tryz.func167,Tryz.ntmps167
 go_wp2
 refine wp_region_held_drew (S:=fun w'=>w'.cell? ⟨a.q,8,none⟩=some (.slice (some ⟨a.lb,0,none⟩) c.locs.length a.lc)∧w'.cell? ⟨w.heap.size,2,none⟩=some (.int .i64 (nb:Int))∧w'.cell? ⟨w.heap.size,3,none⟩=some (.int .i64 (nc:Int))∧w'.cell? ⟨w.heap.size,4,none⟩=some (.int .i64 ii)∧w'.cell? ⟨a.lb,nb*2,none⟩=some (.int .i64 u.kind)∧w'.cell? ⟨a.lb,nb*2+1,none⟩=some (.int .i64 u.n)∧w'.cell? ⟨a.lb,nc*2,none⟩=some (.int .i64 v.kind)∧w'.cell? ⟨a.lb,nc*2+1,none⟩=some (.int .i64 v.n)) (by kernel_rfl) ?_ (fun hHeld0=>?_)
 ·exact z2.out
 iterate 22 (refine tn rfl (by kernel_rfl) (fun _ _ _ h=>h) (by intro _ h;go_split_ands;go_simp<;>with_reducible rfl) hHeld0 ?_;try simp only [aS,aN,aT,a0,a1])
 refine rd1 (i:=22) (by kernel_rfl) rfl fun K hK=>?_
 go_simp
 go_at_call 228
 refine (reckon_any w0 g p h u v 2 ii _ (HH.out.drewN 1) HC.out.cw (by omega) HU.out.1 HU.out.2).mono ?_
 rintro e w1 ⟨rfl,H1,F1⟩
 have R:=hid ((HR.out.drewN 1).keep HC.out.k F1)
 have r0:=R.out.c0
 have r1:=R.out.c1
 have fz:=R.out.fr
 have I1:=hid ((IBox.mk HI.out.blk:IBox ((((w.alloc (.cells #[.int .i64 6,.int .i64 ia,.int .i64 (nb:Int),.int .i64 (nc:Int),.int .i64 ii,.slice Q nl q] 58)).alloc vzO).alloc vzO).drew) _ _ _ _ _ _ _ _ _).keep HC.out.k F1)
 have A1:=hid (CalAt.fr (w:=(((w.alloc (.cells #[.int .i64 6,.int .i64 ia,.int .i64 (nb:Int),.int .i64 (nc:Int),.int .i64 ii,.slice Q nl q] 58)).alloc vzO).alloc vzO).drew) ⟨HA.out.own,HA.out.ownl,HA.out.blk,⟨HA.out.loc.blk,HA.out.loc.len⟩,HA.out.me⟩ HC.out.k HC.out.n7 F1)
 have d8:=hid (T8.out _ A1.out I1.out)
 replace H1:=hid H1
 replace F1:=hid ((HF.out.drewN 1).trans F1)
 go_wp2_with fail
 refine hK.out _ _ (d8.out) (fun hHeld1=>?_)
 try simp only [aS,aN,aT,a0,a1]
 refine rd1 (i:=23) (by kernel_rfl) rfl fun K hK=>?_
 go_wp2_with fail
 refine hK.out _ _ (⟨set2_cellQ d8.out.1 (by omega),set2_cellQ d8.out.2.1 (by omega),set2_cellQ d8.out.2.2.1 (by omega),set2_cellQ d8.out.2.2.2.1 (by omega),set2_cellQ d8.out.2.2.2.2.1 (by omega),set2_cellQ d8.out.2.2.2.2.2.1 (by omega),set2_cellQ d8.out.2.2.2.2.2.2.1 (by omega),set2_cellQ d8.out.2.2.2.2.2.2.2 (by omega)⟩) (fun hHeld2=>?_)
 try simp only [aS,aN,aT,a0,a1]
 refine wpAnyH_done (by kernel_rfl) ?_ _
 go_wp2
 refine bodyPost_ret (results_cell_row rfl _ _ (w.heap.size+1) _ _ _ _ rfl (R.out.set (h.reckV u v 2 ii)).blk Tryz.underlying82 rfl info_va) rfl ?_
 exact ⟨rfl,H1.out.cf (R.out.cf HC.out.k (by omega) _ _),(F1.out.new (Nat.le_succ _) (by omega) _).new (Nat.le_succ _) (by omega) _⟩
theorem qgives_op9 (w0:World) (g:Ad) (p:Nat) (h:Hp) (a:Ca) (c:Cal) (ia ib ic ii:Int) (args:List Int) (Q:Option Addr) (nl q:Nat) (w:World) (hH:Hs w0 g w p h) (hC:CalAt w0 w a c) (C:Cq w0 g h) (hrb:0≤ib∧ib<c.locs.length) (hrc:0≤ic∧ic<c.locs.length) :
  Calls Tryz.prog 167 #[.pointer (some ⟨p,0,none⟩),.pointer (some ⟨a.q,0,none⟩),.agg #[.int .i64 9,.int .i64 ia,.int .i64 ib,.int .i64 ic,.int .i64 ii,.slice Q nl q]] w fun e w'=>e=.returned (vaV (givesV h c ⟨9,ia,ib,ic,ii,args⟩))∧Hs w0 g w' p (givesH h c ⟨9,ia,ib,ic,ii,args⟩)∧Fr w0.heap.size g.T w w':=by
 obtain ⟨HF,HH,HA,HI,HR,HN,HC,hb,hq,hl⟩:=qpre 9 ia ib ic ii Q nl q hH hC C
 clear hH hC C
 have eH:givesH h c ⟨9,ia,ib,ic,ii,args⟩=(h.rdH c ib 2).rdH c ic 2:=by simp [givesH]
 have eV:givesV h c ⟨9,ia,ib,ic,ii,args⟩=⟨1,cmpV (c.rd ib).n (c.rd ic).n⟩:=by simp [givesV]
 rw [eH,eV]
 clear eH eV
 go_enter Tryz.func167,Tryz.ntmps167
 go_wp2_with (first
  | (go_at_call 86;refine (yread_any w0 g p (h.rdH c ib 2) a c ic 2 _ H1.out A2.out (HC.out.same (rdH_file h c ib 2)) hrc).mono ?_;rintro e w2 ⟨rfl,H2,F2⟩;have R3:=hid (R2.out.keep HC.out.k F2);have U3:=hid (U2.out.keep HC.out.k F2);have z0:=R3.out.c0;have z1:=R3.out.c1;have fz3:=R3.out.fr;have y0:=U3.out.c0;have y1:=U3.out.c1;have z0a:∀o,(w2.alloc o).cell? ⟨w.heap.size+1,0,none⟩=some (.int .i64 0):=(fun o=>((Bl.refl w2).alloc o).cell z0);have z1a:∀o,(w2.alloc o).cell? ⟨w.heap.size+1,1,none⟩=some (.int .i64 0):=(fun o=>((Bl.refl w2).alloc o).cell z1);have k1:=lt_some R3.out.blk;have k2:=lt_some U3.out.blk;have R4:Hid (VaBox (w2.alloc (vaO (c.rd ic))) (w.heap.size+1) va0):=⟨(Below.heap_alloc _ _ _ k1).trans R3.out.blk⟩;have U4:Hid (VaBox (w2.alloc (vaO (c.rd ic))) w1.heap.size (c.rd ib)):=⟨(Below.heap_alloc _ _ _ k2).trans U3.out.blk⟩;have q0:=R4.out.c0;have q1:=R4.out.c1;have fzb:∀i,(w2.alloc (vaO (c.rd ic))).frozen? ⟨w.heap.size+1,i,none⟩=false:=(fun i=>R4.out.fr i);have u0:=U4.out.c0;have u1:=U4.out.c1;have hx3:w2.heap.size≠w.heap.size+1:=(by omega);have hx4:w.heap.size+1≠w2.heap.size:=(by omega);have hx5:w1.heap.size≠w2.heap.size:=(by omega);have hx6:w2.heap.size≠w1.heap.size:=(by omega);have hb2:=H2.base;replace H2:=hid H2;replace F2:=hid (F1.out.trans F2))
  | (go_at_call 86;refine (yread_any w0 g p h a c ib 2 _ HH.out HA.out HC.out hrb).mono ?_;rintro e w1 ⟨rfl,H1,F1⟩;have R:=hid (HR.out.keep HC.out.k F1);have r0:=R.out.c0;have r1:=R.out.c1;have fz:=R.out.fr;have I1:=HI.out.keep HC.out.k F1;obtain ⟨i0,i1,i2,i3,i4,i5⟩:=I1.cs;replace I1:=hid I1;have N1:=HN.out.keep HC.out.k F1;have n0:=N1.c0;have n1:=N1.c1;replace N1:=hid N1;have hw1:=lt_some I1.out.blk;have hw2:=lt_some N1.out.blk;have hx1:w1.heap.size≠w.heap.size+1:=(by omega);have hx2:w.heap.size+1≠w1.heap.size:=(by omega);have r0a:∀o,(w1.alloc o).cell? ⟨w.heap.size+1,0,none⟩=some (.int .i64 0):=(fun o=>((Bl.refl w1).alloc o).cell r0);have r1a:∀o,(w1.alloc o).cell? ⟨w.heap.size+1,1,none⟩=some (.int .i64 0):=(fun o=>((Bl.refl w1).alloc o).cell r1);have R2:Hid (VaBox (w1.alloc (vaO (c.rd ib))) (w.heap.size+1) va0):=⟨(Below.heap_alloc _ _ _ (lt_some R.out.blk)).trans R.out.blk⟩;have fza:∀i,(w1.alloc (vaO (c.rd ib))).frozen? ⟨w.heap.size+1,i,none⟩=false:=(fun i=>R2.out.fr i);have r0b:=R2.out.c0;have r1b:=R2.out.c1;have hb1:=H1.base;have A2:=hid (CalAt.fr (HA.out.fr HC.out.k HC.out.n7 F1) HC.out.k HC.out.n7 ((Fr.refl w0.heap.size g.T w1).alloc hb1 (vaO (c.rd ib))));have U2:Hid (VaBox (w1.alloc (vaO (c.rd ib))) w1.heap.size (c.rd ib)):=⟨blk_new _ _ _⟩;have i3a:=((Bl.refl w1).alloc (vaO (c.rd ib))).cell i3;replace H1:=hid (H1.cf ((Cf.refl _ _ _).alloc hb1 (vaO (c.rd ib))));replace F1:=hid ((HF.out.trans F1).alloc hb1 (vaO (c.rd ib))))
  | (go_at_call 229;refine (rcmp_any _ _ _).mono ?_;rintro e w3 ⟨rfl,hw⟩;rw [hw];clear hw w3))
 first
  | (refine bodyPost_ret (results_cell_row rfl _ _ (w.heap.size+1) _ _ _ _ rfl (R4.out.set ⟨1,cmpV (c.rd ib).n (c.rd ic).n⟩).blk Tryz.underlying82 rfl info_va) rfl ?_;exact ⟨rfl,(H2.out.cf ((Cf.refl _ _ _).alloc (by omega) _)).cf (R4.out.cf HC.out.k (by omega) _ _),((F2.out.alloc (by omega) _).new (Nat.le_succ _) (by omega) _).new (Nat.le_succ _) (by omega) _⟩)
  | (refine bodyPost_ret (results_cell_row rfl _ _ (w.heap.size+1) _ _ _ _ rfl ((Below.heap_alloc _ _ _ (by simp;exact lt_some R3.out.blk)).trans (R3.out.set ⟨1,cmpV (c.rd ib).n (c.rd ic).n⟩).blk) Tryz.underlying82 rfl info_va) rfl ?_;exact ⟨rfl,(H2.out.cf (R3.out.cf HC.out.k (by omega) _ _)).cf ((Cf.refl _ _ _).alloc (by simp;omega) _),((F2.out.new (Nat.le_succ _) (by omega) _).new (Nat.le_succ _) (by omega) _).alloc (by simp;omega) _⟩)
end Go.Proofs.YtgiiapenmjollabGreat
