import Derived.Test.YtgiiapenmjollabGreatRlan
namespace Go.Proofs.YtgiiapenmjollabGreat
set_option linter.all false
set_option maxHeartbeats 40000000
set_option maxRecDepth 100000
open Go.RowKit
section
open Go.Maps (Keyed has)
theorem operate_any (op:Int) (X:Nat→Prop) (wx w0:World) (g:Mg) (h:Hp) (qs:List Qb) (a:Mc) (c:Cal) (ia ib ic ii:Int) (args:List Int) (Q:Option Addr) (nl q:Nat) (w:World) (H:RX 1 X wx w0 g w h qs a c) (hs:h.stops=false) (k:Int) (hb:0≤ib∧ib<c.locs.length) (hc:0≤ic∧ic<c.locs.length) (hk:k=1∨k=2) (h2:k=2→ib+1<c.locs.length∧ic+1<c.locs.length) (hob:h.objs.length≤100) :
  Calls Tryz.prog 299 #[.pointer (some ⟨a.q,0,none⟩),.int .i64 k,.agg #[.int .i64 op,.int .i64 ia,.int .i64 ib,.int .i64 ic,.int .i64 ii,.slice Q nl q]] w fun e w'=>ValQ X wx w0 g qs a c (h.reckH (c.rd ib) (c.rd ic) k ii) (h.reckV (c.rd ib) (c.rd ic) k ii) e w':=by
 have ho:=(stops_not hs).1
 have HH:=hid H
 have HS:=hid hs
 have hq:=H.qlt
 obtain ⟨L0,L1⟩:=two_lie w #[.int .i64 op,.int .i64 ia,.int .i64 ib,.int .i64 ic,.int .i64 ii,.slice Q nl q] #[.int .i64 0,.int .i64 0] 58 115
 have HB:Hid (Bl w ((w.alloc (.cells #[.int .i64 op,.int .i64 ia,.int .i64 ib,.int .i64 ic,.int .i64 ii,.slice Q nl q] 58)).alloc mvZ)):=((Bl.refl w).alloc _).alloc _
 have HL0:=hid L0
 have HL1:=hid L1
 have hn0:w.heap.size≠a.q:=by omega
 have hn1:w.heap.size+1≠a.q:=by omega
 have hn2:w.heap.size≠w.heap.size+1:=by omega
 clear L0 L1
 have z0:=hid (H.y.bl HB.out).hb
 have z1:=hid (And.intro (insC HL0.out).2.2.1 (And.intro (insC HL0.out).2.2.2.1 (insC HL0.out).2.2.2.2.1))
 have hkk:1≤k∧k≤3:=by omega
 by_cases e1:(c.rd ib).kind=k
 ·by_cases e2:(c.rd ic).kind=k
  ·have hm:h.mustB (ofBoth (c.rd ib) (c.rd ic) k)=true:=by unfold Hp.mustB ofBoth;rw [e1,e2,ho];simp
   have ev:h.reckV (c.rd ib) (c.rd ic) k ii=⟨k,reckN k ii (c.rd ib) (c.rd ic)⟩:=by unfold Hp.reckV;rw [if_pos hm]
   have i1:im (c.rd ib)=c.rd ib:=im_num (by omega)
   have i2:im (c.rd ic)=c.rd ic:=im_num (by omega)
   have HR1:Hid (∀w',RX 1 X wx w0 g w' h qs a c→Calls Tryz.prog 137 #[.pointer (some ⟨a.q,0,none⟩),.int .i64 ib,.int .i64 k] w' fun e w2=>e=.returned (mvV (im (c.rd ib)))∧Bl w' w2):=fun w' H=>rd_yes 1 X wx w0 g h qs a c ib k w' H hb hkk (fun x=>(h2 x).1) e1
   have HR2:Hid (∀w',RX 1 X wx w0 g w' h qs a c→Calls Tryz.prog 137 #[.pointer (some ⟨a.q,0,none⟩),.int .i64 ic,.int .i64 k] w' fun e w2=>e=.returned (mvV (im (c.rd ic)))∧Bl w' w2):=fun w' H=>rd_yes 1 X wx w0 g h qs a c ic k w' H hc hkk (fun x=>(h2 x).2) e2
   rw [i1] at HR1
   rw [i2] at HR2
   have HK:=hid hk
   cases hr:reckB k ii (c.rd ib) (c.rd ic) with
   | true =>
    have eh:h.reckH (c.rd ib) (c.rd ic) k ii=h:=by unfold Hp.reckH;rw [if_pos hm,if_pos hr]
    rw [eh,ev]
    have i3:im ⟨k,reckN k ii (c.rd ib) (c.rd ic)⟩=⟨k,reckN k ii (c.rd ib) (c.rd ic)⟩:=im_num (by show k≠3;omega)
    have HE:Hid (∀w',RX 1 X wx w0 g w' h qs a c→ValQ X wx w0 g qs a c h ⟨k,reckN k ii (c.rd ib) (c.rd ic)⟩ (.returned (mvV ⟨k,reckN k ii (c.rd ib) (c.rd ic)⟩)) w'):=fun w' H=>val_go hs (by rw [i3]) H
    have HR:=hid hr
    clear H hs hb hc hk h2 hob e1 e2 hm ev i1 i2 i3 hr eh hkk
    go_enter Tryz.func299,Tryz.ntmps299
    go_wp2
    refine wp_region_held_drew (S:=fun w'=>w'.cell? ⟨a.q,0,none⟩=some (.pointer (some ⟨g.hb,0,none⟩))∧w'.cell? ⟨w.heap.size,2,none⟩=some (.int .i64 ib)∧w'.cell? ⟨w.heap.size,3,none⟩=some (.int .i64 ic)∧w'.cell? ⟨w.heap.size,4,none⟩=some (.int .i64 ii)) (by kernel_rfl) ?_ (fun hHeld0=>?_)
    ·exact ⟨z0.out,z1.out.1,z1.out.2.1,z1.out.2.2⟩
    refine tk (i:=0) (d:=some 7) rfl rfl (by kernel_rfl) (fun _ _ _ h=>h) (by rfl) (by intro _ h;(try dsimp only at h);go_split_ands;go_simp<;>with_reducible rfl) hHeld0 ?_
    try simp only [aS,aN,aT,a0,a1]
    refine tk (i:=1) (d:=some 8) rfl rfl (by kernel_rfl) (fun _ _ _ h=>h) (by rfl) (by intro _ h;(try dsimp only at h);go_split_ands;go_simp<;>with_reducible rfl) hHeld0 ?_
    try simp only [aS,aN,aT,a0,a1]
    refine tk (i:=2) (d:=some 9) rfl rfl (by kernel_rfl) (fun _ _ _ h=>h) (by rfl) (by intro _ h;(try dsimp only at h);go_split_ands;go_simp<;>with_reducible rfl) hHeld0 ?_
    try simp only [aS,aN,aT,a0,a1]
    refine tk (i:=3) (d:=some 10) rfl rfl (by kernel_rfl) (fun _ _ _ h=>h) (by rfl) (by intro _ h;(try dsimp only at h);go_split_ands;go_simp<;>with_reducible rfl) hHeld0 ?_
    try simp only [aS,aN,aT,a0,a1]
    refine tk (i:=4) (d:=some 11) rfl rfl (by kernel_rfl) (fun _ _ _ h=>h) (by rfl) (by intro _ h;(try dsimp only at h);go_split_ands;go_simp<;>with_reducible rfl) hHeld0 ?_
    try simp only [aS,aN,aT,a0,a1]
    refine tk (i:=5) (d:=some 12) rfl rfl (by kernel_rfl) (fun _ _ _ h=>h) (by rfl) (by intro _ h;(try dsimp only at h);go_split_ands;go_simp<;>with_reducible rfl) hHeld0 ?_
    try simp only [aS,aN,aT,a0,a1]
    refine tk (i:=6) (d:=some 13) rfl rfl (by kernel_rfl) (fun _ _ _ h=>h) (by rfl) (by intro _ h;(try dsimp only at h);go_split_ands;go_simp<;>with_reducible rfl) hHeld0 ?_
    try simp only [aS,aN,aT,a0,a1]
    refine tk (i:=7) (d:=some 14) rfl rfl (by kernel_rfl) (fun _ _ _ h=>h) (by rfl) (by intro _ h;(try dsimp only at h);go_split_ands;go_simp<;>with_reducible rfl) hHeld0 ?_
    try simp only [aS,aN,aT,a0,a1]
    refine tk (i:=8) (d:=some 15) rfl rfl (by kernel_rfl) (fun _ _ _ h=>h) (by rfl) (by intro _ h;(try dsimp only at h);go_split_ands;go_simp<;>with_reducible rfl) hHeld0 ?_
    try simp only [aS,aN,aT,a0,a1]
    refine tk (i:=9) (d:=some 16) rfl rfl (by kernel_rfl) (fun _ _ _ h=>h) (by rfl) (by intro _ h;(try dsimp only at h);go_split_ands;go_simp<;>with_reducible rfl) hHeld0 ?_
    try simp only [aS,aN,aT,a0,a1]
    refine tk (i:=10) (d:=some 17) rfl rfl (by kernel_rfl) (fun _ _ _ h=>h) (by rfl) (by intro _ h;(try dsimp only at h);go_split_ands;go_simp<;>with_reducible rfl) hHeld0 ?_
    try simp only [aS,aN,aT,a0,a1]
    refine tk (i:=12) (d:=some 19) rfl rfl (by kernel_rfl) (fun _ _ _ h=>h) (by rfl) (by intro _ h;(try dsimp only at h);go_split_ands;go_simp<;>with_reducible rfl) hHeld0 ?_
    try simp only [aS,aN,aT,a0,a1]
    refine tk (i:=13) (d:=some 20) rfl rfl (by kernel_rfl) (fun _ _ _ h=>h) (by rfl) (by intro _ h;(try dsimp only at h);go_split_ands;go_simp<;>with_reducible rfl) hHeld0 ?_
    try simp only [aS,aN,aT,a0,a1]
    refine tk (i:=14) (d:=some 21) rfl rfl (by kernel_rfl) (fun _ _ _ h=>h) (by rfl) (by intro _ h;(try dsimp only at h);go_split_ands;go_simp<;>with_reducible rfl) hHeld0 ?_
    try simp only [aS,aN,aT,a0,a1]
    refine tk (i:=15) (d:=some 22) rfl rfl (by kernel_rfl) (fun _ _ _ h=>h) (by rfl) (by intro _ h;(try dsimp only at h);go_split_ands;go_simp<;>with_reducible rfl) hHeld0 ?_
    try simp only [aS,aN,aT,a0,a1]
    refine rd1 (i:=11) (by kernel_rfl) rfl fun K hK=>?_
    go_simp
    go_at_call 137
    refine (HR1.out _ (HH.out.bl (HB.out.drew))).mono ?_
    rintro e w1 ⟨rfl,b1⟩
    have da0:=hid (b1.cell hHeld0.1)
    have da1:=hid (b1.cell hHeld0.2.1)
    have da2:=hid (b1.cell hHeld0.2.2.1)
    have da3:=hid (b1.cell hHeld0.2.2.2)
    replace b1:=hid b1
    go_wp2_with fail
    refine hK.out _ _ (⟨da0.out,da1.out,da2.out,da3.out⟩) (fun hHeld1=>?_)
    try simp only [aS,aN,aT,a0,a1]
    refine rd1 (i:=16) (by kernel_rfl) rfl fun K hK=>?_
    go_simp
    go_at_call 137
    refine (HR2.out _ (HH.out.bl (HB.out.drew.trans b1.out))).mono ?_
    rintro e w2 ⟨rfl,b2⟩
    have db0:=hid (b2.cell hHeld1.1)
    have db1:=hid (b2.cell hHeld1.2.1)
    have db2:=hid (b2.cell hHeld1.2.2.1)
    have db3:=hid (b2.cell hHeld1.2.2.2)
    replace b2:=hid b2
    go_wp2_with fail
    refine hK.out _ _ (⟨db0.out,db1.out,db2.out,db3.out⟩) (fun hHeld2=>?_)
    try simp only [aS,aN,aT,a0,a1]
    refine rd1 (i:=17) (by kernel_rfl) rfl fun K hK=>?_
    go_simp
    go_at_call 314
    refine (reckon_yes g.hb k ii _ _ HK.out HR.out _).mono ?_
    rintro e w3 ⟨rfl,b3⟩
    have dc0:=hid (b3.cell hHeld2.1)
    have dc1:=hid (b3.cell hHeld2.2.1)
    have dc2:=hid (b3.cell hHeld2.2.2.1)
    have dc3:=hid (b3.cell hHeld2.2.2.2)
    replace b3:=hid b3
    have bb:=hid (((HB.out.drew.trans b1.out).trans b2.out).trans b3.out)
    have q1:=bl_blk ((b1.out.trans b2.out).trans b3.out) HL1.out
    have c4:=c0_of q1
    have c5:=c1_of q1
    have fz:=free_blk q1
    replace q1:=hid q1
    go_wp2_with fail
    refine hK.out _ _ (⟨dc0.out,dc1.out,dc2.out,dc3.out⟩) (fun hHeld3=>?_)
    try simp only [aS,aN,aT,a0,a1]
    refine rd1 (i:=18) (by kernel_rfl) rfl fun K hK=>?_
    go_wp2_with fail
    refine hK.out _ _ (⟨set2_cellD dc0.out (Ne.symm hn1),set2_cellD dc1.out hn2,set2_cellD dc2.out hn2,set2_cellD dc3.out hn2⟩) (fun hHeld4=>?_)
    try simp only [aS,aN,aT,a0,a1]
    refine wpAnyH_done (by kernel_rfl) ?_ _
    go_wp2
    refine bodyPost_ret (results_cell_row rfl _ _ (w.heap.size+1) _ _ _ _ rfl (set_two q1.out) Tryz.underlying115 rfl info_mv) rfl ?_
    exact HE.out _ (HH.out.bl (bl_two bb.out (by omega) _ _))
   | false =>
    have eh:h.reckH (c.rd ib) (c.rd ic) k ii=h.raise 2:=by unfold Hp.reckH;rw [if_pos hm,if_neg (by rw [hr];decide)]
    rw [eh]
    obtain ⟨ch,hch⟩:=raiseE_pan h
    have HE:Hid (∀w',RX 1 X wx w0 g w' (h.raise 2) qs a c→ValQ X wx w0 g qs a c (h.raise 2) (h.reckV (c.rd ib) (c.rd ic) k ii) (.panicked ch) w'):=fun w' H=>hch▸val_raise hs rfl H.rs
    have HN:Hid (∀w',RX 1 X wx w0 g w' h qs a c→Calls Tryz.prog 314 #[.pointer (some ⟨g.hb,0,none⟩),.int .i64 k,.int .i64 ii,mvV (c.rd ib),mvV (c.rd ic)] w' fun e w2=>e=.panicked ch∧RX 1 X wx w0 g w2 (h.raise 2) qs a c):=fun w' H=>hch▸reckon_no 1 X wx w0 g h qs a c k ii _ _ hk hr w' H hob ho
    generalize h.reckV (c.rd ib) (c.rd ic) k ii=V at *
    clear H hs hb hc hk h2 hob e1 e2 hm i1 i2 hr eh hkk hch
    go_enter Tryz.func299,Tryz.ntmps299
    go_wp2
    refine wp_region_held_drew (S:=fun w'=>w'.cell? ⟨a.q,0,none⟩=some (.pointer (some ⟨g.hb,0,none⟩))∧w'.cell? ⟨w.heap.size,2,none⟩=some (.int .i64 ib)∧w'.cell? ⟨w.heap.size,3,none⟩=some (.int .i64 ic)∧w'.cell? ⟨w.heap.size,4,none⟩=some (.int .i64 ii)) (by kernel_rfl) ?_ (fun hHeld0=>?_)
    ·exact ⟨z0.out,z1.out.1,z1.out.2.1,z1.out.2.2⟩
    refine tk (i:=0) (d:=some 7) rfl rfl (by kernel_rfl) (fun _ _ _ h=>h) (by rfl) (by intro _ h;(try dsimp only at h);go_split_ands;go_simp<;>with_reducible rfl) hHeld0 ?_
    try simp only [aS,aN,aT,a0,a1]
    refine tk (i:=1) (d:=some 8) rfl rfl (by kernel_rfl) (fun _ _ _ h=>h) (by rfl) (by intro _ h;(try dsimp only at h);go_split_ands;go_simp<;>with_reducible rfl) hHeld0 ?_
    try simp only [aS,aN,aT,a0,a1]
    refine tk (i:=2) (d:=some 9) rfl rfl (by kernel_rfl) (fun _ _ _ h=>h) (by rfl) (by intro _ h;(try dsimp only at h);go_split_ands;go_simp<;>with_reducible rfl) hHeld0 ?_
    try simp only [aS,aN,aT,a0,a1]
    refine tk (i:=3) (d:=some 10) rfl rfl (by kernel_rfl) (fun _ _ _ h=>h) (by rfl) (by intro _ h;(try dsimp only at h);go_split_ands;go_simp<;>with_reducible rfl) hHeld0 ?_
    try simp only [aS,aN,aT,a0,a1]
    refine tk (i:=4) (d:=some 11) rfl rfl (by kernel_rfl) (fun _ _ _ h=>h) (by rfl) (by intro _ h;(try dsimp only at h);go_split_ands;go_simp<;>with_reducible rfl) hHeld0 ?_
    try simp only [aS,aN,aT,a0,a1]
    refine tk (i:=5) (d:=some 12) rfl rfl (by kernel_rfl) (fun _ _ _ h=>h) (by rfl) (by intro _ h;(try dsimp only at h);go_split_ands;go_simp<;>with_reducible rfl) hHeld0 ?_
    try simp only [aS,aN,aT,a0,a1]
    refine tk (i:=6) (d:=some 13) rfl rfl (by kernel_rfl) (fun _ _ _ h=>h) (by rfl) (by intro _ h;(try dsimp only at h);go_split_ands;go_simp<;>with_reducible rfl) hHeld0 ?_
    try simp only [aS,aN,aT,a0,a1]
    refine tk (i:=7) (d:=some 14) rfl rfl (by kernel_rfl) (fun _ _ _ h=>h) (by rfl) (by intro _ h;(try dsimp only at h);go_split_ands;go_simp<;>with_reducible rfl) hHeld0 ?_
    try simp only [aS,aN,aT,a0,a1]
    refine tk (i:=8) (d:=some 15) rfl rfl (by kernel_rfl) (fun _ _ _ h=>h) (by rfl) (by intro _ h;(try dsimp only at h);go_split_ands;go_simp<;>with_reducible rfl) hHeld0 ?_
    try simp only [aS,aN,aT,a0,a1]
    refine tk (i:=9) (d:=some 16) rfl rfl (by kernel_rfl) (fun _ _ _ h=>h) (by rfl) (by intro _ h;(try dsimp only at h);go_split_ands;go_simp<;>with_reducible rfl) hHeld0 ?_
    try simp only [aS,aN,aT,a0,a1]
    refine tk (i:=10) (d:=some 17) rfl rfl (by kernel_rfl) (fun _ _ _ h=>h) (by rfl) (by intro _ h;(try dsimp only at h);go_split_ands;go_simp<;>with_reducible rfl) hHeld0 ?_
    try simp only [aS,aN,aT,a0,a1]
    refine tk (i:=12) (d:=some 19) rfl rfl (by kernel_rfl) (fun _ _ _ h=>h) (by rfl) (by intro _ h;(try dsimp only at h);go_split_ands;go_simp<;>with_reducible rfl) hHeld0 ?_
    try simp only [aS,aN,aT,a0,a1]
    refine tk (i:=13) (d:=some 20) rfl rfl (by kernel_rfl) (fun _ _ _ h=>h) (by rfl) (by intro _ h;(try dsimp only at h);go_split_ands;go_simp<;>with_reducible rfl) hHeld0 ?_
    try simp only [aS,aN,aT,a0,a1]
    refine tk (i:=14) (d:=some 21) rfl rfl (by kernel_rfl) (fun _ _ _ h=>h) (by rfl) (by intro _ h;(try dsimp only at h);go_split_ands;go_simp<;>with_reducible rfl) hHeld0 ?_
    try simp only [aS,aN,aT,a0,a1]
    refine tk (i:=15) (d:=some 22) rfl rfl (by kernel_rfl) (fun _ _ _ h=>h) (by rfl) (by intro _ h;(try dsimp only at h);go_split_ands;go_simp<;>with_reducible rfl) hHeld0 ?_
    try simp only [aS,aN,aT,a0,a1]
    refine rd1 (i:=11) (by kernel_rfl) rfl fun K hK=>?_
    go_simp
    go_at_call 137
    refine (HR1.out _ (HH.out.bl (HB.out.drew))).mono ?_
    rintro e w1 ⟨rfl,b1⟩
    have da0:=hid (b1.cell hHeld0.1)
    have da1:=hid (b1.cell hHeld0.2.1)
    have da2:=hid (b1.cell hHeld0.2.2.1)
    have da3:=hid (b1.cell hHeld0.2.2.2)
    replace b1:=hid b1
    go_wp2_with fail
    refine hK.out _ _ (⟨da0.out,da1.out,da2.out,da3.out⟩) (fun hHeld1=>?_)
    try simp only [aS,aN,aT,a0,a1]
    refine rd1 (i:=16) (by kernel_rfl) rfl fun K hK=>?_
    go_simp
    go_at_call 137
    refine (HR2.out _ (HH.out.bl (HB.out.drew.trans b1.out))).mono ?_
    rintro e w2 ⟨rfl,b2⟩
    have db0:=hid (b2.cell hHeld1.1)
    have db1:=hid (b2.cell hHeld1.2.1)
    have db2:=hid (b2.cell hHeld1.2.2.1)
    have db3:=hid (b2.cell hHeld1.2.2.2)
    replace b2:=hid b2
    go_wp2_with fail
    refine hK.out _ _ (⟨db0.out,db1.out,db2.out,db3.out⟩) (fun hHeld2=>?_)
    try simp only [aS,aN,aT,a0,a1]
    refine rd1 (i:=17) (by kernel_rfl) rfl fun K hK=>?_
    go_simp
    go_at_call 314
    refine (HN.out _ (HH.out.bl ((HB.out.drew.trans b1.out).trans b2.out))).mono ?_
    rintro e w3 ⟨rfl,H3⟩
    exact ⟨rfl,HE.out _ H3⟩
  ·have hm:ofBoth (c.rd ib) (c.rd ic) k=false:=by unfold ofBoth;simp [e2]
   have eh:h.reckH (c.rd ib) (c.rd ic) k ii=h.fin 6:=by unfold Hp.reckH Hp.mustB;rw [hm,Bool.false_and,if_neg (by decide),must_no rfl]
   rw [eh]
   generalize h.reckV (c.rd ib) (c.rd ic) k ii=V
   have HR1:Hid (∀w',RX 1 X wx w0 g w' h qs a c→Calls Tryz.prog 137 #[.pointer (some ⟨a.q,0,none⟩),.int .i64 ib,.int .i64 k] w' fun e w2=>e=.returned (mvV (im (c.rd ib)))∧Bl w' w2):=fun w' H=>rd_yes 1 X wx w0 g h qs a c ib k w' H hb hkk (fun x=>(h2 x).1) e1
   have HR2:Hid (∀w',RX 1 X wx w0 g w' h qs a c→Calls Tryz.prog 137 #[.pointer (some ⟨a.q,0,none⟩),.int .i64 ic,.int .i64 k] w' fun e w2=>e=stopE 6 0 0∧Bl w' w2):=fun w' H=>rd_no 1 X wx w0 g h qs a c ic k w' H hc hkk (fun x=>(h2 x).2) e2
   clear H hs hb hc hk h2 hob e1 e2 hm eh hkk
   go_enter Tryz.func299,Tryz.ntmps299
   go_wp2
   refine wp_region_held_drew (S:=fun w'=>w'.cell? ⟨a.q,0,none⟩=some (.pointer (some ⟨g.hb,0,none⟩))∧w'.cell? ⟨w.heap.size,2,none⟩=some (.int .i64 ib)∧w'.cell? ⟨w.heap.size,3,none⟩=some (.int .i64 ic)∧w'.cell? ⟨w.heap.size,4,none⟩=some (.int .i64 ii)) (by kernel_rfl) ?_ (fun hHeld0=>?_)
   ·exact ⟨z0.out,z1.out.1,z1.out.2.1,z1.out.2.2⟩
   refine tk (i:=0) (d:=some 7) rfl rfl (by kernel_rfl) (fun _ _ _ h=>h) (by rfl) (by intro _ h;(try dsimp only at h);go_split_ands;go_simp<;>with_reducible rfl) hHeld0 ?_
   try simp only [aS,aN,aT,a0,a1]
   refine tk (i:=1) (d:=some 8) rfl rfl (by kernel_rfl) (fun _ _ _ h=>h) (by rfl) (by intro _ h;(try dsimp only at h);go_split_ands;go_simp<;>with_reducible rfl) hHeld0 ?_
   try simp only [aS,aN,aT,a0,a1]
   refine tk (i:=2) (d:=some 9) rfl rfl (by kernel_rfl) (fun _ _ _ h=>h) (by rfl) (by intro _ h;(try dsimp only at h);go_split_ands;go_simp<;>with_reducible rfl) hHeld0 ?_
   try simp only [aS,aN,aT,a0,a1]
   refine tk (i:=3) (d:=some 10) rfl rfl (by kernel_rfl) (fun _ _ _ h=>h) (by rfl) (by intro _ h;(try dsimp only at h);go_split_ands;go_simp<;>with_reducible rfl) hHeld0 ?_
   try simp only [aS,aN,aT,a0,a1]
   refine tk (i:=4) (d:=some 11) rfl rfl (by kernel_rfl) (fun _ _ _ h=>h) (by rfl) (by intro _ h;(try dsimp only at h);go_split_ands;go_simp<;>with_reducible rfl) hHeld0 ?_
   try simp only [aS,aN,aT,a0,a1]
   refine tk (i:=5) (d:=some 12) rfl rfl (by kernel_rfl) (fun _ _ _ h=>h) (by rfl) (by intro _ h;(try dsimp only at h);go_split_ands;go_simp<;>with_reducible rfl) hHeld0 ?_
   try simp only [aS,aN,aT,a0,a1]
   refine tk (i:=6) (d:=some 13) rfl rfl (by kernel_rfl) (fun _ _ _ h=>h) (by rfl) (by intro _ h;(try dsimp only at h);go_split_ands;go_simp<;>with_reducible rfl) hHeld0 ?_
   try simp only [aS,aN,aT,a0,a1]
   refine tk (i:=7) (d:=some 14) rfl rfl (by kernel_rfl) (fun _ _ _ h=>h) (by rfl) (by intro _ h;(try dsimp only at h);go_split_ands;go_simp<;>with_reducible rfl) hHeld0 ?_
   try simp only [aS,aN,aT,a0,a1]
   refine tk (i:=8) (d:=some 15) rfl rfl (by kernel_rfl) (fun _ _ _ h=>h) (by rfl) (by intro _ h;(try dsimp only at h);go_split_ands;go_simp<;>with_reducible rfl) hHeld0 ?_
   try simp only [aS,aN,aT,a0,a1]
   refine tk (i:=9) (d:=some 16) rfl rfl (by kernel_rfl) (fun _ _ _ h=>h) (by rfl) (by intro _ h;(try dsimp only at h);go_split_ands;go_simp<;>with_reducible rfl) hHeld0 ?_
   try simp only [aS,aN,aT,a0,a1]
   refine tk (i:=10) (d:=some 17) rfl rfl (by kernel_rfl) (fun _ _ _ h=>h) (by rfl) (by intro _ h;(try dsimp only at h);go_split_ands;go_simp<;>with_reducible rfl) hHeld0 ?_
   try simp only [aS,aN,aT,a0,a1]
   refine tk (i:=12) (d:=some 19) rfl rfl (by kernel_rfl) (fun _ _ _ h=>h) (by rfl) (by intro _ h;(try dsimp only at h);go_split_ands;go_simp<;>with_reducible rfl) hHeld0 ?_
   try simp only [aS,aN,aT,a0,a1]
   refine tk (i:=13) (d:=some 20) rfl rfl (by kernel_rfl) (fun _ _ _ h=>h) (by rfl) (by intro _ h;(try dsimp only at h);go_split_ands;go_simp<;>with_reducible rfl) hHeld0 ?_
   try simp only [aS,aN,aT,a0,a1]
   refine tk (i:=14) (d:=some 21) rfl rfl (by kernel_rfl) (fun _ _ _ h=>h) (by rfl) (by intro _ h;(try dsimp only at h);go_split_ands;go_simp<;>with_reducible rfl) hHeld0 ?_
   try simp only [aS,aN,aT,a0,a1]
   refine tk (i:=15) (d:=some 22) rfl rfl (by kernel_rfl) (fun _ _ _ h=>h) (by rfl) (by intro _ h;(try dsimp only at h);go_split_ands;go_simp<;>with_reducible rfl) hHeld0 ?_
   try simp only [aS,aN,aT,a0,a1]
   refine rd1 (i:=11) (by kernel_rfl) rfl fun K hK=>?_
   go_simp
   go_at_call 137
   refine (HR1.out _ (HH.out.bl (HB.out.drew))).mono ?_
   rintro e w1 ⟨rfl,b1⟩
   have da0:=hid (b1.cell hHeld0.1)
   have da1:=hid (b1.cell hHeld0.2.1)
   have da2:=hid (b1.cell hHeld0.2.2.1)
   have da3:=hid (b1.cell hHeld0.2.2.2)
   replace b1:=hid b1
   go_wp2_with fail
   refine hK.out _ _ (⟨da0.out,da1.out,da2.out,da3.out⟩) (fun hHeld1=>?_)
   try simp only [aS,aN,aT,a0,a1]
   refine rd1 (i:=16) (by kernel_rfl) rfl fun K hK=>?_
   go_simp
   go_at_call 137
   refine (HR2.out _ (HH.out.bl (HB.out.drew.trans b1.out))).mono ?_
   rintro e w2 ⟨rfl,b2⟩
   exact ⟨rfl,val_fin (stops_not HS.out).1 rfl (HH.out.bl ((HB.out.drew.trans b1.out).trans b2)).rs⟩
 ·have hm:ofBoth (c.rd ib) (c.rd ic) k=false:=by unfold ofBoth;simp [e1]
  have eh:h.reckH (c.rd ib) (c.rd ic) k ii=h.fin 6:=by unfold Hp.reckH Hp.mustB;rw [hm,Bool.false_and,if_neg (by decide),must_no rfl]
  rw [eh]
  generalize h.reckV (c.rd ib) (c.rd ic) k ii=V
  have HR1:Hid (∀w',RX 1 X wx w0 g w' h qs a c→Calls Tryz.prog 137 #[.pointer (some ⟨a.q,0,none⟩),.int .i64 ib,.int .i64 k] w' fun e w2=>e=stopE 6 0 0∧Bl w' w2):=fun w' H=>rd_no 1 X wx w0 g h qs a c ib k w' H hb hkk (fun x=>(h2 x).1) e1
  clear H hs hb hc hk h2 hob e1 hm eh hkk
  go_enter Tryz.func299,Tryz.ntmps299
  go_wp2
  refine wp_region_held_drew (S:=fun w'=>w'.cell? ⟨a.q,0,none⟩=some (.pointer (some ⟨g.hb,0,none⟩))∧w'.cell? ⟨w.heap.size,2,none⟩=some (.int .i64 ib)∧w'.cell? ⟨w.heap.size,3,none⟩=some (.int .i64 ic)∧w'.cell? ⟨w.heap.size,4,none⟩=some (.int .i64 ii)) (by kernel_rfl) ?_ (fun hHeld0=>?_)
  ·exact ⟨z0.out,z1.out.1,z1.out.2.1,z1.out.2.2⟩
  refine tk (i:=0) (d:=some 7) rfl rfl (by kernel_rfl) (fun _ _ _ h=>h) (by rfl) (by intro _ h;(try dsimp only at h);go_split_ands;go_simp<;>with_reducible rfl) hHeld0 ?_
  try simp only [aS,aN,aT,a0,a1]
  refine tk (i:=1) (d:=some 8) rfl rfl (by kernel_rfl) (fun _ _ _ h=>h) (by rfl) (by intro _ h;(try dsimp only at h);go_split_ands;go_simp<;>with_reducible rfl) hHeld0 ?_
  try simp only [aS,aN,aT,a0,a1]
  refine tk (i:=2) (d:=some 9) rfl rfl (by kernel_rfl) (fun _ _ _ h=>h) (by rfl) (by intro _ h;(try dsimp only at h);go_split_ands;go_simp<;>with_reducible rfl) hHeld0 ?_
  try simp only [aS,aN,aT,a0,a1]
  refine tk (i:=3) (d:=some 10) rfl rfl (by kernel_rfl) (fun _ _ _ h=>h) (by rfl) (by intro _ h;(try dsimp only at h);go_split_ands;go_simp<;>with_reducible rfl) hHeld0 ?_
  try simp only [aS,aN,aT,a0,a1]
  refine tk (i:=4) (d:=some 11) rfl rfl (by kernel_rfl) (fun _ _ _ h=>h) (by rfl) (by intro _ h;(try dsimp only at h);go_split_ands;go_simp<;>with_reducible rfl) hHeld0 ?_
  try simp only [aS,aN,aT,a0,a1]
  refine tk (i:=5) (d:=some 12) rfl rfl (by kernel_rfl) (fun _ _ _ h=>h) (by rfl) (by intro _ h;(try dsimp only at h);go_split_ands;go_simp<;>with_reducible rfl) hHeld0 ?_
  try simp only [aS,aN,aT,a0,a1]
  refine tk (i:=6) (d:=some 13) rfl rfl (by kernel_rfl) (fun _ _ _ h=>h) (by rfl) (by intro _ h;(try dsimp only at h);go_split_ands;go_simp<;>with_reducible rfl) hHeld0 ?_
  try simp only [aS,aN,aT,a0,a1]
  refine tk (i:=7) (d:=some 14) rfl rfl (by kernel_rfl) (fun _ _ _ h=>h) (by rfl) (by intro _ h;(try dsimp only at h);go_split_ands;go_simp<;>with_reducible rfl) hHeld0 ?_
  try simp only [aS,aN,aT,a0,a1]
  refine tk (i:=8) (d:=some 15) rfl rfl (by kernel_rfl) (fun _ _ _ h=>h) (by rfl) (by intro _ h;(try dsimp only at h);go_split_ands;go_simp<;>with_reducible rfl) hHeld0 ?_
  try simp only [aS,aN,aT,a0,a1]
  refine tk (i:=9) (d:=some 16) rfl rfl (by kernel_rfl) (fun _ _ _ h=>h) (by rfl) (by intro _ h;(try dsimp only at h);go_split_ands;go_simp<;>with_reducible rfl) hHeld0 ?_
  try simp only [aS,aN,aT,a0,a1]
  refine tk (i:=10) (d:=some 17) rfl rfl (by kernel_rfl) (fun _ _ _ h=>h) (by rfl) (by intro _ h;(try dsimp only at h);go_split_ands;go_simp<;>with_reducible rfl) hHeld0 ?_
  try simp only [aS,aN,aT,a0,a1]
  refine tk (i:=12) (d:=some 19) rfl rfl (by kernel_rfl) (fun _ _ _ h=>h) (by rfl) (by intro _ h;(try dsimp only at h);go_split_ands;go_simp<;>with_reducible rfl) hHeld0 ?_
  try simp only [aS,aN,aT,a0,a1]
  refine tk (i:=13) (d:=some 20) rfl rfl (by kernel_rfl) (fun _ _ _ h=>h) (by rfl) (by intro _ h;(try dsimp only at h);go_split_ands;go_simp<;>with_reducible rfl) hHeld0 ?_
  try simp only [aS,aN,aT,a0,a1]
  refine tk (i:=14) (d:=some 21) rfl rfl (by kernel_rfl) (fun _ _ _ h=>h) (by rfl) (by intro _ h;(try dsimp only at h);go_split_ands;go_simp<;>with_reducible rfl) hHeld0 ?_
  try simp only [aS,aN,aT,a0,a1]
  refine tk (i:=15) (d:=some 22) rfl rfl (by kernel_rfl) (fun _ _ _ h=>h) (by rfl) (by intro _ h;(try dsimp only at h);go_split_ands;go_simp<;>with_reducible rfl) hHeld0 ?_
  try simp only [aS,aN,aT,a0,a1]
  refine rd1 (i:=11) (by kernel_rfl) rfl fun K hK=>?_
  go_simp
  go_at_call 137
  refine (HR1.out _ (HH.out.bl (HB.out.drew))).mono ?_
  rintro e w1 ⟨rfl,b1⟩
  exact ⟨rfl,val_fin (stops_not HS.out).1 rfl (HH.out.bl (HB.out.drew.trans b1)).rs⟩
end
end Go.Proofs.YtgiiapenmjollabGreat
