import Derived.Test.YtgiiapenmjollabGreatRsao
namespace Go.Proofs.YtgiiapenmjollabGreat
set_option linter.all false
set_option maxHeartbeats 40000000
set_option maxRecDepth 100000
open Go.RowKit
theorem qdoes_op15 (w0:World) (g:Ad) (p:Nat) (h:Hp) (a:Ca) (c:Cal) (ia ib ic ii:Int) (Q:Option Addr) (nl q:Nat) (w:World) (hH:Hs w0 g w p h) (hC:CalAt w0 w a c) (C:Cq w0 g h) (hp:0≤c.pc∧c.pc≤100000) (hr:0≤ib∧ib<c.locs.length) (hra:0≤ia∧ia<c.locs.length) (hfl:0≤ic∧ic<h.file.classes.length∧0≤ii∧ii<(nth cl0 h.file.classes ic.toNat).fields.length) (h3:((c.rd ib).kind=3→(c.rd ib).n<h.objs.length)∧((c.rd ia).kind=3→(c.rd ia).n<h.objs.length)) (Hf:Hp) (hY:((h.rdH c ib 3).rdH c ia (fieldT h.file.classes ic ii).kind).over=true→Hf=((h.rdH c ib 3).rdH c ia (fieldT h.file.classes ic ii).kind)) (hN:((h.rdH c ib 3).rdH c ia (fieldT h.file.classes ic ii).kind).over=false→Hf=((h.rdH c ib 3).rdH c ia (fieldT h.file.classes ic ii).kind).put (c.rd ib) ic ii (c.rd ia)) :
  Calls Tryz.prog 89 #[.pointer (some ⟨p,0,none⟩),.pointer (some ⟨a.q,0,none⟩),.agg #[.int .i64 15,.int .i64 ia,.int .i64 ib,.int .i64 ic,.int .i64 ii,.slice Q nl q]] w fun e w'=>e=.returned (.int .i64 (c.pc+1))∧Hs w0 g w' p (Hf)∧Fr w0.heap.size g.T w w':=by
 obtain ⟨HF,HH,HA,HI,HC,d13,hb,hq,hl⟩:=dqpre 15 ia ib ic ii Q nl q hH hC C
 clear hH hC C
 obtain ⟨nc,rfl⟩:∃nc:Nat,ic=nc:=⟨ic.toNat,by omega⟩
 obtain ⟨nf,rfl⟩:∃nf:Nat,ii=nf:=⟨ii.toNat,by omega⟩
 have hft:fieldT h.file.classes (nc:Int) (nf:Int)=nth ty0 (nth cl0 h.file.classes nc).fields nf:=by unfold fieldT;rw [Int.toNat_natCast,Int.toNat_natCast]
 rw [Int.toNat_natCast] at hfl
 rw [hft] at hY hN
 have hc:nc<h.file.classes.length:=by omega
 have hf:nf<(nth cl0 h.file.classes nc).fields.length:=by omega
 obtain ⟨b,off,F,fo,uc,hgA,y0,hcm,hfm,y1,-⟩:=field_cells HC.out.cw.cls hc hf
 unfold maxLen at hcm hfm
 have hc0:(0:Int)≤(nc:Int):=by omega
 have hc1:(nc:Int)<(h.file.classes.length:Int):=by omega
 have hf0:(0:Int)≤(nf:Int):=by omega
 have hf1:(nf:Int)<((nth cl0 h.file.classes nc).fields.length:Int):=by omega
 generalize nth ty0 (nth cl0 h.file.classes nc).fields nf=t at *
 have T8:Hid (∀w' h',IBox w' w.heap.size 15 ia ib (nc:Int) (nf:Int) Q nl q→Hs w0 g w' p h'→h'.file=h.file→(fun w'=>w'.cell? ⟨w.heap.size,1,none⟩=some (.int .i64 ia)∧w'.cell? ⟨w.heap.size,3,none⟩=some (.int .i64 (nc:Int))∧w'.cell? ⟨w.heap.size,4,none⟩=some (.int .i64 (nf:Int))∧w'.cell? ⟨p,0,none⟩=some (.slice (some ⟨b,off,none⟩) h.file.classes.length g.a)∧w'.cell? ⟨b,off+nc*2+1,none⟩=some (.slice (some ⟨F,fo,none⟩) (nth cl0 h.file.classes nc).fields.length uc)∧w'.cell? ⟨F,fo+nf*2,none⟩=some (.int .i64 t.kind)) w'):=fun w' h' I H e=>⟨I.cs.2.1,I.cs.2.2.2.1,I.cs.2.2.2.2.1,by rw [H.c0 e,hgA],H.bl.cell y0,H.bl.cell y1⟩
 clear y0 y1 hft
 have HY:=hid hY
 have HNO:=hid hN
 clear hY hN
 go_enter Tryz.func89,Tryz.ntmps89
 go_wp2_with (go_at_call 86;refine (yread_any w0 g p h a c ib 3 _ HH.out HA.out HC.out hr).mono ?_;rintro e w1 ⟨rfl,H1,F1⟩;have hb1:=H1.base;have I1:=HI.out.keep HC.out.k F1;obtain ⟨i0,i1,i2,i3,i4,i5⟩:=I1.cs;have hw1:=lt_some I1.blk;have I2:Hid (IBox (w1.alloc (vaO (c.rd ib))) w.heap.size 15 ia ib (nc:Int) (nf:Int) Q nl q):=⟨(Below.heap_alloc _ _ _ hw1).trans I1.blk⟩;replace I1:=hid I1;obtain ⟨j0,j1,j2,j3,j4,j5⟩:=I2.out.cs;have U2:Hid (VaBox (w1.alloc (vaO (c.rd ib))) w1.heap.size (c.rd ib)):=⟨blk_new _ _ _⟩;have u0:=U2.out.c0;have u1:=U2.out.c1;have H2:=hid (H1.cf ((Cf.refl _ _ _).alloc hb1 (vaO (c.rd ib))));have F2:=hid ((HF.out.trans F1).alloc hb1 (vaO (c.rd ib)));have A0:Hid (CalAt w0 (w1.alloc (vaO (c.rd ib))) a c):=(CalAt.fr HA.out HC.out.k HC.out.n7 (F1.alloc hb1 (vaO (c.rd ib))));have A2:Hid (CalAt w0 (w1.alloc (vaO (c.rd ib))).drew a c):=(CalAt.fr HA.out HC.out.k HC.out.n7 ((F1.alloc hb1 (vaO (c.rd ib))).drewN 1));clear H1 F1)
 have z2:=hid (T8.out _ _ I2.out H2.out (rdH_file h c ib 3))
 refine wp_region_held_drew (S:=fun w'=>w'.cell? ⟨w.heap.size,1,none⟩=some (.int .i64 ia)∧w'.cell? ⟨w.heap.size,3,none⟩=some (.int .i64 (nc:Int))∧w'.cell? ⟨w.heap.size,4,none⟩=some (.int .i64 (nf:Int))∧w'.cell? ⟨p,0,none⟩=some (.slice (some ⟨b,off,none⟩) h.file.classes.length g.a)∧w'.cell? ⟨b,off+nc*2+1,none⟩=some (.slice (some ⟨F,fo,none⟩) (nth cl0 h.file.classes nc).fields.length uc)∧w'.cell? ⟨F,fo+nf*2,none⟩=some (.int .i64 t.kind)) (by kernel_rfl) ?_ (fun hHeld0=>?_)
 ·exact z2.out
 iterate 20 (refine tn rfl (by kernel_rfl) (fun _ _ _ h=>h) (by intro _ h;go_split_ands;go_simp<;>with_reducible rfl) hHeld0 ?_;try simp only [aS,aN,aT,a0,a1])
 refine wpAnyH_ready (rs:=[20,21]) (by kernel_rfl) (by simp) ?_
 refine AllReadyH.cons rfl (fun K hK=>?_) (AllReadyH.cons rfl (fun K hK=>?_) (AllReadyH.nil))
 ·go_simp
  go_at_call 86
  refine (yread_any w0 g p (h.rdH c ib 3) a c ia t.kind _ (H2.out.drewN 1) A2.out (HC.out.same (rdH_file h c ib 3)) hra).mono ?_
  rintro e w2 ⟨rfl,H3,F3⟩
  have I3:=hid ((IBox.mk I2.out.blk:IBox ((w1.alloc (vaO (c.rd ib))).drew) _ _ _ _ _ _ _ _ _).keep HC.out.k F3)
  have U3:=hid ((U2.out.drewN 1).keep HC.out.k F3)
  have ef:((h.rdH c ib 3).rdH c ia t.kind).file=h.file:=(rdH_file _ _ _ _).trans (rdH_file _ _ _ _)
  have d8:=hid (T8.out _ _ I3.out H3 ef)
  have hb2:=H3.base
  have k1:=lt_some I3.out.blk
  have k2:=lt_some U3.out.blk
  have H4:=hid (H3.cf ((Cf.refl _ _ _).alloc hb2 vzO))
  have F4:=hid (((F2.out.drewN 1).trans F3).alloc hb2 vzO)
  have Z4:Hid (VaBox (w2.alloc vzO) w2.heap.size va0):=VaBox.new w2 va0
  have I4:Hid (IBox (w2.alloc vzO) w.heap.size 15 ia ib (nc:Int) (nf:Int) Q nl q):=⟨(Below.heap_alloc _ _ _ k1).trans I3.out.blk⟩
  have U4:Hid (VaBox (w2.alloc vzO) w1.heap.size (c.rd ib)):=⟨(Below.heap_alloc _ _ _ k2).trans U3.out.blk⟩
  have d9:=hid (T8.out _ _ I4.out H4.out ef)
  have H5:Hid (Hs w0 g (w2.alloc (vaO (c.rd ia))) p ((h.rdH c ib 3).rdH c ia t.kind)):=H3.cf ((Cf.refl _ _ _).alloc hb2 _)
  have F5:Hid (Fr w0.heap.size g.T w (w2.alloc (vaO (c.rd ia)))):=((F2.out.drewN 1).trans F3).alloc hb2 _
  have V5:Hid (VaBox (w2.alloc (vaO (c.rd ia))) w2.heap.size (c.rd ia)):=VaBox.new w2 (c.rd ia)
  have I5:Hid (IBox (w2.alloc (vaO (c.rd ia))) w.heap.size 15 ia ib (nc:Int) (nf:Int) Q nl q):=⟨(Below.heap_alloc _ _ _ k1).trans I3.out.blk⟩
  have U5:Hid (VaBox (w2.alloc (vaO (c.rd ia))) w1.heap.size (c.rd ib)):=⟨(Below.heap_alloc _ _ _ k2).trans U3.out.blk⟩
  have d10:=hid (T8.out _ _ I5.out H5.out ef)
  have s0:=Z4.out.c0
  have s1:=Z4.out.c1
  have sz:=Z4.out.fr
  clear H3 F3
  go_wp2_with fail
  refine hK.out _ _ (d8.out) (fun hHeld1=>?_)
  try simp only [aS,aN,aT,a0,a1]
  refine rd1 (i:=21) (by kernel_rfl) rfl fun K hK=>?_
  go_wp2_with fail
  refine hK.out _ _ (d9.out) (fun hHeld2=>?_)
  try simp only [aS,aN,aT,a0,a1]
  refine rd1 (i:=22) (by kernel_rfl) rfl fun K hK=>?_
  go_simp
  refine hK.out _ _ (d10.out) (fun hHeld3=>?_)
  try simp only [aS,aN,aT,a0,a1]
  refine wpAnyH_done (by kernel_rfl) ?_ _
  cases hov:((h.rdH c ib 3).rdH c ia t.kind).over
  ·have o12:(w2.alloc (vaO (c.rd ia))).cell? ⟨p,12,none⟩=some (.bool false):=(by obtain ⟨vo,vx,hv,X⟩:=H5.out;rw [X.cells.c12,hov])
   have T9:Hid (∀w',VaBox w' w1.heap.size (c.rd ib)→IBox w' w.heap.size 15 ia ib (nc:Int) (nf:Int) Q nl q→VaBox w' w2.heap.size (c.rd ia)→(fun w'=>w'.cell? ⟨w1.heap.size,0,none⟩=some (.int .i64 (c.rd ib).kind)∧w'.cell? ⟨w1.heap.size,1,none⟩=some (.int .i64 (c.rd ib).n)∧w'.cell? ⟨w.heap.size,3,none⟩=some (.int .i64 (nc:Int))∧w'.cell? ⟨w.heap.size,4,none⟩=some (.int .i64 (nf:Int))∧w'.cell? ⟨w2.heap.size,0,none⟩=some (.int .i64 (c.rd ia).kind)∧w'.cell? ⟨w2.heap.size,1,none⟩=some (.int .i64 (c.rd ia).n)) w'):=fun w' U I V=>⟨U.c0,U.c1,I.cs.2.2.2.1,I.cs.2.2.2.2.1,V.c0,V.c1⟩
   have z5:=hid (T9.out _ U5.out I5.out V5.out)
   go_wp2
   refine wp_region_held_drew (S:=fun w'=>w'.cell? ⟨w1.heap.size,0,none⟩=some (.int .i64 (c.rd ib).kind)∧w'.cell? ⟨w1.heap.size,1,none⟩=some (.int .i64 (c.rd ib).n)∧w'.cell? ⟨w.heap.size,3,none⟩=some (.int .i64 (nc:Int))∧w'.cell? ⟨w.heap.size,4,none⟩=some (.int .i64 (nf:Int))∧w'.cell? ⟨w2.heap.size,0,none⟩=some (.int .i64 (c.rd ia).kind)∧w'.cell? ⟨w2.heap.size,1,none⟩=some (.int .i64 (c.rd ia).n)) (by kernel_rfl) ?_ (fun hHeld0=>?_)
   ·exact z5.out
   iterate 9 (refine tn rfl (by kernel_rfl) (fun _ _ _ h=>h) (by intro _ h;go_split_ands;go_simp<;>with_reducible rfl) hHeld0 ?_;try simp only [aS,aN,aT,a0,a1])
   refine rd1 (i:=9) (by kernel_rfl) rfl fun K hK=>?_
   go_simp
   go_at_call 164
   refine (put_any w0 g p ((h.rdH c ib 3).rdH c ia t.kind) (c.rd ib) nc nf (c.rd ia) _ (H5.out.drewN 1) (HC.out.same ef).cw (by rw [rdH_objs,rdH_objs];exact h3.1) (by rw [rdH_objs,rdH_objs];exact h3.2) (by rw [ef];exact hc) (by rw [ef];exact hf)).mono ?_
   rintro e w3 ⟨rfl,H6,F6⟩
   have I6:=hid ((IBox.mk I5.out.blk:IBox ((w2.alloc (vaO (c.rd ia))).drew) _ _ _ _ _ _ _ _ _).keep HC.out.k F6)
   have U6:=hid ((U5.out.drewN 1).keep HC.out.k F6)
   have V6:=hid ((V5.out.drewN 1).keep HC.out.k F6)
   have d11:=hid (T9.out _ U6.out I6.out V6.out)
   replace H6:=hid H6
   replace F6:=hid ((F5.out.drewN 1).trans F6)
   go_wp2_with fail
   refine hK.out _ _ (d11.out) (fun hHeld1=>?_)
   try simp only [aS,aN,aT,a0,a1]
   refine wpAnyH_done (by kernel_rfl) ?_ _
   go_wp2
   go_ret
   rw [HNO.out hov]
   exact ⟨rfl,H6.out,F6.out⟩
  ·have o12:(w2.alloc (vaO (c.rd ia))).cell? ⟨p,12,none⟩=some (.bool true):=(by obtain ⟨vo,vx,hv,X⟩:=H5.out;rw [X.cells.c12,hov])
   go_wp2
   go_ret
   rw [HY.out hov]
   exact ⟨rfl,H5.out,F5.out⟩
 ·have sA:(w1.alloc (vaO (c.rd ib))).heap.size=w1.heap.size+1:=World.size_alloc _ _
  have hbA:w0.heap.size≤(w1.alloc (vaO (c.rd ib))).heap.size:=by omega
  have HD:Hid (Hs w0 g (((w1.alloc (vaO (c.rd ib))).alloc vzO).drew) p (h.rdH c ib 3)):=(H2.out.cf ((Cf.refl _ _ _).alloc hbA vzO)).drewN 1
  have FD:Hid (Fr w0.heap.size g.T w (((w1.alloc (vaO (c.rd ib))).alloc vzO).drew)):=(F2.out.alloc hbA vzO).drewN 1
  have AD:Hid (CalAt w0 (((w1.alloc (vaO (c.rd ib))).alloc vzO).drew) a c):=CalAt.fr A0.out HC.out.k HC.out.n7 (((Fr.refl w0.heap.size g.T _).alloc hbA vzO).drewN 1)
  have ID:Hid (IBox (((w1.alloc (vaO (c.rd ib))).alloc vzO).drew) w.heap.size 15 ia ib (nc:Int) (nf:Int) Q nl q):=⟨(Below.heap_alloc _ _ _ (by omega)).trans I2.out.blk⟩
  have UD:Hid (VaBox (((w1.alloc (vaO (c.rd ib))).alloc vzO).drew) w1.heap.size (c.rd ib)):=⟨(Below.heap_alloc _ _ _ (by omega)).trans U2.out.blk⟩
  have ZD:Hid (VaBox (((w1.alloc (vaO (c.rd ib))).alloc vzO).drew) (w1.heap.size+1) va0):=by have:=(VaBox.new (w1.alloc (vaO (c.rd ib))) va0).drewN 1;rw [sA] at this;exact this
  have d9:=hid (T8.out _ _ ID.out HD.out (rdH_file h c ib 3))
  go_wp2_with fail
  refine hK.out _ _ (d9.out) (fun hHeld4=>?_)
  try simp only [aS,aN,aT,a0,a1]
  refine rd1 (i:=20) (by kernel_rfl) rfl fun K hK=>?_
  go_simp
  go_at_call 86
  refine (yread_any w0 g p (h.rdH c ib 3) a c ia t.kind _ HD.out AD.out (HC.out.same (rdH_file h c ib 3)) hra).mono ?_
  rintro e w2 ⟨rfl,H3,F3⟩
  have I3:=hid (ID.out.keep HC.out.k F3)
  have U3:=hid (UD.out.keep HC.out.k F3)
  have Z3:=hid (ZD.out.keep HC.out.k F3)
  have ef:((h.rdH c ib 3).rdH c ia t.kind).file=h.file:=(rdH_file _ _ _ _).trans (rdH_file _ _ _ _)
  have d8:=hid (T8.out _ _ I3.out H3 ef)
  have hb2:=H3.base
  have H5:Hid (Hs w0 g ((w2.setCell ⟨w1.heap.size+1,0,none⟩ (.int .i64 (c.rd ia).kind)).setCell ⟨w1.heap.size+1,1,none⟩ (.int .i64 (c.rd ia).n)) p ((h.rdH c ib 3).rdH c ia t.kind)):=H3.cf (Z3.out.cf HC.out.k (by omega) _ _)
  have F5:Hid (Fr w0.heap.size g.T w ((w2.setCell ⟨w1.heap.size+1,0,none⟩ (.int .i64 (c.rd ia).kind)).setCell ⟨w1.heap.size+1,1,none⟩ (.int .i64 (c.rd ia).n))):=((FD.out.trans F3).new (by omega) (by omega) _).new (by omega) (by omega) _
  have V5:Hid (VaBox ((w2.setCell ⟨w1.heap.size+1,0,none⟩ (.int .i64 (c.rd ia).kind)).setCell ⟨w1.heap.size+1,1,none⟩ (.int .i64 (c.rd ia).n)) (w1.heap.size+1) (c.rd ia)):=Z3.out.set (c.rd ia)
  have I5:Hid (IBox ((w2.setCell ⟨w1.heap.size+1,0,none⟩ (.int .i64 (c.rd ia).kind)).setCell ⟨w1.heap.size+1,1,none⟩ (.int .i64 (c.rd ia).n)) w.heap.size 15 ia ib (nc:Int) (nf:Int) Q nl q):=⟨by rw [block_far (by omega),block_far (by omega)];exact I3.out.blk⟩
  have U5:Hid (VaBox ((w2.setCell ⟨w1.heap.size+1,0,none⟩ (.int .i64 (c.rd ia).kind)).setCell ⟨w1.heap.size+1,1,none⟩ (.int .i64 (c.rd ia).n)) w1.heap.size (c.rd ib)):=⟨by rw [block_far (by omega),block_far (by omega)];exact U3.out.blk⟩
  have d10:=hid (T8.out _ _ I5.out H5.out ef)
  have s0:=Z3.out.c0
  have s1:=Z3.out.c1
  have sz:=Z3.out.fr
  clear H3 F3
  go_wp2_with fail
  refine hK.out _ _ (d8.out) (fun hHeld5=>?_)
  try simp only [aS,aN,aT,a0,a1]
  refine rd1 (i:=22) (by kernel_rfl) rfl fun K hK=>?_
  go_simp
  refine hK.out _ _ (d10.out) (fun hHeld6=>?_)
  try simp only [aS,aN,aT,a0,a1]
  refine wpAnyH_done (by kernel_rfl) ?_ _
  cases hov:((h.rdH c ib 3).rdH c ia t.kind).over
  ·have o12:((w2.setCell ⟨w1.heap.size+1,0,none⟩ (.int .i64 (c.rd ia).kind)).setCell ⟨w1.heap.size+1,1,none⟩ (.int .i64 (c.rd ia).n)).cell? ⟨p,12,none⟩=some (.bool false):=(by obtain ⟨vo,vx,hv,X⟩:=H5.out;rw [X.cells.c12,hov])
   have T9:Hid (∀w',VaBox w' w1.heap.size (c.rd ib)→IBox w' w.heap.size 15 ia ib (nc:Int) (nf:Int) Q nl q→VaBox w' (w1.heap.size+1) (c.rd ia)→(fun w'=>w'.cell? ⟨w1.heap.size,0,none⟩=some (.int .i64 (c.rd ib).kind)∧w'.cell? ⟨w1.heap.size,1,none⟩=some (.int .i64 (c.rd ib).n)∧w'.cell? ⟨w.heap.size,3,none⟩=some (.int .i64 (nc:Int))∧w'.cell? ⟨w.heap.size,4,none⟩=some (.int .i64 (nf:Int))∧w'.cell? ⟨(w1.heap.size+1),0,none⟩=some (.int .i64 (c.rd ia).kind)∧w'.cell? ⟨(w1.heap.size+1),1,none⟩=some (.int .i64 (c.rd ia).n)) w'):=fun w' U I V=>⟨U.c0,U.c1,I.cs.2.2.2.1,I.cs.2.2.2.2.1,V.c0,V.c1⟩
   have z5:=hid (T9.out _ U5.out I5.out V5.out)
   go_wp2
   refine wp_region_held_drew (S:=fun w'=>w'.cell? ⟨w1.heap.size,0,none⟩=some (.int .i64 (c.rd ib).kind)∧w'.cell? ⟨w1.heap.size,1,none⟩=some (.int .i64 (c.rd ib).n)∧w'.cell? ⟨w.heap.size,3,none⟩=some (.int .i64 (nc:Int))∧w'.cell? ⟨w.heap.size,4,none⟩=some (.int .i64 (nf:Int))∧w'.cell? ⟨(w1.heap.size+1),0,none⟩=some (.int .i64 (c.rd ia).kind)∧w'.cell? ⟨(w1.heap.size+1),1,none⟩=some (.int .i64 (c.rd ia).n)) (by kernel_rfl) ?_ (fun hHeld0=>?_)
   ·exact z5.out
   iterate 9 (refine tn rfl (by kernel_rfl) (fun _ _ _ h=>h) (by intro _ h;go_split_ands;go_simp<;>with_reducible rfl) hHeld0 ?_;try simp only [aS,aN,aT,a0,a1])
   refine rd1 (i:=9) (by kernel_rfl) rfl fun K hK=>?_
   go_simp
   go_at_call 164
   refine (put_any w0 g p ((h.rdH c ib 3).rdH c ia t.kind) (c.rd ib) nc nf (c.rd ia) _ (H5.out.drewN 1) (HC.out.same ef).cw (by rw [rdH_objs,rdH_objs];exact h3.1) (by rw [rdH_objs,rdH_objs];exact h3.2) (by rw [ef];exact hc) (by rw [ef];exact hf)).mono ?_
   rintro e w3 ⟨rfl,H6,F6⟩
   have I6:=hid ((IBox.mk I5.out.blk:IBox (((w2.setCell ⟨w1.heap.size+1,0,none⟩ (.int .i64 (c.rd ia).kind)).setCell ⟨w1.heap.size+1,1,none⟩ (.int .i64 (c.rd ia).n)).drew) _ _ _ _ _ _ _ _ _).keep HC.out.k F6)
   have U6:=hid ((U5.out.drewN 1).keep HC.out.k F6)
   have V6:=hid ((V5.out.drewN 1).keep HC.out.k F6)
   have d11:=hid (T9.out _ U6.out I6.out V6.out)
   replace H6:=hid H6
   replace F6:=hid ((F5.out.drewN 1).trans F6)
   go_wp2_with fail
   refine hK.out _ _ (d11.out) (fun hHeld1=>?_)
   try simp only [aS,aN,aT,a0,a1]
   refine wpAnyH_done (by kernel_rfl) ?_ _
   go_wp2
   go_ret
   rw [HNO.out hov]
   exact ⟨rfl,H6.out,F6.out⟩
  ·have o12:((w2.setCell ⟨w1.heap.size+1,0,none⟩ (.int .i64 (c.rd ia).kind)).setCell ⟨w1.heap.size+1,1,none⟩ (.int .i64 (c.rd ia).n)).cell? ⟨p,12,none⟩=some (.bool true):=(by obtain ⟨vo,vx,hv,X⟩:=H5.out;rw [X.cells.c12,hov])
   go_wp2
   go_ret
   rw [HY.out hov]
   exact ⟨rfl,H5.out,F5.out⟩
theorem rds_snoc (c:Cal):∀(l:List Int) (k:List Ty) (q:Nat),q<k.length→l.length=k.length→c.rds (l.take (q+1)) (k.take (q+1))=c.rds (l.take q) (k.take q)++[c.rd (nth (0:Int) l q)]
 | [],[],q,h,_=>by simp at h
 | [],_::_,_,_,h=>by simp at h
 | _::_,[],_,_,h=>by simp at h
 | a::l,t::k,0,_,_=>by simp [Cal.rds,nth]
 | a::l,t::k,q+1,h,hl=>by
  have:=rds_snoc c l k q (by simpa using h) (by simpa using hl)
  have e:nth (0:Int) (a::l) (q+1)=nth (0:Int) l q:=by simp [nth]
  rw [e]
  simp only [List.take_succ_cons,Cal.rds,this,List.cons_append]
theorem rdsH_snoc (c:Cal):∀(l:List Int) (k:List Ty) (q:Nat) (h:Hp),q<k.length→l.length=k.length→h.rdsH c (l.take (q+1)) (k.take (q+1))=(h.rdsH c (l.take q) (k.take q)).rdH c (nth (0:Int) l q) (nth ty0 k q).kind
 | [],[],q,_,h,_=>by simp at h
 | [],_::_,_,_,_,h=>by simp at h
 | _::_,[],_,_,_,h=>by simp at h
 | a::l,t::k,0,h,_,_=>by simp [Hp.rdsH,nth]
 | a::l,t::k,q+1,h,hq,hl=>by
  have:=rdsH_snoc c l k q (h.rdH c a t.kind) (by simpa using hq) (by simpa using hl)
  have e:nth (0:Int) (a::l) (q+1)=nth (0:Int) l q:=by simp [nth]
  have e2:nth ty0 (t::k) (q+1)=nth ty0 k q:=by simp [nth]
  rw [e,e2]
  simp only [List.take_succ_cons,Hp.rdsH,this]
theorem rdsH_file (c:Cal) (l:List Int) (k:List Ty) (h:Hp):(h.rdsH c l k).file=h.file:=(rdsH_le c l k h).file
theorem own_fr {B base n:Nat} {T:TypeId} {w w':World} {u:Value} {xs:List Value} (h:w.ownsRow base 82 2 u n xs) (k:Tk T) (f:Fr B T w w'):w'.ownsRow base 82 2 u n xs:=by
 refine ⟨h.1,?_⟩
 rcases h.2 with h0|⟨g,cap,cur,h1,h2,h3,h4⟩
 ·exact Or.inl h0
 ·exact Or.inr ⟨g,cap,cur,h1,h2,f.keep _ _ _ _ h3 k.nv,h4⟩
theorem Hs.grown {w0 w w':World} {g:Ad} {p base n:Nat} {h:Hp} {u:Value} {xs:List Value} (H:Hs w0 g w p h) (k:Tk g.T) (o:w.ownsRow base 82 2 u n xs) (hg:w.grownBy w' u.ownBlock) (hb:base≤w.heap.size) (h0:w0.heap.size≤base):Hs w0 g w' p h :=
 H.cf ⟨Below.mono (grown_base hg o hb) h0,fun b cs t f e ht=>grown_keep hg o e fun x=>k.nv (x▸ht)⟩
theorem Fr.grown {B base n:Nat} {T:TypeId} {w W w':World} {u:Value} {xs:List Value} (h:Fr B T w W) (o:W.ownsRow base 82 2 u n xs) (hg:W.grownBy w' u.ownBlock) (hb:base≤W.heap.size) (hw:w.heap.size≤base) (h0:B≤base):Fr B T w w' :=
 ⟨h.bl.trans (Below.mono (grown_base hg o hb) h0),fun b cs t f e n=>((grown_base hg o hb).block b (by have:=lt_some e;omega)).trans (h.keep b cs t f e n)⟩
structure LC (w0:World) (g:Ad) (p:Nat) (c:Cal) (h:Hp) (l:List Int) (k:List Ty) (base:Nat) (W wr:World) (u:Value) (q:Nat):Prop where
 hs:Hs w0 g wr p (h.rdsH c (l.take q) (k.take q))
 fr:Fr w0.heap.size g.T W wr
 row:wr.ownsRow base 82 2 u q (vaCells (c.rds (l.take q) (k.take q)))
theorem ycall_any (w0:World) (g:Ad) (p:Nat) (h:Hp) (a:Ca) (c:Cal) (ia ib ic ii:Int) (args:List Int) (Q:Option Addr) (q0:Nat) (w:World) (hH:Hs w0 g w p h) (hC:CalAt w0 w a c) (C:Cq w0 g h) (hp:0≤c.pc∧c.pc≤100000)
  (E:MesAt w0 g.M h.file.methods) (M:Me) (hMe:nth me0 h.file.methods ia.toNat=M) (hia:0≤ia∧ia<h.file.methods.length) (hQ:IntsAt w0 Q args) (hal:args.length=M.params.length) (hpl:M.params.length≤4) (har:∀j,j<args.length→0≤nth (0:Int) args j∧nth (0:Int) args j<c.locs.length) (R:Hp×Va) (Hf:Hp) (cf:Cal) (hY:(h.rdsH c args M.params).over=true→Hf=(h.rdsH c args M.params)∧cf=c) (hN:(h.rdsH c args M.params).over=false→Hf=R.1∧cf={ c with giv:=R.2 })
  (HR:(h.rdsH c args M.params).over=false→∀(P CC K:Option Addr) (pp cc kk:Nat) (A1:Option Addr) (ac lb:Nat) (w1:World),MeAt w0 M P CC K→Hs w0 g w1 p (h.rdsH c args M.params)→StkAt lb w1 A1 (c.rds args M.params)→M.params.length≤ac→Calls Tryz.prog 41 #[.pointer (some ⟨p,0,none⟩),meV M P CC K pp cc kk,.slice A1 M.params.length ac] w1 fun e w'=>e=.returned (vaV R.2)∧Hs w0 g w' p R.1∧Fr w0.heap.size g.T w1 w') :
  Calls Tryz.prog 89 #[.pointer (some ⟨p,0,none⟩),.pointer (some ⟨a.q,0,none⟩),.agg #[.int .i64 18,.int .i64 ia,.int .i64 ib,.int .i64 ic,.int .i64 ii,.slice Q args.length q0]] w fun e w'=>e=.returned (.int .i64 (c.pc+1))∧Hs w0 g w' p Hf∧CalAt w0 w' a cf∧Fq w0.heap.size g.T a w w':=by
 obtain ⟨n,rfl⟩:∃n:Nat,ia=n:=⟨ia.toNat,by omega⟩
 simp only [Int.toNat_natCast] at *
 have hnl:n<h.file.methods.length:=by omega
 have hmm:=E.1
 unfold maxLen at hmm
 obtain ⟨mb,mo,P,CC,K,pp,cc,kk,hM,HZ,hme⟩:=mes_cells E hnl
 rw [hMe] at HZ hme
 have hbw:=hH.bl
 obtain ⟨HF,HH,HA,HI,HC,d13,hb,hq,hl⟩:=dqpre 18 (n:Int) ib ic ii Q args.length q0 hH hC C
 have hb1:Bl w0 (w.alloc (.cells #[.int .i64 18,.int .i64 (n:Int),.int .i64 ib,.int .i64 ic,.int .i64 ii,.slice Q args.length q0] 58)):=hbw.alloc _
 have hml:=cell_lt HZ.1
 have hmb:mb<w.heap.size:=by have:=hbw.size;omega
 have y0:=hb1.cell HZ.1
 have y1:=hb1.cell HZ.2.1
 have y2:=hb1.cell HZ.2.2.1
 have y3:=hb1.cell HZ.2.2.2.1
 have y4:=hb1.cell HZ.2.2.2.2.1
 have y5:=hb1.cell HZ.2.2.2.2.2.1
 have y6:=hb1.cell HZ.2.2.2.2.2.2.1
 have y7:=hb1.cell HZ.2.2.2.2.2.2.2
 have c1:(w.alloc (.cells #[.int .i64 18,.int .i64 (n:Int),.int .i64 ib,.int .i64 ic,.int .i64 ii,.slice Q args.length q0] 58)).cell? ⟨p,1,none⟩=some (.slice (some ⟨mb,mo,none⟩) h.file.methods.length g.m):=by
  obtain ⟨vo,vx,hv,X⟩:=HH.out
  rw [←hM];exact X.cells.c1
 have hpl':p<w.heap.size:=by obtain ⟨vo,vx,hv,X⟩:=hH;exact lt_some X.blk
 have j1:=HI.out.cs.2.1
 have hn0:(0:Int)≤(n:Int):=by omega
 have hn1:(n:Int)<(h.file.methods.length:Int):=by omega
 have hR0:=HR
 clear hH hC C HZ hb1 HR
 have HME:=hid hme
 have HRR:=hid hR0
 have HL:=hid hal
 have HY:=hid hY
 have HNO:=hid hN
 clear hY hN
 have HAR:=hid har
 have HQI:=hid hQ
 have hps:M.params.length≤2 ^ 63-1:=by omega
 have has:args.length≤2 ^ 63-1:=by omega
 have HBW:=hid hbw
 clear hme hR0 hal har hQ E hM hia hbw hMe
 go_enter Tryz.func89,Tryz.ntmps89
 go_wp2
 go_region_held3 (fun w'=>w'.cell? ⟨p,1,none⟩=some (.slice (some ⟨mb,mo,none⟩) h.file.methods.length g.m)∧w'.cell? ⟨w.heap.size,1,none⟩=some (.int .i64 (n:Int))∧w'.cell? ⟨mb,mo+n*8,none⟩=some (.slice P M.params.length pp)∧w'.cell? ⟨mb,mo+n*8+1,none⟩=some (.int .i64 M.ret.kind)∧w'.cell? ⟨mb,mo+n*8+2,none⟩=some (.int .i64 M.ret.cls)∧w'.cell? ⟨mb,mo+n*8+3,none⟩=some (.int .i64 M.stack)∧w'.cell? ⟨mb,mo+n*8+4,none⟩=some (.int .i64 M.locs)∧w'.cell? ⟨mb,mo+n*8+5,none⟩=some (.int .i64 M.regs)∧w'.cell? ⟨mb,mo+n*8+6,none⟩=some (.slice CC M.code.length cc)∧w'.cell? ⟨mb,mo+n*8+7,none⟩=some (.slice K M.hands.length kk))
  (go_keep)
  (fail)
 obtain ⟨W2,hW2⟩:∃W2,W2=((w.alloc (.cells #[.int .i64 18,.int .i64 (n:Int),.int .i64 ib,.int .i64 ic,.int .i64 ii,.slice Q args.length q0] 58)).alloc (.cells #[.slice P M.params.length pp,.int .i64 M.ret.kind,.int .i64 M.ret.cls,.int .i64 M.stack,.int .i64 M.locs,.int .i64 M.regs,.slice CC M.code.length cc,.slice K M.hands.length kk] 50)).drew:=⟨_,rfl⟩
 rw [←hW2]
 have bl2:Bl (w.alloc (.cells #[.int .i64 18,.int .i64 (n:Int),.int .i64 ib,.int .i64 ic,.int .i64 ii,.slice Q args.length q0] 58)) W2:=by rw [hW2];exact ((Bl.refl _).alloc _).drew
 have hb1':w0.heap.size≤(w.alloc (.cells #[.int .i64 18,.int .i64 (n:Int),.int .i64 ib,.int .i64 ic,.int .i64 ii,.slice Q args.length q0] 58)).heap.size:=by simp;omega
 have HH2:Hid (Hs w0 g W2 p h):=HH.out.old bl2
 have HA2:Hid (CalAt w0 W2 a c):=HA.out.old bl2
 have HF2:Hid (Fr w0.heap.size g.T w W2):=HF.out.trans (Fr.old hb1' bl2)
 have HI2:Hid (IBox W2 w.heap.size 18 (n:Int) ib ic ii Q args.length q0):=⟨(bl2.block _ (lt_some HI.out.blk)).trans HI.out.blk⟩
 have HM2:Hid (MthBox W2 (w.heap.size+1) M P CC K pp cc kk):=⟨by rw [hW2];exact blk_at (by simp)⟩
 have hW2s:W2.heap.size≤w.heap.size+2:=by rw [hW2];simp
 have hb02:w0.heap.size≤w.heap.size+2:=by omega
 have HW0:Hid (Bl w0 W2):=HH2.out.bl
 clear hW2 bl2 y0 y1 y2 y3 y4 y5 y6 y7 c1 j1 HF HH HA HI d13 hb1'
 obtain ⟨i0,hi0,hz0,hz1,hz2⟩:=info_parts info_va3
 go_wp2
 go_loopw [11,12] (fun u i wr=>∃q:Nat,q≤M.params.length∧i=.int .i64 q∧Hid (LC w0 g p c h args M.params (w.heap.size+2) W2 wr u q)) (fun _ i _=>M.params.length-(intOf i).toNat)
 case atStart=>exact ⟨0,Nat.zero_le _,rfl,⟨HH2.out,Fr.refl _ _ _,⟨rfl,Or.inl ⟨rfl,rfl⟩⟩⟩⟩
 case round =>
  obtain ⟨q,hq,rfl,hLC⟩:=hrel
  have FR:=hid hLC.out.fr
  have x0:=(HM2.out.fr HC.out.k FR.out).cells.c0
  have hbr:=hLC.out.hs.base
  by_cases hql:q<M.params.length
  ·have hql':q<args.length:=by rw [HL.out];exact hql
   obtain ⟨rb,ro,hRA,hrc⟩:∃rb ro,Q=some ⟨rb,ro,none⟩∧∀i,i<args.length→w0.cell? ⟨rb,ro+i,none⟩=some (.int .i64 (nth (0:Int) args i)):=by
    rcases HQI.out.2 with h0|⟨rb,ro,hRA,hrc⟩
    ·omega
    ·exact ⟨rb,ro,hRA,fun i hi=>(hrc i hi).1⟩
   obtain ⟨xb,xo,hPA,hxc⟩:∃xb xo,P=some ⟨xb,xo,none⟩∧∀i,i<M.params.length→w0.cell? ⟨xb,xo+i*2,none⟩=some (.int .i64 (nth ty0 M.params i).kind):=by
    rcases HME.out.1.2 with h0|⟨xb,xo,hPA,hxc⟩
    ·omega
    ·exact ⟨xb,xo,hPA,fun i hi=>(hxc i hi).1⟩
   have hra:=HAR.out q hql'
   have hr0:=hrc q hql'
   have hx0:=hxc q hql
   have HSV:=hid (rds_snoc c args M.params q hql HL.out)
   have HSH:=hid (rdsH_snoc c args M.params q h hql HL.out)
   have HRO:=hid hLC.out.row
   have HKR:=hid hLC.out.hs
   have CK:=hid (HC.out.same (rdsH_file c (args.take q) (M.params.take q) h))
   have AR:=hid (CalAt.fr HA2.out HC.out.k HC.out.n7 FR.out)
   have AR1:=hid (CalAt.fr HA2.out HC.out.k HC.out.n7 (FR.out.drewN 1))
   have hq0:(0:Int)≤(q:Int):=by omega
   have hq1:(q:Int)<(M.params.length:Int):=by omega
   have hq2:(q:Int)<(args.length:Int):=by omega
   generalize nth (0:Int) args q=av at *
   generalize nth ty0 M.params q=t at *
   generalize h.rdsH c (args.take q) (M.params.take q)=hk at *
   have T8:Hid (∀w',Fr w0.heap.size g.T W2 w'→(fun w'=>w'.cell? ⟨w.heap.size,5,none⟩=some (.slice (some ⟨rb,ro,none⟩) args.length q0)∧w'.cell? ⟨rb,ro+q,none⟩=some (.int .i64 av)∧w'.cell? ⟨w.heap.size+1,0,none⟩=some (.slice (some ⟨xb,xo,none⟩) M.params.length pp)∧w'.cell? ⟨xb,xo+q*2,none⟩=some (.int .i64 t.kind)) w'):=fun w' f=>by
    have b0:Bl w0 w':=Below.trans HW0.out f.bl
    refine ⟨?_,b0.cell hr0,?_,b0.cell hx0⟩
    ·rw [(HI2.out.keep HC.out.k f).cs.2.2.2.2.2,hRA]
    ·rw [(HM2.out.fr HC.out.k f).cells.c0,hPA]
   have z8:=hid (T8.out wr FR.out)
   clear hrc hxc hr0 hx0 hRA hLC hPA
   go_wp2
   refine wp_region_held_drew (S:=fun w'=>w'.cell? ⟨w.heap.size,5,none⟩=some (.slice (some ⟨rb,ro,none⟩) args.length q0)∧w'.cell? ⟨rb,ro+q,none⟩=some (.int .i64 av)∧w'.cell? ⟨w.heap.size+1,0,none⟩=some (.slice (some ⟨xb,xo,none⟩) M.params.length pp)∧w'.cell? ⟨xb,xo+q*2,none⟩=some (.int .i64 t.kind)) (by kernel_rfl) ?_ (fun hHeld0=>?_)
   ·exact z8.out
   iterate 13 (refine tn rfl (by kernel_rfl) (fun _ _ _ h=>h) (by intro _ h;go_split_ands;go_simp<;>with_reducible rfl) hHeld0 ?_;try simp only [aS,aN,aT,a0,a1])
   refine wpAnyH_ready (rs:=[13,14]) (by kernel_rfl) (by simp) ?_
   refine AllReadyH.cons rfl (fun K hK=>?_) (AllReadyH.cons rfl (fun K hK=>?_) (AllReadyH.nil))
   ·go_simp
    go_at_call 86
    refine (yread_any w0 g p hk a c av t.kind _ (HKR.out.drewN 1) AR1.out CK.out hra).mono ?_
    rintro e w2 ⟨rfl,H3,F3⟩
    have hb2:=H3.base
    have F3':=hid (((Fr.refl w0.heap.size g.T wr).drewN 1).trans F3)
    have d8:=hid (T8.out _ (FR.out.trans F3'.out))
    have d9:=hid (T8.out _ ((FR.out.trans F3'.out).alloc hb2 vzO))
    have d10:=hid (T8.out _ ((FR.out.trans F3'.out).alloc hb2 (vaO (c.rd av))))
    have H5:Hid (Hs w0 g (w2.alloc (vaO (c.rd av))) p (hk.rdH c av t.kind)):=H3.cf ((Cf.refl _ _ _).alloc hb2 _)
    have F5:Hid (Fr w0.heap.size g.T wr (w2.alloc (vaO (c.rd av)))):=F3'.out.alloc hb2 _
    have V5:Hid (VaBox (w2.alloc (vaO (c.rd av))) w2.heap.size (c.rd av)):=VaBox.new w2 (c.rd av)
    have Z4:Hid (VaBox (w2.alloc vzO) w2.heap.size va0):=VaBox.new w2 va0
    have s0:=Z4.out.c0
    have s1:=Z4.out.c1
    have sz:=Z4.out.fr
    clear H3 F3
    go_wp2_with fail
    refine hK.out _ _ (d8.out) (fun hHeld1=>?_)
    try simp only [aS,aN,aT,a0,a1]
    refine rd1 (i:=14) (by kernel_rfl) rfl fun K hK=>?_
    go_wp2_with fail
    refine hK.out _ _ (d9.out) (fun hHeld2=>?_)
    try simp only [aS,aN,aT,a0,a1]
    refine rd1 (i:=15) (by kernel_rfl) rfl fun K hK=>?_
    go_simp
    refine hK.out _ _ (d10.out) (fun hHeld3=>?_)
    try simp only [aS,aN,aT,a0,a1]
    refine wpAnyH_done (by kernel_rfl) ?_ _
    have O5:=hid (own_fr HRO.out HC.out.k F5.out)
    have G5:=hid (FR.out.trans F5.out)
    obtain ⟨V5w,hV⟩:∃V5w,V5w=(w2.alloc (.cells #[.int .i64 (c.rd av).kind,.int .i64 (c.rd av).n] 82)):=⟨_,rfl⟩
    obtain ⟨vb,hvb⟩:∃vb,vb=w2.heap.size:=⟨_,rfl⟩
    rw [←hV,←hvb]
    have H6:Hid (Hs w0 g V5w p (hk.rdH c av t.kind)):=by rw [hV];exact H5
    have G6:Hid (Fr w0.heap.size g.T W2 V5w):=by rw [hV];exact G5
    have O6:Hid (V5w.ownsRow (w.heap.size+2) 82 2 u11 q (vaCells (c.rds (args.take q) (M.params.take q)))):=by rw [hV];exact O5
    have V6:Hid (VaBox V5w vb (c.rd av)):=by rw [hV,hvb];exact V5
    have hsz6:w.heap.size+2≤V5w.heap.size:=by have:=G6.out.bl.size;have:=G6.out;have:=lt_some (HM2.out.fr HC.out.k G6.out).blk;omega
    clear hV hvb H5 F5 V5 O5 G5 d8 d9 d10 s0 s1 sz F3'
    have v0:=V6.out.c0
    have v1:=V6.out.c1
    have hvb:=lt_some V6.out.blk
    go_wp2_with (at_builtin;refine wpList_append_lies _ rfl (.tmp 100) (.tmp 102) 72 rfl (w.heap.size+2) 82 i0 _ 2 16 Tryz.underlying72 hi0 hz0 hz1 hz2 rfl (by omega) u11 q (vaCells (c.rds (args.take q) (M.params.take q))) (by rfl) (by exact O6.out.alloc _) ⟨V5w.heap.size,0,none⟩ 1 1 [.int .i64 (c.rd av).kind,.int .i64 (c.rd av).n] (by rfl) (by rfl) (World.news_of_block (cs:=#[.int .i64 (c.rd av).kind,.int .i64 (c.rd av).n]) (t:=82) (fr:=(0,0)) (blk_at (w:=V5w) rfl)) (by simp [Value.oneCell']) (by omega) (by unfold maxLen;omega) (by omega) (by simp;omega) (V5w.heap.size+1) (by simp) ?_;intro gg cap w7 hown1 hgrow hat hlt;have H7:=hid (Hs.grown (H6.out.old ((Bl.refl _).alloc _)) HC.out.k (O6.out.alloc _) hgrow (by simp;omega) hb02);have F7:=hid (Fr.grown (G6.out.trans (Fr.old H6.out.base ((Bl.refl _).alloc _))) (O6.out.alloc _) hgrow (by simp;omega) hW2s hb02))
    go_roundw
    case rel =>
     refine ⟨q+1,by omega,by go_num,⟨?_,F7.out,?_⟩⟩
     ·rw [HSH.out];exact H7.out
     ·rw [HSV.out,vaCells_append];exact hown1
    case measure=>simp [intOf];omega
   ·have HD:Hid (Hs w0 g ((wr.alloc vzO).drew) p hk):=(HKR.out.cf ((Cf.refl _ _ _).alloc hbr vzO)).drewN 1
    have FD:Hid (Fr w0.heap.size g.T wr ((wr.alloc vzO).drew)):=((Fr.refl _ _ _).alloc hbr vzO).drewN 1
    have AD:Hid (CalAt w0 ((wr.alloc vzO).drew) a c):=CalAt.fr AR.out HC.out.k HC.out.n7 FD.out
    have ZD:Hid (VaBox ((wr.alloc vzO).drew) wr.heap.size va0):=(VaBox.new wr va0).drewN 1
    have d9:=hid (T8.out _ (FR.out.trans FD.out))
    go_wp2_with fail
    refine hK.out _ _ (d9.out) (fun hHeld4=>?_)
    try simp only [aS,aN,aT,a0,a1]
    refine rd1 (i:=13) (by kernel_rfl) rfl fun K hK=>?_
    go_simp
    go_at_call 86
    refine (yread_any w0 g p hk a c av t.kind _ HD.out AD.out CK.out hra).mono ?_
    rintro e w2 ⟨rfl,H3,F3⟩
    have hb2:=H3.base
    have Z3:=hid (ZD.out.keep HC.out.k F3)
    have F3':=hid (FD.out.trans F3)
    have d8:=hid (T8.out _ (FR.out.trans F3'.out))
    have F5:Hid (Fr w0.heap.size g.T wr ((w2.setCell ⟨wr.heap.size,0,none⟩ (.int .i64 (c.rd av).kind)).setCell ⟨wr.heap.size,1,none⟩ (.int .i64 (c.rd av).n))):=(F3'.out.new (Nat.le_refl _) hbr _).new (Nat.le_refl _) hbr _
    have d10:=hid (T8.out _ (FR.out.trans F5.out))
    have H5:Hid (Hs w0 g ((w2.setCell ⟨wr.heap.size,0,none⟩ (.int .i64 (c.rd av).kind)).setCell ⟨wr.heap.size,1,none⟩ (.int .i64 (c.rd av).n)) p (hk.rdH c av t.kind)):=H3.cf (Z3.out.cf HC.out.k hbr _ _)
    have V5:Hid (VaBox ((w2.setCell ⟨wr.heap.size,0,none⟩ (.int .i64 (c.rd av).kind)).setCell ⟨wr.heap.size,1,none⟩ (.int .i64 (c.rd av).n)) wr.heap.size (c.rd av)):=Z3.out.set (c.rd av)
    have s0:=Z3.out.c0
    have s1:=Z3.out.c1
    have sz:=Z3.out.fr
    clear H3 F3
    go_wp2_with fail
    refine hK.out _ _ (d8.out) (fun hHeld5=>?_)
    try simp only [aS,aN,aT,a0,a1]
    refine rd1 (i:=15) (by kernel_rfl) rfl fun K hK=>?_
    go_simp
    refine hK.out _ _ (d10.out) (fun hHeld6=>?_)
    try simp only [aS,aN,aT,a0,a1]
    refine wpAnyH_done (by kernel_rfl) ?_ _
    have O5:=hid (own_fr HRO.out HC.out.k F5.out)
    have G5:=hid (FR.out.trans F5.out)
    obtain ⟨V5w,hV⟩:∃V5w,V5w=((w2.setCell ⟨wr.heap.size,0,none⟩ (.int .i64 (c.rd av).kind)).setCell ⟨wr.heap.size,1,none⟩ (.int .i64 (c.rd av).n)):=⟨_,rfl⟩
    obtain ⟨vb,hvb⟩:∃vb,vb=wr.heap.size:=⟨_,rfl⟩
    rw [←hV,←hvb]
    have H6:Hid (Hs w0 g V5w p (hk.rdH c av t.kind)):=by rw [hV];exact H5
    have G6:Hid (Fr w0.heap.size g.T W2 V5w):=by rw [hV];exact G5
    have O6:Hid (V5w.ownsRow (w.heap.size+2) 82 2 u11 q (vaCells (c.rds (args.take q) (M.params.take q)))):=by rw [hV];exact O5
    have V6:Hid (VaBox V5w vb (c.rd av)):=by rw [hV,hvb];exact V5
    have hsz6:w.heap.size+2≤V5w.heap.size:=by have:=G6.out.bl.size;have:=G6.out;have:=lt_some (HM2.out.fr HC.out.k G6.out).blk;omega
    clear hV hvb H5 F5 V5 O5 G5 d8 d9 d10 s0 s1 sz F3'
    have v0:=V6.out.c0
    have v1:=V6.out.c1
    have hvb:=lt_some V6.out.blk
    go_wp2_with (at_builtin;refine wpList_append_lies _ rfl (.tmp 100) (.tmp 102) 72 rfl (w.heap.size+2) 82 i0 _ 2 16 Tryz.underlying72 hi0 hz0 hz1 hz2 rfl (by omega) u11 q (vaCells (c.rds (args.take q) (M.params.take q))) (by rfl) (by exact O6.out.alloc _) ⟨V5w.heap.size,0,none⟩ 1 1 [.int .i64 (c.rd av).kind,.int .i64 (c.rd av).n] (by rfl) (by rfl) (World.news_of_block (cs:=#[.int .i64 (c.rd av).kind,.int .i64 (c.rd av).n]) (t:=82) (fr:=(0,0)) (blk_at (w:=V5w) rfl)) (by simp [Value.oneCell']) (by omega) (by unfold maxLen;omega) (by omega) (by simp;omega) (V5w.heap.size+1) (by simp) ?_;intro gg cap w7 hown1 hgrow hat hlt;have H7:=hid (Hs.grown (H6.out.old ((Bl.refl _).alloc _)) HC.out.k (O6.out.alloc _) hgrow (by simp;omega) hb02);have F7:=hid (Fr.grown (G6.out.trans (Fr.old H6.out.base ((Bl.refl _).alloc _))) (O6.out.alloc _) hgrow (by simp;omega) hW2s hb02))
    go_roundw
    case rel =>
     refine ⟨q+1,by omega,by go_num,⟨?_,F7.out,?_⟩⟩
     ·rw [HSH.out];exact H7.out
     ·rw [HSV.out,vaCells_append];exact hown1
    case measure=>simp [intOf];omega
  ·obtain rfl:q=M.params.length:=by omega
   have hH1:=hLC.out.hs
   have hO1:=hLC.out.row
   have FW:=hid (HF2.out.trans FR.out)
   have AW:=hid (CalAt.fr HA2.out HC.out.k HC.out.n7 FR.out)
   have MW:=hid (HM2.out.fr HC.out.k FR.out)
   have e1:args.take M.params.length=args:=by rw [←HL.out,List.take_length]
   have e2:M.params.take M.params.length=M.params:=List.take_length
   rw [e1,e2] at hH1 hO1
   clear e1 e2
   have hlen:(c.rds args M.params).length=M.params.length:=rds_length c _ _ HL.out
   obtain ⟨L,lc,rfl,hL1,hL2⟩:∃L lc,u11=.slice L M.params.length lc∧StkAt a.lb wr L (c.rds args M.params)∧M.params.length≤lc:=by
    rcases hO1.2 with ⟨e1,e2⟩|⟨gb,cp,cur,e1,e2,e3,e4,-⟩
    ·exact ⟨none,0,by rw [e1,e2],Or.inl (by omega),by omega⟩
    ·subst e1
     exact ⟨_,cp,rfl,(own_stk hO1 (lb:=a.lb) (by omega) hlen.symm).1,e4⟩
   have HL1:=hid hL1
   have HH1:=hid hH1
   clear hO1 hlen hLC hL1 hH1
   cases hov:(h.rdsH c args M.params).over
   ·have HRU:=hid (HRR.out hov P CC K pp cc kk L lc a.lb wr HME.out HH1.out HL1.out hL2)
    have o12:wr.cell? ⟨p,12,none⟩=some (.bool false):=by obtain ⟨vo,vx,hv,X⟩:=HH1.out;rw [X.cells.c12,hov]
    have x1:=MW.out.cells.c1
    have x2:=MW.out.cells.c2
    have x3:=MW.out.cells.c3
    have x4:=MW.out.cells.c4
    have x5:=MW.out.cells.c5
    have x6:=MW.out.cells.c6
    have x7:=MW.out.cells.c7
    go_wp2_with (go_at_call 41;refine HRU.out.mono ?_;rintro e w3 ⟨rfl,H3,F3⟩;have A3:=hid (CalAt.fr AW.out HC.out.k HC.out.n7 F3);have g9:=A3.out.cells.c9;have g10:=A3.out.cells.c10;have gf:=A3.out.free;have H3:=hid H3;have F3:=hid F3)
    go_ret
    have A4:=A3.out.setC (c':={ c with giv:=⟨R.2.kind,c.giv.n⟩ }) (i:=9) (v:=.int .i64 R.2.kind) rfl rfl rfl
    have A5:=A4.setC (c':={ c with giv:=R.2 }) (i:=10) (v:=.int .i64 R.2.n) rfl rfl rfl
    obtain ⟨e1,e2⟩:=HNO.out hov
    rw [e1,e2]
    refine ⟨rfl,?_,?_,?_⟩
    ·exact (H3.out.cf (A3.out.cf HC.out.n7 9 _)).cf (A4.cf HC.out.n7 10 _) 
    ·exact A5
    ·exact ((FW.out.trans F3.out).fq.trans (A3.out.fq g.T 9 _)).trans (A4.fq g.T 10 _)
   ·have o12:wr.cell? ⟨p,12,none⟩=some (.bool true):=by obtain ⟨vo,vx,hv,X⟩:=HH1.out;rw [X.cells.c12,hov]
    go_wp2
    go_ret
    obtain ⟨e1,e2⟩:=HY.out hov
    rw [e1,e2]
    refine ⟨rfl,?_,?_,FW.out.fq⟩
    ·exact HH1.out
    ·exact AW.out
theorem enter_step {h:Hp} {l:List Va} {k:List Ty} {q:Nat} (hq:q<l.length) (hk:l.length=k.length):h.enterL (l.drop q) (k.drop q)=(h.of (nth va0 l q) (nth ty0 k q)&&h.enterL (l.drop (q+1)) (k.drop (q+1))):=by
 rw [List.drop_eq_getElem_cons hq,List.drop_eq_getElem_cons (l:=k) (by omega),Hp.enterL,←nth_get (d:=va0) hq,←nth_get (d:=ty0) (by omega)]
theorem enter_any (w0:World) (g:Ad) (p:Nat) (h:Hp) (m:Me) (P CC K:Option Addr) (pp cc kk:Nat) (A:Option Addr) (ac lb:Nat) (l:List Va) (w:World) (hH:Hs w0 g w p h) (C:Cw w0 g h) (ho:h.over=false) (hP:TysAt w0 P m.params) (hl:l.length=m.params.length)
  (hA:StkAt lb w A l) (hg:∀v∈l,v.kind=3→v.n<h.objs.length) (hc:0≤h.calls∧h.calls≤20) :
  Calls Tryz.prog 81 #[.pointer (some ⟨p,0,none⟩),meV m P CC K pp cc kk,.slice A l.length ac] w fun e w'=>e=.returned (.bool (h.enterB m l))∧Hs w0 g w' p (h.enterH m l)∧Fr w0.heap.size g.T w w':=by
 have hbs:=hH.base
 have HH:Hid (∀wr,Bl w wr→Hs w0 g wr p h):=fun wr hb=>hH.old hb
 have HC:Hid (Cw w0 g h):=C
 have HPT:Hid (∀wr,Bl w wr→TysAt wr P m.params):=fun wr hb=>(hP.bl hH.bl).bl hb
 have HAT:Hid (∀wr,Bl w wr→StkAt lb wr A l):=fun wr hb=>hA.keep fun b cs f e _=>(hb.block _ (lt_some e)).trans e
 have HG:Hid (∀v∈l,v.kind=3→v.n<h.objs.length):=hg
 have HL:Hid (l.length=m.params.length):=hl
 have hnv:(!h.over)=true:=by rw [ho];rfl
 have hpm:=hP.1
 unfold maxLen at hpm
 have HM:Hid ((w.alloc (meBO m P CC K pp cc kk)).cell? ⟨w.heap.size,0,none⟩=some (.slice P m.params.length pp)):=cell_of_new rfl
 have HST:Hid (∀q,q<l.length→h.enterL (l.drop q) (m.params.drop q)=(h.of (nth va0 l q) (nth ty0 m.params q)&&h.enterL (l.drop (q+1)) (m.params.drop (q+1)))):=fun q hq=>enter_step hq hl
 have HMU:Hid (h.must false=h.fin 6):=rfl
 have HMB:Hid (h.mustB false=false):=rfl
 obtain ⟨R,hR⟩:∃R,h.enterL l m.params=R:=⟨_,rfl⟩
 have HR:Hid (h.enterL (l.drop 0) (m.params.drop 0)=R):=by rw [List.drop_zero,List.drop_zero];exact hR
 have hB:h.enterB m l=(R&&!h.deep):=by unfold Hp.enterB;rw [hR]
 have hE:h.enterH m l=if R=false then h.fin 6 else if h.deep=true then h.fin 5 else { h with calls:=h.calls+1 }:=by unfold Hp.enterH;rw [hR]
 have HB:Hid (h.enterB m l=(R&&!h.deep)):=hB
 have HE:Hid (h.enterH m l=if R=false then h.fin 6 else if h.deep=true then h.fin 5 else { h with calls:=h.calls+1 }):=hE
 have HP0:Hid (TysAt w0 P m.params):=hP
 have HMX:Hid (∀wr,Bl (w.alloc (meBO m P CC K pp cc kk)) wr→wr.heap[w.heap.size]?=some (meBO m P CC K pp cc kk)):=fun wr hb=>(hb.block _ (by simp)).trans (blk_new _ _ _)
 clear hB hE hR hH C hP hA hg hl
 go_enter Tryz.func81,Tryz.ntmps81
 go_wp2
 go_loopw [7] (fun i wr=>∃q:Nat,q≤m.params.length∧i=.int .i64 q∧Hid (Bl w wr)∧Hid (Bl (w.alloc (meBO m P CC K pp cc kk)) wr)∧wr.cell? ⟨w.heap.size,0,none⟩=some (.slice P m.params.length pp)∧Hid (h.enterL (l.drop q) (m.params.drop q)=R)) (fun i _=>m.params.length-(intOf i).toNat)
 case atStart=>exact ⟨0,Nat.zero_le _,rfl,(Bl.refl w).alloc _,Bl.refl _,HM.out,HR⟩
 case round =>
  obtain ⟨q,hq,rfl,hgr,hgb,c7,hr⟩:=hrel
  by_cases hql:q<m.params.length
  ·have hql':q<l.length:=by rw [HL.out];exact hql
   have hts:=HPT.out wr hgr.out
   rcases hts.2 with h0|⟨b',off',hPA,hcell⟩
   ·omega
   obtain ⟨g0,g1,-⟩:=hcell q hql
   obtain ⟨b,off,hAA,hcl⟩:=(HAT.out wr hgr.out).fst (by omega)
   obtain ⟨v0,v1⟩:=hcl q hql'
   have hstep:=HST.out q hql'
   rw [hPA] at c7
   have HV:Hid ((nth va0 l q).kind=3→(nth va0 l q).n<h.objs.length):=HG.out _ (nth_mem hql')
   subst hAA
   have hA1:(q:Int)<(l.length:Int):=by omega
   have hAm:l.length≤2 ^ 63-1:=by have:=HL.out;omega
   have hq0:(0:Int)≤(q:Int):=by omega
   have hq1:(q:Int)<(m.params.length:Int):=by omega
   rw [hr.out] at hstep
   have HSTEP:Hid (R=(h.of (nth va0 l q) (nth ty0 m.params q)&&h.enterL (l.drop (q+1)) (m.params.drop (q+1)))):=hstep
   have HVK:Hid (∀w2,Fr w0.heap.size g.T wr w2→w2.cell? ⟨b,off+q*2,none⟩=some (.int .i64 (nth va0 l q).kind)∧w2.cell? ⟨b,off+q*2+1,none⟩=some (.int .i64 (nth va0 l q).n)):=fun w2 f=>by
    obtain ⟨bb,oo,hbo,hc2⟩:=((HAT.out wr hgr.out).fr HC.out.k f).fst (by omega)
    simp only [Option.some.injEq,Addr.mk.injEq] at hbo
    obtain ⟨rfl,rfl,-⟩:=hbo
    exact hc2 q hql'
   have HMK:Hid (∀w2,Fr w0.heap.size g.T wr w2→w2.cell? ⟨w.heap.size,0,none⟩=some (.slice (some ⟨b',off',none⟩) m.params.length pp)):=fun w2 f=>by
    have hb:=HMX.out wr hgb.out
    rw [cell_blk (f.keep _ _ _ _ hb HC.out.k.nm),←hPA];rfl
   have HYK:Hid (∀w2,Fr w0.heap.size g.T wr w2→w2.cell? ⟨b',off'+q*2,none⟩=some (.int .i64 (nth ty0 m.params q).kind)∧w2.cell? ⟨b',off'+q*2+1,none⟩=some (.int .i64 (nth ty0 m.params q).cls)):=fun w2 f=>by
    rcases (HP0.out.bl (Below.trans (HH.out wr hgr.out).bl f.bl)).2 with h0|⟨b2,o2,hPB,hc2⟩
    ·omega
    rw [hPA] at hPB
    simp only [Option.some.injEq,Addr.mk.injEq] at hPB
    obtain ⟨rfl,rfl,-⟩:=hPB
    exact ⟨(hc2 q hql).1,(hc2 q hql).2.1⟩
   have HPA:Hid (P=some ⟨b',off',none⟩):=hPA
   clear hcell hcl hts hstep hr hPA
   generalize hX:nth va0 l q=X at *
   generalize hY:nth ty0 m.params q=Y at *
   clear hX hY
   cases hO:h.of X Y
   ·have hRf:R=false:=by rw [HSTEP.out,hO];rfl
    subst hRf
    go_wp2
    go_region_held3 (fun w'=>w'.cell? ⟨b,off+q*2,none⟩=some (.int .i64 X.kind)∧w'.cell? ⟨b,off+q*2+1,none⟩=some (.int .i64 X.n)∧w'.cell? ⟨w.heap.size,0,none⟩=some (.slice (some ⟨b',off',none⟩) m.params.length pp)∧w'.cell? ⟨b',off'+q*2,none⟩=some (.int .i64 Y.kind)∧w'.cell? ⟨b',off'+q*2+1,none⟩=some (.int .i64 Y.cls))
     (go_keep)
     (first
      | (go_at_call 87;refine (of_any w0 g p h X Y _ (by first|exact HH.out _ hgr.out.drew|exact HH.out _ hgr.out) HC.out.cls HC.out.tree HV.out).mono ?_;rintro e w1 ⟨he,h1,f1,b1⟩;rw [hO] at he;subst he;have e0:=b1.cell v0;have e1:=b1.cell v1;have e2:=b1.cell c7;have e3:=b1.cell g0;have e4:=b1.cell g1;have F1:Hid (Fr w0.heap.size g.T wr w1):=Fr.trans (Fr.drew (Fr.refl _ _ _)) f1;clear f1 b1)
      | (go_at_call 85;refine (must_any w0 g HC.out.k p h false _ h1).mono ?_;rintro e w2 ⟨he,h2,f2⟩;rw [HMB.out] at he;subst he;rw [HMU.out] at h2;have FF:Hid (Fr w0.heap.size g.T wr w2):=F1.out.trans f2;obtain ⟨a0,a1⟩:=HVK.out w2 FF.out;have a2:=HMK.out w2 FF.out;obtain ⟨a3,a4⟩:=HYK.out w2 FF.out))
    go_wp2
    go_ret
    refine ⟨ret_bool ?_,?_,(Fr.old hbs hgr.out).trans FF.out⟩
    ·rw [HB.out];rfl
    ·rw [HE.out];first|(rw [if_pos rfl];exact h2)|(rw [if_pos trivial];exact h2)
   ·have HNX:Hid (h.enterL (l.drop (q+1)) (m.params.drop (q+1))=R):=by rw [HSTEP.out,hO,Bool.true_and];rfl
    go_wp2
    go_region_held3 (fun w'=>w'.cell? ⟨b,off+q*2,none⟩=some (.int .i64 X.kind)∧w'.cell? ⟨b,off+q*2+1,none⟩=some (.int .i64 X.n)∧w'.cell? ⟨w.heap.size,0,none⟩=some (.slice (some ⟨b',off',none⟩) m.params.length pp)∧w'.cell? ⟨b',off'+q*2,none⟩=some (.int .i64 Y.kind)∧w'.cell? ⟨b',off'+q*2+1,none⟩=some (.int .i64 Y.cls))
     (go_keep)
     (first
      | (go_at_call 87;refine (of_any w0 g p h X Y _ (by first|exact HH.out _ hgr.out.drew|exact HH.out _ hgr.out) HC.out.cls HC.out.tree HV.out).mono ?_;rintro e w1 ⟨he,h1,f1,b1⟩;rw [hO] at he;subst he;have e0:=b1.cell v0;have e1:=b1.cell v1;have e2:=b1.cell c7;have e3:=b1.cell g0;have e4:=b1.cell g1;have B1:Hid (Bl w w1):=Bl.trans hgr.out.drew b1;have B2:Hid (Bl (w.alloc (meBO m P CC K pp cc kk)) w1):=Bl.trans hgb.out.drew b1;clear f1 b1)
      | (go_at_call 85;refine (must_true w0 g p h _ h1).mono ?_;rintro e w2 ⟨he,hw2⟩;rw [hnv] at he;subst he;rw [hw2];clear hw2 w2))
    go_wp2
    go_roundw
    case rel=>exact ⟨q+1,by omega,by go_num,B1,B2,by rw [HPA.out];exact e2,HNX⟩
    case measure=>simp [intOf];omega
  ·obtain rfl:q=m.params.length:=by omega
   have hRt:R=true:=by
    have:=hr.out
    rw [List.drop_length] at this
    rw [←this]
    unfold Hp.enterL
    split
    ·rename_i h1 h2;simp at h2
    ·rfl
   subst hRt
   obtain ⟨vo,vx,hv,H⟩:=HH.out wr hgr.out
   have c4:=H.cells.c4
   have f4:=H.free 4
   have HA:Hid (HpAt w0 g wr p h vo vx hv):=H
   clear H
   by_cases hd:20≤h.calls
   ·have d1:decide (20≤h.calls)=true:=decide_eq_true hd
    go_wp2_with (go_at_call 158;refine (end_any w0 g HC.out.k p h 5 _ ⟨vo,vx,hv,HA.out⟩).mono ?_;rintro e w1 ⟨rfl,h1,f1⟩)
    go_ret
    have hdp:h.deep=true:=d1
    refine ⟨ret_bool ?_,?_,(Fr.old hbs hgr.out).trans f1⟩
    ·rw [HB.out,hdp];rfl
    ·rw [HE.out];simp only [if_pos hdp];simpa using h1
   ·have d1:decide (20≤h.calls)=false:=decide_eq_false hd
    go_wp2
    go_ret
    have hdp:h.deep=false:=d1
    refine ⟨ret_bool ?_,?_,(Fr.old hbs hgr.out).trans (HA.out.frSet 4 _)⟩
    ·rw [HB.out,hdp];rfl
    ·rw [HE.out,if_neg (by decide),if_neg (by rw [hdp];decide)]
     exact ⟨vo,vx,hv,HA.out.set HC.out.k _ rfl rfl rfl⟩
end Go.Proofs.YtgiiapenmjollabGreat
