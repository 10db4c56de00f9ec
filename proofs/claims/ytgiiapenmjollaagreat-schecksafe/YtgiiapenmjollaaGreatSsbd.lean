import Derived.Test.YtgiiapenmjollaaGreatSsbc
import Derived.Shelf.Slices.SearchI
import Derived.Shelf.Slices.Delete
import Derived.Shelf.Slices.Cells
import Derived.Shelf.Slices.Empties
import Derived.Shelf.Spec.SlicesInsert
import Derived.Shelf.Spec.SlicesInsertGrow
namespace Go.Proofs.YtgiiapenmjollaaGreat
set_option linter.all false
set_option maxHeartbeats 40000000
set_option maxRecDepth 100000
open Go.RowKit
theorem info_sp3:(Tryz.prog.info? 231).map (fun i=>(i.zero,i.size,i.bytes))=some (some (.pointer none),1,8):=by kernel_rfl
theorem make_sts (n:Nat) (hn:n≤1000) (u:World):(Instr.makeSlice 183 (.int .i64 (n:Int)) (.int .i64 (n:Int))).run Tryz.prog u=.ok (.slice (some ⟨u.heap.size,0,none⟩) n n) (u.alloc (.cells (madeCells #[.pointer none] n) 231)):=by
 obtain ⟨i,hi,hz,hs,hb⟩:=info_partsT info_sp3
 have h:=run_make u 183 231 i _ Tryz.underlying183 hi hz .i64 .i64 (n:Int) (n:Int) (by omega) (Int.le_refl _) (by rw [hb];omega) (by omega)
 rw [hs] at h
 simp only [Int.toNat_natCast,Nat.mul_one] at h
 exact h
theorem JI.base {l:List Cl} {w w1 wr:World} {jb q:Nat} {R:Nat→Nat} (J:JI l w1 wr jb q R) (h:Bl w w1):JI l w wr jb q R :=
 ⟨h.trans J.bl,Nat.le_trans h.size J.lo,J.blk,fun i hi=>⟨Nat.le_trans h.size (J.row i hi).1,(J.row i hi).2⟩⟩
theorem rd2 {P:Program} {md:Region.Mode} {ops:Array Oper} {Q:Exit→Act→World→Prop} {S:World→Prop} {fuel:Nat} {listed:Array Bool} {a:Act} {w:World} {i j:Nat} {o o2:Oper} (hr:Region.ready md ops listed=[i,j]) (ho:ops[i]?=some o) (ho2:ops[j]?=some o2)
  (h:∀K':Act→World→Prop,Shut (∀a w,S w→(S w→wpAnyH P md ops Q S fuel (listed.setIfInBounds i true) a w)→K' a w)→if Region.wanted o (yielded ops a.tmps)=true then Oper.wp P o a w K' Q else K' (a.put o.dst undef) w)
  (h2:∀K':Act→World→Prop,Shut (∀a w,S w→(S w→wpAnyH P md ops Q S fuel (listed.setIfInBounds j true) a w)→K' a w)→if Region.wanted o2 (yielded ops a.tmps)=true then Oper.wp P o2 a w K' Q else K' (a.put o2.dst undef) w):wpAnyH P md ops Q S (fuel+1) listed a w :=
 wpAnyH_ready hr (by simp) (AllReadyH.cons ho h (AllReadyH.cons ho2 h2 AllReadyH.nil))
structure NwI (cs:List Cl) (m:Me) (v0:Value) (sb jb:Nat) (R:Nat→Nat) (w w':World):Prop where
 bl:Bl w w'
 own:w'.ownsRow w.heap.size 233 2 v0 (firstT m m.locs).slots.length (tyCs (firstT m m.locs).slots)
 sbl:w.heap.size≤sb
 sbk:w'.heap[sb]?=some (.cells (madeCells #[.pointer none] m.code.length) 231 (0,0))
 ji:JI cs w w' jb cs.length R
def NwQ (cs:List Cl) (m:Me) (A P Cd Kh:Option Addr) (a p c k:Nat) (w:World) (e:Ending) (w':World):Prop :=
 ∃q v0 sb jb R,e=.returned (.pointer (some ⟨q,0,none⟩))∧w.heap.size≤q∧q≠sb∧NwI cs m v0 sb jb R w w'∧(∀i,i<cs.length→R i≠q∧R i≠sb)∧jb≠q∧jb≠sb∧w'.heap[q]?=some (.cells #[v0,.slice none 0 0,.slice A cs.length a,.slice P m.params.length p,.int .i64 m.ret.kind,.int .i64 m.ret.cls,.int .i64 m.stack,.int .i64 m.locs,.int .i64 m.regs,.slice Cd m.code.length c,.slice Kh m.hands.length k,.int .i64 0,.slice (some ⟨sb,0,none⟩) m.code.length m.code.length,.slice none 0 0,.slice (some ⟨jb,0,none⟩) cs.length cs.length] 228 (0,0))
theorem fnew_any (cs:List Cl) (m:Me) (A P Cd Kh:Option Addr) (a p c k:Nat) (w:World) (hm:mayB cs=true) (hA:ClsAt w A cs) (hP:TysAt w P m.params) (hfit:(slotsN m.params:Int)≤m.locs) (hlo:m.locs≤60) (hk:∀t∈m.params,1≤t.kind∧t.kind≤3) (hc:m.code.length≤400) :
  Calls Tryz.prog 117 #[.slice A cs.length a,fmeV m P Cd Kh p c k,.int .i64 m.locs] w fun e w'=>NwQ cs m A P Cd Kh a p c k w e w':=by
 have mk:=make_sts m.code.length (by omega)
 have HA:=hid hA
 have HMB:=hid hm
 have NS:Hid (∀V,Bl w V→Calls Tryz.prog 165 #[.int .i64 m.locs,.slice P m.params.length p] V fun e w'=>∃v,e=.returned (.agg #[v,.slice none 0 0])∧Bl V w'∧w'.ownsRow V.heap.size 233 2 v (firstT m m.locs).slots.length (tyCs (firstT m m.locs).slots)):=fun V hV=>by
  have K:=fnewst_any m.locs.toNat m.params P p V (hP.bl hV) (by omega) (by omega) hk
  rw [Int.toNat_of_nonneg (by omega)] at K
  refine K.mono ?_
  rintro e w' ⟨v,rfl,Q⟩
  exact ⟨v,rfl,Q.bl,by (have e:(firstT m m.locs).slots.length=m.locs.toNat:=Q.len;rw [e];exact Q.own)⟩
 have JS:Hid (∀V,Bl w V→Calls Tryz.prog 166 #[.slice A cs.length a] V fun e w'=>∃jb R,e=.returned (.slice (some ⟨jb,0,none⟩) cs.length cs.length)∧JI cs V w' jb cs.length R):=fun V hV=>joins_any A a cs V hm (hA.bl hV)
 have HB:Hid (Bl w (w.alloc (fmeO m P Cd Kh p c k))):=(Bl.refl w).alloc _
 have ZB:=hid (mblk (w:=w) (cs:=#[.slice P m.params.length p,.int .i64 m.ret.kind,.int .i64 m.ret.cls,.int .i64 m.stack,.int .i64 m.locs,.int .i64 m.regs,.slice Cd m.code.length c,.slice Kh m.hands.length k]) (t:=49) rfl)
 have hwl:=lt_some ZB.out
 have SS:Hid (∀w':World,w'.heap[w.heap.size]?=some (fmeO m P Cd Kh p c k)→w'.cell? ⟨w.heap.size,0,none⟩=some (.slice P m.params.length p)∧w'.cell? ⟨w.heap.size,1,none⟩=some (.int .i64 m.ret.kind)∧w'.cell? ⟨w.heap.size,2,none⟩=some (.int .i64 m.ret.cls)∧w'.cell? ⟨w.heap.size,3,none⟩=some (.int .i64 m.stack)∧w'.cell? ⟨w.heap.size,4,none⟩=some (.int .i64 m.locs)∧w'.cell? ⟨w.heap.size,5,none⟩=some (.int .i64 m.regs)∧w'.cell? ⟨w.heap.size,6,none⟩=some (.slice Cd m.code.length c)∧w'.cell? ⟨w.heap.size,7,none⟩=some (.slice Kh m.hands.length k)):=fun w' h=>⟨(cell_blk h).trans rfl,(cell_blk h).trans rfl,(cell_blk h).trans rfl,(cell_blk h).trans rfl,(cell_blk h).trans rfl,(cell_blk h).trans rfl,(cell_blk h).trans rfl,(cell_blk h).trans rfl⟩
 clear hm hA hP hk hfit hlo
 go_enter Tryz.func117,Tryz.ntmps117
 go_wp2
 generalize w.alloc (fmeO m P Cd Kh p c k)=V at *
 refine wp_region_held_drew (S:=fun w'=>w'.cell? ⟨w.heap.size,0,none⟩=some (.slice P m.params.length p)∧w'.cell? ⟨w.heap.size,1,none⟩=some (.int .i64 m.ret.kind)∧w'.cell? ⟨w.heap.size,2,none⟩=some (.int .i64 m.ret.cls)∧w'.cell? ⟨w.heap.size,3,none⟩=some (.int .i64 m.stack)∧w'.cell? ⟨w.heap.size,4,none⟩=some (.int .i64 m.locs)∧w'.cell? ⟨w.heap.size,5,none⟩=some (.int .i64 m.regs)∧w'.cell? ⟨w.heap.size,6,none⟩=some (.slice Cd m.code.length c)∧w'.cell? ⟨w.heap.size,7,none⟩=some (.slice Kh m.hands.length k)) (by kernel_rfl) ?_ (fun hHeld0=>?_)
 ·exact SS.out _ ZB.out
 iterate 9 (refine tn rfl (by kernel_rfl) (fun _ _ _ h=>h) (by intro _ h;go_split_ands;go_simp<;>with_reducible rfl) hHeld0 ?_;try simp only [aZ])
 have BV:=hid (HB.out.trans (Bl.refl V).drew)
 have ZV:=hid (bl_blk (Bl.refl V).drew ZB.out)
 clear HB ZB hwl
 generalize V.drew=V1 at *
 refine rd2 (i:=3) (j:=9) (by kernel_rfl) rfl rfl (fun K hK=>?_) (fun K hK=>?_)
 ·skip
  go_simp
  go_at_call 165
  refine (NS.out V1 BV.out).mono ?_
  rintro e w1 ⟨v0,rfl,b1,o1⟩
  obtain ⟨ao,qo,hvo,-,-⟩:=own_formT o1
  subst hvo
  have OO:=hid (own_base o1 BV.out.size)
  skip
  replace BV:=hid (BV.out.trans b1)
  replace ZV:=hid (bl_blk b1 ZV.out)
  clear o1 b1
  refine hK.out _ _ (SS.out _ ZV.out) (fun hHeld1=>?_)
  try simp only [aZ]
  clear hK
  refine rd2 (i:=9) (j:=11) (by kernel_rfl) rfl rfl (fun K hK=>?_) (fun K hK=>?_)
  ·skip
   go_simp
   have b2:Bl w1 (w1.alloc (.cells (madeCells #[.pointer none] m.code.length) 231)):=(Bl.refl _).alloc _
   have KK:=hid (mblk (w:=w1) (cs:=madeCells #[.pointer none] m.code.length) (t:=231) rfl)
   have KL:=hid BV.out.size
   obtain ⟨sb,hsb⟩:∃sb,sb=w1.heap.size:=⟨_,rfl⟩
   replace OO:=hid (rowBl OO.out b2)
   replace BV:=hid (BV.out.trans b2)
   replace ZV:=hid (bl_blk b2 ZV.out)
   refine hK.out _ _ (SS.out _ ZV.out) (fun hHeld2=>?_)
   try simp only [aZ]
   clear hK b2
   rw [←hsb] at KK KL ⊢
   clear hsb
   generalize w1.alloc (.cells (madeCells #[.pointer none] m.code.length) 231)=W2 at *
   refine rd1 (i:=11) (by kernel_rfl) rfl fun K hK=>?_
   go_simp
   go_at_call 166
   refine (JS.out W2 BV.out).mono ?_
   rintro e w3 ⟨jb,R,rfl,j3⟩
   have JJ0:=hid (j3.base BV.out)
   have b3:=j3.bl
   have FR:=hid (show jb≠sb∧∀i,i<cs.length→R i≠sb from ⟨fun e=>by have:=lt_some KK.out;have:=j3.lo;omega,fun i hi e=>by have:=lt_some KK.out;have:=(j3.row i hi).1;omega⟩)
   replace OO:=hid (rowBl OO.out b3)
   replace KK:=hid (bl_blk b3 KK.out)
   replace BV:=hid (BV.out.trans b3)
   replace ZV:=hid (bl_blk b3 ZV.out)
   clear j3 b3
   refine hK.out _ _ (SS.out _ ZV.out) (fun hHeld3=>?_)
   try simp only [aZ]
   clear hK
   refine tn rfl (by kernel_rfl) (fun _ _ _ h=>h) (by intro _ h;go_split_ands;go_simp<;>with_reducible rfl) hHeld3 ?_
   try simp only [aZ]
   refine rd1 (i:=13) (by kernel_rfl) rfl fun K hK=>?_
   go_simp
   refine hK.out _ _ (SS.out _ (bl_blk ((Bl.refl w3).alloc _) ZV.out)) (fun hHeldz=>?_)
   try simp only [aZ]
   clear hK
   refine tn rfl (by kernel_rfl) (fun _ _ _ h=>h) (by intro _ h;go_split_ands;go_simp<;>with_reducible rfl) hHeldz ?_
   try simp only [aZ]
   refine wpAnyH_done (by kernel_rfl) ?_ _
   go_wp2
   go_ret
   have bz:Bl w3 (w3.alloc (.cells #[.slice ao (firstT m m.locs).slots.length qo,.slice none 0 0,.slice A cs.length a,.slice P m.params.length p,.int .i64 m.ret.kind,.int .i64 m.ret.cls,.int .i64 m.stack,.int .i64 m.locs,.int .i64 m.regs,.slice Cd m.code.length c,.slice Kh m.hands.length k,.int .i64 0,.slice (some ⟨sb,0,none⟩) m.code.length m.code.length,.slice none 0 0,.slice (some ⟨jb,0,none⟩) cs.length cs.length] 228)):=(Bl.refl w3).alloc _
   have hks:=lt_some KK.out
   exact ⟨w3.heap.size,_,sb,jb,R,rfl,BV.out.size,by omega,⟨BV.out.trans bz,rowBl OO.out bz,KL.out,bl_blk bz KK.out,JJ0.out.ext bz⟩,fun i hi=>⟨by have:=(JJ0.out.row i hi).2.2.1;omega,FR.out.2 i hi⟩,by (obtain ⟨cz,hz,-⟩:=JJ0.out.blk;have:=lt_some hz;omega),FR.out.1,mblk rfl⟩
  ·skip
   go_simp
   go_at_call 166
   refine (JS.out w1 BV.out).mono ?_
   rintro e w4 ⟨jb,R,rfl,j4⟩
   have JJ0:=hid (j4.base BV.out)
   have b4:=j4.bl
   replace OO:=hid (rowBl OO.out b4)
   replace BV:=hid (BV.out.trans b4)
   replace ZV:=hid (bl_blk b4 ZV.out)
   clear j4 b4
   refine hK.out _ _ (SS.out _ ZV.out) (fun hHeld4=>?_)
   try simp only [aZ]
   clear hK
   refine rd1 (i:=9) (by kernel_rfl) rfl fun K hK=>?_
   go_simp
   have b5:Bl w4 (w4.alloc (.cells (madeCells #[.pointer none] m.code.length) 231)):=(Bl.refl _).alloc _
   have KK:=hid (mblk (w:=w4) (cs:=madeCells #[.pointer none] m.code.length) (t:=231) rfl)
   have KL:=hid BV.out.size
   obtain ⟨sb,hsb⟩:∃sb,sb=w4.heap.size:=⟨_,rfl⟩
   have FR:=hid (show jb≠sb∧∀i,i<cs.length→R i≠sb from ⟨fun e=>by (obtain ⟨cz,hz,-⟩:=JJ0.out.blk;have:=lt_some hz;omega),fun i hi e=>by have:=(JJ0.out.row i hi).2.2.1;omega⟩)
   replace OO:=hid (rowBl OO.out b5)
   replace JJ0:=hid (JJ0.out.ext b5)
   replace BV:=hid (BV.out.trans b5)
   replace ZV:=hid (bl_blk b5 ZV.out)
   refine hK.out _ _ (SS.out _ ZV.out) (fun hHeld5=>?_)
   try simp only [aZ]
   clear hK b5
   rw [←hsb] at KK KL ⊢
   clear hsb
   generalize w4.alloc (.cells (madeCells #[.pointer none] m.code.length) 231)=W5 at *
   refine tn rfl (by kernel_rfl) (fun _ _ _ h=>h) (by intro _ h;go_split_ands;go_simp<;>with_reducible rfl) hHeld5 ?_
   try simp only [aZ]
   refine rd1 (i:=13) (by kernel_rfl) rfl fun K hK=>?_
   go_simp
   refine hK.out _ _ (SS.out _ (bl_blk ((Bl.refl W5).alloc _) ZV.out)) (fun hHeldz=>?_)
   try simp only [aZ]
   clear hK
   refine tn rfl (by kernel_rfl) (fun _ _ _ h=>h) (by intro _ h;go_split_ands;go_simp<;>with_reducible rfl) hHeldz ?_
   try simp only [aZ]
   refine wpAnyH_done (by kernel_rfl) ?_ _
   go_wp2
   go_ret
   have bz:Bl W5 (W5.alloc (.cells #[.slice ao (firstT m m.locs).slots.length qo,.slice none 0 0,.slice A cs.length a,.slice P m.params.length p,.int .i64 m.ret.kind,.int .i64 m.ret.cls,.int .i64 m.stack,.int .i64 m.locs,.int .i64 m.regs,.slice Cd m.code.length c,.slice Kh m.hands.length k,.int .i64 0,.slice (some ⟨sb,0,none⟩) m.code.length m.code.length,.slice none 0 0,.slice (some ⟨jb,0,none⟩) cs.length cs.length] 228)):=(Bl.refl W5).alloc _
   have hks:=lt_some KK.out
   exact ⟨W5.heap.size,_,sb,jb,R,rfl,BV.out.size,by omega,⟨BV.out.trans bz,rowBl OO.out bz,KL.out,bl_blk bz KK.out,JJ0.out.ext bz⟩,fun i hi=>⟨by have:=(JJ0.out.row i hi).2.2.1;omega,FR.out.2 i hi⟩,by (obtain ⟨cz,hz,-⟩:=JJ0.out.blk;have:=lt_some hz;omega),FR.out.1,mblk rfl⟩
 ·skip
  go_simp
  have b6:Bl V1 (V1.alloc (.cells (madeCells #[.pointer none] m.code.length) 231)):=(Bl.refl _).alloc _
  have KK:=hid (mblk (w:=V1) (cs:=madeCells #[.pointer none] m.code.length) (t:=231) rfl)
  have KL:=hid BV.out.size
  obtain ⟨sb,hsb⟩:∃sb,sb=V1.heap.size:=⟨_,rfl⟩
  skip
  replace BV:=hid (BV.out.trans b6)
  replace ZV:=hid (bl_blk b6 ZV.out)
  refine hK.out _ _ (SS.out _ ZV.out) (fun hHeld6=>?_)
  try simp only [aZ]
  clear hK b6
  rw [←hsb] at KK KL ⊢
  clear hsb
  generalize V1.alloc (.cells (madeCells #[.pointer none] m.code.length) 231)=W6 at *
  refine rd1 (i:=3) (by kernel_rfl) rfl fun K hK=>?_
  go_simp
  go_at_call 165
  refine (NS.out W6 BV.out).mono ?_
  rintro e w7 ⟨v0,rfl,b7,o7⟩
  obtain ⟨ao,qo,hvo,-,-⟩:=own_formT o7
  subst hvo
  have OO:=hid (own_base o7 BV.out.size)
  replace KK:=hid (bl_blk b7 KK.out)
  replace BV:=hid (BV.out.trans b7)
  replace ZV:=hid (bl_blk b7 ZV.out)
  clear o7 b7
  refine hK.out _ _ (SS.out _ ZV.out) (fun hHeld7=>?_)
  try simp only [aZ]
  clear hK
  refine rd1 (i:=11) (by kernel_rfl) rfl fun K hK=>?_
  go_simp
  go_at_call 166
  refine (JS.out w7 BV.out).mono ?_
  rintro e w8 ⟨jb,R,rfl,j8⟩
  have JJ0:=hid (j8.base BV.out)
  have b8:=j8.bl
  have FR:=hid (show jb≠sb∧∀i,i<cs.length→R i≠sb from ⟨fun e=>by have:=lt_some KK.out;have:=j8.lo;omega,fun i hi e=>by have:=lt_some KK.out;have:=(j8.row i hi).1;omega⟩)
  replace KK:=hid (bl_blk b8 KK.out)
  replace OO:=hid (rowBl OO.out b8)
  replace BV:=hid (BV.out.trans b8)
  replace ZV:=hid (bl_blk b8 ZV.out)
  clear j8 b8
  refine hK.out _ _ (SS.out _ ZV.out) (fun hHeld8=>?_)
  try simp only [aZ]
  clear hK
  refine tn rfl (by kernel_rfl) (fun _ _ _ h=>h) (by intro _ h;go_split_ands;go_simp<;>with_reducible rfl) hHeld8 ?_
  try simp only [aZ]
  refine rd1 (i:=13) (by kernel_rfl) rfl fun K hK=>?_
  go_simp
  refine hK.out _ _ (SS.out _ (bl_blk ((Bl.refl w8).alloc _) ZV.out)) (fun hHeldz=>?_)
  try simp only [aZ]
  clear hK
  refine tn rfl (by kernel_rfl) (fun _ _ _ h=>h) (by intro _ h;go_split_ands;go_simp<;>with_reducible rfl) hHeldz ?_
  try simp only [aZ]
  refine wpAnyH_done (by kernel_rfl) ?_ _
  go_wp2
  go_ret
  have bz:Bl w8 (w8.alloc (.cells #[.slice ao (firstT m m.locs).slots.length qo,.slice none 0 0,.slice A cs.length a,.slice P m.params.length p,.int .i64 m.ret.kind,.int .i64 m.ret.cls,.int .i64 m.stack,.int .i64 m.locs,.int .i64 m.regs,.slice Cd m.code.length c,.slice Kh m.hands.length k,.int .i64 0,.slice (some ⟨sb,0,none⟩) m.code.length m.code.length,.slice none 0 0,.slice (some ⟨jb,0,none⟩) cs.length cs.length] 228)):=(Bl.refl w8).alloc _
  have hks:=lt_some KK.out
  exact ⟨w8.heap.size,_,sb,jb,R,rfl,BV.out.size,by omega,⟨BV.out.trans bz,rowBl OO.out bz,KL.out,bl_blk bz KK.out,JJ0.out.ext bz⟩,fun i hi=>⟨by have:=(JJ0.out.row i hi).2.2.1;omega,FR.out.2 i hi⟩,by (obtain ⟨cz,hz,-⟩:=JJ0.out.blk;have:=lt_some hz;omega),FR.out.1,mblk rfl⟩
structure Gr2 (w w':World) (o1 o2:Option Nat):Prop where
 os:w'.os=w.os
 tape:w'.tape=w.tape
 output:w'.output=w.output
 size:w.heap.size≤w'.heap.size
 block:∀k,k<w.heap.size→some k≠o1→some k≠o2→w'.heap[k]?=w.heap[k]?
theorem Gr2.one {w w':World} {o1 o2:Option Nat} (h:w.grownBy w' o1):Gr2 w w' o1 o2:=⟨h.os,h.tape,h.output,h.size,fun k hk h1 _=>h.block k hk h1⟩
theorem Gr2.two {w w':World} {o1 o2:Option Nat} (h:w.grownBy w' o2):Gr2 w w' o1 o2:=⟨h.os,h.tape,h.output,h.size,fun k hk _ h2=>h.block k hk h2⟩
theorem Gr2.bl {w w':World} {o1 o2:Option Nat} (h:Bl w w'):Gr2 w w' o1 o2:=⟨h.os,h.tape,h.output,h.size,fun k hk _ _=>h.block k hk⟩
theorem Gr2.trans {a b c:World} {o1 o2:Option Nat} (h:Gr2 a b o1 o2) (k:Gr2 b c o1 o2):Gr2 a c o1 o2:=⟨k.os.trans h.os,k.tape.trans h.tape,k.output.trans h.output,Nat.le_trans h.size k.size,fun i hi h1 h2=>(k.block i (Nat.lt_of_lt_of_le hi h.size) h1 h2).trans (h.block i hi h1 h2)⟩
theorem Gr2.blk {w w':World} {o1 o2:Option Nat} (h:Gr2 w w' o1 o2) {b:Nat} {o:Obj} (hb:w.heap[b]?=some o) (h1:some b≠o1) (h2:some b≠o2):w'.heap[b]?=some o:=(h.block b (lt_some hb) h1 h2).trans hb
def RVn (w:World) (u:Value) (l:List Ty) (o1 o2:Option Nat):Prop:=∃A c,u=.slice A l.length c∧l.length≤1000∧(l.length=0∨∃ob,A=some ⟨ob,0,none⟩∧some ob≠o1∧some ob≠o2∧Rd w ob l)
theorem RVn.gr {w w':World} {u:Value} {l:List Ty} {o1 o2:Option Nat} (h:RVn w u l o1 o2) (hg:Gr2 w w' o1 o2):RVn w' u l o1 o2:=by
 obtain ⟨A,c,h1,h2,h3⟩:=h
 refine ⟨A,c,h1,h2,h3.elim Or.inl (fun ⟨ob,e,n1,n2,r⟩=>Or.inr ⟨ob,e,n1,n2,⟨fun j hj=>?_⟩⟩)⟩
 have e1:=hg.block ob (cell_lt (r.c j hj).1) n1 n2
 exact ⟨(World.cell?_of_block e1).trans (r.c j hj).1,(World.cell?_of_block e1).trans (r.c j hj).2⟩
theorem fmergeNil (vj:Value) (A B:Option Addr) (c d:Nat) (w:World):Calls Tryz.prog 249 #[vj,.slice A 0 c,.slice B 0 d] w fun e w'=>e=.returned (.bool false)∧Bl w w':=by
 go_enter Tryz.func249,Tryz.ntmps249
 go_wp2
 go_rounds 1
 go_wp2
 go_ret
 exact ⟨rfl,Bl.refl w⟩
theorem fmergeRow (cs:List Cl) (h12:cs.length≤12) (vj v u:Value) (base:Nat) (o2:Option Nat) (a b:List Ty) (w:World) (hab:a.length=b.length) (hr:w.ownsRow base 233 2 v a.length (tyCs a)) (hO:RVn w u b v.ownBlock o2)
  (hJ:∀w',w.grownBy w' v.ownBlock→JnAt w' vj cs) (ha:∀t∈a,refOk cs.length t) (hb:∀t∈b,refOk cs.length t) :
  Calls Tryz.prog 249 #[vj,v,u] w fun e w'=>e=.returned (.bool (lessTo cs a b a.length))∧w'.ownsRow base 233 2 v a.length (tyCs (mergeL cs a b))∧w.grownBy w' v.ownBlock:=by
 obtain ⟨A,c,rfl,h1,h2⟩:=hO
 obtain ⟨A',c',h3,-,-,h4⟩:=rowCell hr
 rcases h2 with h0|⟨ob,rfl,n1,n2,hR⟩
 ·have ha0:a=[]:=List.length_eq_zero_iff.1 (by omega)
  have hb0:b=[]:=List.length_eq_zero_iff.1 h0
  subst ha0;subst hb0
  rw [h3]
  refine (fmergeNil vj A' A c' c w).mono ?_
  rintro e w' ⟨rfl,hbl⟩
  refine ⟨rfl,?_,grownBl hbl _⟩
  have:=rowBl hr hbl
  rw [h3] at this;exact this
 ·rcases h4 with h0|⟨gb,rfl,-,-,-⟩
  ·have ha0:a=[]:=List.length_eq_zero_iff.1 h0
   have hb0:b=[]:=List.length_eq_zero_iff.1 (by omega)
   subst ha0;subst hb0
   rw [h3]
   refine (fmergeNil vj A' (some ⟨ob,0,none⟩) c' c w).mono ?_
   rintro e w' ⟨rfl,hbl⟩
   refine ⟨rfl,?_,grownBl hbl _⟩
   have:=rowBl hr hbl
   rw [h3] at this;exact this
  ·have hob:v.ownBlock=some gb:=by rw [h3];rfl
   rw [hob] at hJ n1 ⊢
   rw [h3] at hr ⊢
   rw [←hab]
   exact fmergeAll_any cs h12 vj gb ob c' c base a b w hab (by omega) (fun e=>n1 (by rw [e])) hr hR hJ ha hb
structure MP (cs:List Cl) (vj:Value) (base b:Nat) (s t:As) (vs vk us uk:Value) (w:World):Prop where
 blk:w.heap[b]?=some (.cells #[vs,vk] 223 (0,0))
 rs:w.ownsRow base 233 2 vs s.slots.length (tyCs s.slots)
 rk:w.ownsRow base 233 2 vk s.stk.length (tyCs s.stk)
 sep:∀c,vs.ownBlock=some c→vk.ownBlock≠some c
 us:RVn w us t.slots vs.ownBlock vk.ownBlock
 uk:RVn w uk t.stk vs.ownBlock vk.ownBlock
 jn:∀w',Gr2 w w' vs.ownBlock vk.ownBlock→JnAt w' vj cs
theorem MP.bl {cs:List Cl} {vj:Value} {base b:Nat} {s t:As} {vs vk us uk:Value} {w w':World} (h:MP cs vj base b s t vs vk us uk w) (k:Bl w w'):MP cs vj base b s t vs vk us uk w' :=
 ⟨bl_blk k h.blk,rowBl h.rs k,rowBl h.rk k,h.sep,h.us.gr (Gr2.bl k),h.uk.gr (Gr2.bl k),fun w2 hg=>h.jn w2 ((Gr2.bl k).trans hg)⟩
def mergeA (cs:List Cl) (s t:As):As:=⟨mergeL cs s.slots t.slots,mergeL cs s.stk t.stk⟩
def lessA (cs:List Cl) (s t:As):Bool:=lessTo cs s.slots t.slots s.slots.length||lessTo cs s.stk t.stk s.stk.length
structure MQ (cs:List Cl) (base b:Nat) (s':As) (vs vk:Value) (w w':World):Prop where
 rs:w'.ownsRow base 233 2 vs s'.slots.length (tyCs s'.slots)
 rk:w'.ownsRow base 233 2 vk s'.stk.length (tyCs s'.stk)
 gr:Gr2 w w' vs.ownBlock vk.ownBlock
theorem fmerge_no (cs:List Cl) (vj:Value) (base b:Nat) (s t:As) (vs vk us uk:Value) (w:World) (H:MP cs vj base b s t vs vk us uk w) (hn:s.stk.length≠t.stk.length) :
  Calls Tryz.prog 237 #[.pointer (some ⟨b,0,none⟩),vj,.agg #[us,uk]] w fun e w'=>e=upE∧Bl w w':=by
 obtain ⟨A,c,hk,-,-⟩:=own_formT H.rk
 obtain ⟨B,d,hu,hul,-⟩:=H.uk
 obtain ⟨A1,c1,hk1,-,-⟩:=own_formT H.rs
 obtain ⟨B1,d1,hu1,-,-⟩:=H.us
 have b1:=c1_of H.blk
 rw [hk] at b1
 subst hu
 subst hu1
 have hbl:=cell_lt b1
 have HB:Hid (Bl w (w.alloc (.cells #[.slice B1 t.slots.length d1,.slice B t.stk.length d] 223))):=(Bl.refl w).alloc _
 have hz:((s.stk.length:Int) !=(t.stk.length:Int))=true:=by have:(s.stk.length:Int)≠(t.stk.length:Int):=(by omega);simpa using this
 clear H hk hk1 hn
 go_enter Tryz.func237,Tryz.ntmps237
 go_wp2
 go_quiet (fail)
 go_wp2_with (go_at_call 208;refine (up_any _).mono ?_;rintro e w3 ⟨rfl,hw⟩;rw [hw];clear hw w3)
 exact ⟨rfl,rfl,HB.out.trans (bl_drewN (Bl.refl _) _)⟩
theorem fmerge_yes (cs:List Cl) (h12:cs.length≤12) (vj:Value) (base b:Nat) (s t:As) (vs vk us uk:Value) (w:World) (H:MP cs vj base b s t vs vk us uk w) (hn:s.stk.length=t.stk.length) (hsl:s.slots.length=t.slots.length)
  (r1:∀x∈s.slots,refOk cs.length x) (r2:∀x∈s.stk,refOk cs.length x) (r3:∀x∈t.slots,refOk cs.length x) (r4:∀x∈t.stk,refOk cs.length x) :
  Calls Tryz.prog 237 #[.pointer (some ⟨b,0,none⟩),vj,.agg #[us,uk]] w fun e w'=>e=(if hasA (mergeL cs s.stk t.stk)=true then upE else .returned (.bool (lessA cs s t)))∧MQ cs base b (mergeA cs s t) vs vk w w':=by
 obtain ⟨r,hr⟩:∃r,r=(if hasA (mergeL cs s.stk t.stk)=true then upE else Ending.returned (.bool (lessA cs s t))):=⟨_,rfl⟩
 rw [←hr]
 replace hr:=hid hr
 obtain ⟨A,c,hk,-,-⟩:=own_formT H.rk
 obtain ⟨B,d,hu,hul,-⟩:=H.uk
 obtain ⟨A1,c1,hk1,-,-⟩:=own_formT H.rs
 obtain ⟨B1,d1,hu1,-,-⟩:=H.us
 have HB:Hid (Bl w (w.alloc (.cells #[us,uk] 223))):=(Bl.refl w).alloc _
 have H1:=hid (H.bl HB.out)
 have ZB:=hid (mblk (w:=w) (cs:=#[us,uk]) (t:=223) rfl)
 have nb1:Hid (some b≠vs.ownBlock):=fun e=>own_far H.rs H.blk (by decide) e.symm
 have nb2:Hid (some b≠vk.ownBlock):=fun e=>own_far H.rk H.blk (by decide) e.symm
 have nz1:Hid (some w.heap.size≠vs.ownBlock):=fun e=>by have:=(H.rs.lt _ e.symm).2;omega
 have nz2:Hid (some w.heap.size≠vk.ownBlock):=fun e=>by have:=(H.rk.lt _ e.symm).2;omega
 have HSL:=hid hsl
 have HN:=hid hn
 have RR:=hid (And.intro r1 (And.intro r2 (And.intro r3 r4)))
 have hz:((s.stk.length:Int) !=(t.stk.length:Int))=false:=by rw [hn];simp
 have ml1:=hid (mergeTo_length cs s.slots t.slots s.slots.length)
 have ml2:=hid (mergeTo_length cs s.stk t.stk s.stk.length)
 have p1:(w.alloc (.cells #[us,uk] 223)).cell? ⟨b,1,none⟩=some (.slice A s.stk.length c):=by rw [←hk];exact c1_of H1.out.blk
 have z1:(w.alloc (.cells #[us,uk] 223)).cell? ⟨w.heap.size,1,none⟩=some (.slice B t.stk.length d):=by rw [←hu];exact c1_of ZB.out
 have hpl:=cell_lt p1
 have hzl:=cell_lt z1
 clear H hn hsl r1 r2 r3 r4 hul
 have HK:=hid hk
 have HU:=hid hu
 clear hk hu hk1 hu1
 go_enter Tryz.func237,Tryz.ntmps237
 go_wp2
 go_quiet (fail)
 go_wp2
 have BV:Hid (Bl w ((w.alloc (.cells #[us,uk] 223)).drewN nq)):=bl_drewN ((Bl.refl _).alloc _) _
 have MV:=hid (H1.out.bl (bl_drewN (Bl.refl _) nq))
 have ZV:=hid (bl_blk (bl_drewN (Bl.refl _) nq) ZB.out)
 clear p1 z1 hpl hzl H1 ZB HB
 generalize (w.alloc (.cells #[us,uk] 223)).drewN nq=V at *
 have MD:=hid (MV.out.bl (Bl.refl V).drew)
 refine wp_region_held_drew (S:=fun w'=>w'.cell? ⟨b,0,none⟩=some vs∧w'.cell? ⟨b,1,none⟩=some vk∧w'.cell? ⟨w.heap.size,0,none⟩=some us∧w'.cell? ⟨w.heap.size,1,none⟩=some uk) (by kernel_rfl) ?_ (fun hHeld0=>?_)
 ·exact ⟨c0_of MV.out.blk,c1_of MV.out.blk,c0_of ZV.out,c1_of ZV.out⟩
 iterate 7 (refine tn rfl (by kernel_rfl) (fun _ _ _ h=>h) (by intro _ h;go_split_ands;go_simp<;>with_reducible rfl) hHeld0 ?_;try simp only [aZ])
 refine rd1 (i:=7) (by kernel_rfl) rfl fun K hK=>?_
 go_simp
 go_at_call 249
 refine (fmergeRow cs h12 vj vs us base vk.ownBlock s.slots t.slots V.drew HSL.out MD.out.rs MD.out.us (fun w' hg=>MD.out.jn w' (Gr2.one hg)) RR.out.1 RR.out.2.2.1).mono ?_
 rintro e w3 ⟨rfl,rs3,g3⟩
 have G3:Hid (Gr2 w w3 vs.ownBlock vk.ownBlock):=(Gr2.bl BV.out.drew).trans (Gr2.one g3)
 have B3:=hid ((Gr2.one (o2:=vk.ownBlock) g3).blk MD.out.blk nb1.out nb2.out)
 have Z3:=hid ((Gr2.one (o2:=vk.ownBlock) g3).blk (bl_blk (Bl.refl V).drew ZV.out) nz1.out nz2.out)
 have K3:Hid (w3.ownsRow base 233 2 vk s.stk.length (tyCs s.stk)):=MD.out.rk.kept g3 (by
  cases h0:vk.ownBlock with
  | none=>exact Or.inl rfl
  | some q=>exact Or.inr (fun e=>MD.out.sep q e.symm h0))
 have U3:=hid (MD.out.uk.gr (Gr2.one g3))
 have R3:=hid rs3
 have J3:Hid (∀w',w3.grownBy w' vk.ownBlock→JnAt w' vj cs):=fun w' hg=>MD.out.jn w' ((Gr2.one g3).trans (Gr2.two hg))
 clear rs3 g3
 generalize hl1:lessTo cs s.slots t.slots s.slots.length=l1 at *
 refine hK.out _ _ ⟨c0_of B3.out,c1_of B3.out,c0_of Z3.out,c1_of Z3.out⟩ (fun hHeld1=>?_)
 try simp only [aZ]
 refine tn rfl (by kernel_rfl) (fun _ _ _ h=>h) (by intro _ h;go_split_ands;go_simp<;>with_reducible rfl) hHeld1 ?_
 try simp only [aZ]
 refine wpAnyH_done (by kernel_rfl) ?_ _
 clear hHeld0 hHeld1 hK
 go_wp2
 refine wp_region_held_drew (S:=fun w'=>w'.cell? ⟨b,0,none⟩=some vs∧w'.cell? ⟨b,1,none⟩=some vk∧w'.cell? ⟨w.heap.size,0,none⟩=some us∧w'.cell? ⟨w.heap.size,1,none⟩=some uk) (by kernel_rfl) ?_ (fun hHeld0=>?_)
 ·exact ⟨c0_of B3.out,c1_of B3.out,c0_of Z3.out,c1_of Z3.out⟩
 iterate 7 (refine tn rfl (by kernel_rfl) (fun _ _ _ h=>h) (by intro _ h;go_split_ands;go_simp<;>with_reducible rfl) hHeld0 ?_;try simp only [aZ])
 refine rd1 (i:=7) (by kernel_rfl) rfl fun K hK=>?_
 go_simp
 go_at_call 249
 refine (fmergeRow cs h12 vj vk uk base vs.ownBlock s.stk t.stk w3.drew HN.out (rowBl K3.out (Bl.refl _).drew) (by
  obtain ⟨A,c,q1,q2,q3⟩:=U3.out
  exact ⟨A,c,q1,q2,q3.elim Or.inl (fun ⟨ob,e,n1,n2,r⟩=>Or.inr ⟨ob,e,n2,n1,r.bl (Bl.refl _).drew⟩)⟩) (fun w' hg=>J3.out w' (grown_bl' (Bl.refl _).drew hg)) RR.out.2.1 RR.out.2.2.2).mono ?_
 rintro e w5 ⟨rfl,rk5,g5⟩
 have g5':=grown_bl' (Bl.refl w3).drew g5
 have G5:Hid (Gr2 w w5 vs.ownBlock vk.ownBlock):=G3.out.trans (Gr2.two g5')
 have B5:=hid ((Gr2.two (o1:=vs.ownBlock) g5').blk B3.out nb1.out nb2.out)
 have Z5:=hid ((Gr2.two (o1:=vs.ownBlock) g5').blk Z3.out nz1.out nz2.out)
 have K5:Hid (w5.ownsRow base 233 2 vk (mergeL cs s.stk t.stk).length (tyCs (mergeL cs s.stk t.stk))):=by show w5.ownsRow _ _ _ _ (mergeTo cs s.stk t.stk s.stk.length).length _;rw [ml2.out];exact rk5
 have R5:Hid (w5.ownsRow base 233 2 vs (mergeL cs s.slots t.slots).length (tyCs (mergeL cs s.slots t.slots))):=by
  have:=R3.out.kept g5' (by
   cases h0:vs.ownBlock with
   | none=>exact Or.inl rfl
   | some q=>exact Or.inr (fun e=>MD.out.sep q h0 e.symm))
  show w5.ownsRow _ _ _ _ (mergeTo cs s.slots t.slots s.slots.length).length _
  rw [ml1.out];exact this
 have V5:Hid (RV w5 vk (mergeL cs s.stk t.stk)):=by
  obtain ⟨A',c',q1,q2,q3,q4⟩:=rowCell K5.out
  have hle:(mergeL cs s.stk t.stk).length≤1000:=by
   show (mergeTo cs s.stk t.stk s.stk.length).length≤1000
   rw [ml2.out,HN.out]
   obtain ⟨_,_,_,h9,_⟩:=U3.out;exact h9
  refine ⟨A',c',q1,hle,q4.elim Or.inl (fun ⟨gb,e,_,_,r⟩=>Or.inr ⟨gb,e,⟨r⟩⟩)⟩
 have hc5:=c1_of B5.out
 have hb5:=cell_lt hc5
 clear rk5 g5 g5'
 generalize hl2:lessTo cs s.stk t.stk s.stk.length=l2 at *
 have HLA:Hid (lessA cs s t=(l1||l2)):=by show _=_;unfold lessA;rw [hl1,hl2]
 clear hl1 hl2
 refine hK.out _ _ ⟨c0_of B5.out,c1_of B5.out,c0_of Z5.out,c1_of Z5.out⟩ (fun hHeld1=>?_)
 try simp only [aZ]
 refine wpAnyH_done (by kernel_rfl) ?_ _
 clear hHeld0 hHeld1 hK
 have HH:=hid (fhas_any vk (mergeL cs s.stk t.stk) w5 V5.out)
 generalize hasA (mergeL cs s.stk t.stk)=hh at *
 have fin:Hid (∀w',Bl w5 w'→MQ cs base b (mergeA cs s t) vs vk w w'):=fun w' hb=>⟨rowBl R5.out hb,rowBl K5.out hb,G5.out.trans (Gr2.bl hb)⟩
 have hvk:Hid (∃A c,vk=.slice A s.stk.length c):=⟨A,c,HK.out⟩
 cases l2 with
 | true =>
  cases hh with
  | true =>
   have EE:Hid (r=upE):=by show r=_;rw [hr.out,if_pos rfl]
   go_wp2_with (first
    | (go_at_call 250;refine HH.out.mono ?_;rintro e w6 ⟨rfl,b6⟩)
    | (go_at_call 208;refine (up_any _).mono ?_;rintro e w7 ⟨rfl,hw⟩;rw [hw];clear hw w7))
   exact ⟨rfl,EE.out.symm,fin.out _ b6⟩
  | false =>
   have EE:Hid (r=.returned (.bool true)):=by show r=_;rw [hr.out,if_neg (by decide),HLA.out,Bool.or_true]
   go_wp2_with (go_at_call 250;refine HH.out.mono ?_;rintro e w6 ⟨rfl,b6⟩)
   go_ret
   exact ⟨EE.out.symm,fin.out _ b6⟩
 | false =>
  cases hh with
  | true =>
   have EE:Hid (r=upE):=by show r=_;rw [hr.out,if_pos rfl]
   go_wp2_with (first
    | (go_at_call 250;refine HH.out.mono ?_;rintro e w6 ⟨rfl,b6⟩)
    | (go_at_call 208;refine (up_any _).mono ?_;rintro e w7 ⟨rfl,hw⟩;rw [hw];clear hw w7))
   exact ⟨rfl,EE.out.symm,fin.out _ b6⟩
  | false =>
   have EE:Hid (r=.returned (.bool l1)):=by show r=_;rw [hr.out,if_neg (by decide),HLA.out,Bool.or_false]
   go_wp2_with (go_at_call 250;refine HH.out.mono ?_;rintro e w6 ⟨rfl,b6⟩)
   go_ret
   exact ⟨EE.out.symm,fin.out _ b6⟩
section
open Go.Shelf
def lay25_ren:Ren:=⟨fun|25=>251|31=>258|32=>259|37=>262|n=>n,fun|22=>53|3=>3|4=>4|40=>287|0=>0|n=>n,fun|n=>n⟩
theorem lay25:Lays2.n25 Tryz.prog lay25_ren:={
 mixed:=by kernel_rfl
 f25:=Tryz.func251.trans (congrArg some (by kernel_rfl))
 f31:=Tryz.func258.trans (congrArg some (by kernel_rfl))
 f32:=Tryz.func259.trans (congrArg some (by kernel_rfl))
 f37:=Tryz.func262.trans (congrArg some (by kernel_rfl))
 t0:=Tryz.underlying0
 a0:=Tryz.isAgg0
 z0:=Tryz.sizeOf0
 v0:=Tryz.zeroValue0
 t3:=Tryz.underlying3
 a3:=Tryz.isAgg3
 z3:=Tryz.sizeOf3
 v3:=Tryz.zeroValue3
 t4:=Tryz.underlying4
 a4:=Tryz.isAgg4
 z4:=Tryz.sizeOf4
 v4:=Tryz.zeroValue4
 t22:=Tryz.underlying53
 a22:=Tryz.isAgg53
 z22:=Tryz.sizeOf53
 v22:=Tryz.zeroValue53
 t40:=Tryz.underlying287
 a40:=Tryz.isAgg287
 z40:=Tryz.sizeOf287
 v40:=Tryz.zeroValue287 }
def lay23_ren:Ren:=⟨fun|23=>170|n=>n,fun|22=>53|3=>3|4=>4|0=>0|n=>n,fun|n=>n⟩
theorem lay23:Lays2.n23 Tryz.prog lay23_ren:={
 mixed:=by kernel_rfl
 f23:=Tryz.func170.trans (congrArg some (by kernel_rfl))
 t0:=Tryz.underlying0
 a0:=Tryz.isAgg0
 z0:=Tryz.sizeOf0
 v0:=Tryz.zeroValue0
 t3:=Tryz.underlying3
 a3:=Tryz.isAgg3
 z3:=Tryz.sizeOf3
 v3:=Tryz.zeroValue3
 t4:=Tryz.underlying4
 a4:=Tryz.isAgg4
 z4:=Tryz.sizeOf4
 v4:=Tryz.zeroValue4
 t22:=Tryz.underlying53
 a22:=Tryz.isAgg53
 z22:=Tryz.sizeOf53
 v22:=Tryz.zeroValue53
 i3:=by kernel_rfl }
def lay21_ren:Ren:=⟨fun|21=>252|27=>260|28=>261|35=>263|39=>264|n=>n,fun|22=>53|3=>3|4=>4|0=>0|n=>n,fun|n=>n⟩
theorem lay21:Lays2.n21 Tryz.prog lay21_ren:={
 mixed:=by kernel_rfl
 f21:=Tryz.func252.trans (congrArg some (by kernel_rfl))
 f27:=Tryz.func260.trans (congrArg some (by kernel_rfl))
 f28:=Tryz.func261.trans (congrArg some (by kernel_rfl))
 f35:=Tryz.func263.trans (congrArg some (by kernel_rfl))
 f39:=Tryz.func264.trans (congrArg some (by kernel_rfl))
 t0:=Tryz.underlying0
 a0:=Tryz.isAgg0
 z0:=Tryz.sizeOf0
 v0:=Tryz.zeroValue0
 t3:=Tryz.underlying3
 a3:=Tryz.isAgg3
 z3:=Tryz.sizeOf3
 v3:=Tryz.zeroValue3
 t4:=Tryz.underlying4
 a4:=Tryz.isAgg4
 z4:=Tryz.sizeOf4
 v4:=Tryz.zeroValue4
 t22:=Tryz.underlying53
 a22:=Tryz.isAgg53
 z22:=Tryz.sizeOf53
 v22:=Tryz.zeroValue53
 i3:=by kernel_rfl }
end
def inI (l:List Int):List Value:=l.map (Value.int .i64)
theorem inI_length (l:List Int):(inI l).length=l.length:=by unfold inI;rw [List.length_map]
theorem inI_one (l:List Int):∀u∈inI l,u.oneCell'=true:=by
 intro u hu
 obtain ⟨x,-,rfl⟩:=List.mem_map.1 hu
 rfl
theorem setCells_blk {e:TypeId} {fz:Nat×Nat} (g:Nat):∀(vs:List Value) (o:Nat) (w:World) (cur:Array Value),w.heap[g]?=some (.cells cur e fz)→∃cur',(w.setCells g o vs).heap[g]?=some (.cells cur' e fz)∧cur'.size=cur.size
 | [],o,w,cur,h=>⟨cur,h,rfl⟩
 | v::r,o,w,cur,h=>by
  obtain ⟨cur',h1,h2⟩:=setCells_blk (e:=e) (fz:=fz) g r (o+1) (w.setCell ⟨g,o,none⟩ v) (cur.setIfInBounds o v) (by
   have hl:=lt_some h
   simp [World.setCell,Array.getElem?_modify,h])
  exact ⟨cur',h1,by rw [h2];simp⟩
theorem setCells_grown (g:Nat):∀(vs:List Value) (o:Nat) (w:World),w.grownBy (w.setCells g o vs) (some g)
 | [],o,w=>grownBl (Bl.refl w) _
 | v::r,o,w=>grown_trans (grown_set g o v) (setCells_grown g r (o+1) _)
theorem own_make {w:World} {base:Nat} {e:TypeId} {g n cap:Nat} {cur:Array Value} {xs:List Value} (hb:base≤g) (hh:w.heap[g]?=some (.cells cur e (0,0))) (hn:n≤cap) (hcap:cap≤maxLen) (hsz:cur.size=cap) (hx:xs.length=n)
  (hc:∀j u,xs[j]?=some u→w.cell? ⟨g,j,none⟩=some u):w.ownsRow base e 1 (.slice (some ⟨g,0,none⟩) n cap) n xs:=by
 refine ⟨by omega,Or.inr ⟨g,cap,cur,rfl,hb,hh,hn,hcap,by omega,?_⟩⟩
 apply List.ext_getElem?
 intro j
 rw [Nat.mul_one,List.getElem?_take]
 by_cases hj:j<n
 ·rw [if_pos hj]
  have hx2:=List.getElem?_eq_getElem (l:=xs) (i:=j) (by omega)
  have:=hc j _ hx2
  rw [hx2,←this]
  simp [World.cell?,hh]
 ·rw [if_neg hj,List.getElem?_eq_none (by omega)]
theorem own_get {w:World} {base:Nat} {e:TypeId} {g n cap:Nat} {xs:List Value} (h:w.ownsRow base e 1 (.slice (some ⟨g,0,none⟩) n cap) n xs):xs.length=n∧base≤g∧n≤cap∧cap≤maxLen∧∃cur,w.heap[g]?=some (.cells cur e (0,0))∧cur.size=cap∧∀j u,xs[j]?=some u→w.cell? ⟨g,j,none⟩=some u:=by
 obtain ⟨h1,h2|⟨g',cap',cur,e1,h3,h4,h5,h6,h7,h8⟩⟩:=h
 ·cases h2.1
 ·cases e1
  refine ⟨by omega,h3,h5,h6,cur,h4,by omega,fun j u hj=>?_⟩
  have hjl:=(List.getElem?_eq_some_iff.1 hj).1
  rw [←h8,Nat.mul_one,List.getElem?_take,if_pos (by omega)] at hj
  simp only [World.cell?,h4]
  simpa using hj
theorem frz_of {w:World} {g:Nat} {cur:Array Value} {e:TypeId} (h:w.heap[g]?=some (.cells cur e (0,0))) (k:Nat):w.frozen? ⟨g,k,none⟩=false:=by simp [World.frozen?,h]
theorem some_of {w:World} {g:Nat} {cur:Array Value} {e:TypeId} (h:w.heap[g]?=some (.cells cur e (0,0))) {k:Nat} (hk:k<cur.size):(w.cell? ⟨g,k,none⟩).isSome=true:=by
 simp [World.cell?,h,hk]
theorem fsearch (vw:Value) (wt:List Int) (x:Int) (w:World) (base:Nat) (h:w.ownsRow base 3 1 vw wt.length (inI wt)) (hs:wt.Pairwise (·≤ ·)) (hl:wt.length≤1000) :
  Calls Tryz.prog 251 #[vw,.int .i64 x] w fun e w'=>e=.returned (.tuple #[.int .i64 (wt.countP (·< x):Nat),.bool (wt.contains x)])∧Bl w w':=by
 have h':=h
 rcases h.2 with ⟨rfl,h0⟩|⟨g,cap,cur,rfl,-⟩
 ·have:wt=[]:=List.length_eq_zero_iff.1 h0
  subst this
  refine (Any.slices_BinarySearch_int_empty lay25 none 0 x w).mono ?_
  rintro e w' ⟨rfl,rfl⟩
  exact ⟨rfl,Bl.refl _⟩
 ·obtain ⟨h1,h2,h3,h4,cur',h5,h6,h7⟩:=own_get h'
  refine (Any.slices_BinarySearch_int lay25 g 0 wt.length cap wt x w (Nat.le_refl _) (by omega) (fun j hj=>?_) (by rw [List.take_length];exact hs)).mono ?_
  ·rw [Nat.zero_add]
   refine h7 j _ ?_
   unfold inI
   simp [List.getD,List.getElem?_eq_getElem hj]
  ·rintro e w' ⟨rfl,q,rfl⟩
   rw [List.take_length]
   exact ⟨rfl,bl_drewN (Bl.refl w) q⟩
structure InsQ (base:Nat) (vw v':Value) (l:List Int) (w w':World):Prop where
 own:w'.ownsRow base 3 1 v' l.length (inI l)
 gr:w.grownBy w' vw.ownBlock
 blk:∀b,v'.ownBlock=some b→vw.ownBlock=some b∨w.heap.size≤b
def insL (wt:List Int) (k:Nat) (x:Int):List Int:=wt.take k++x::wt.drop k
theorem insL_length {wt:List Int} {k:Nat} (x:Int) (h:k≤wt.length):(insL wt k x).length=wt.length+1:=by unfold insL;simp;omega
theorem insL_get {wt:List Int} {k:Nat} {x:Int} (h:k≤wt.length) {j:Nat} {u:Value} (hj:(inI (insL wt k x))[j]?=some u) :
  (j<k∧(inI wt)[j]?=some u)∨(j=k∧u=.int .i64 x)∨(k<j∧j<wt.length+1∧(inI wt)[j-1]?=some u):=by
 have hjl:=(List.getElem?_eq_some_iff.1 hj).1
 rw [inI_length,insL_length x h] at hjl
 unfold inI insL at hj
 unfold inI
 rw [List.getElem?_map,List.getElem?_append,List.length_take] at hj
 by_cases h1:j<k
 ·left
  rw [if_pos (by omega),List.getElem?_take,if_pos h1] at hj
  exact ⟨h1,by rw [List.getElem?_map];exact hj⟩
 ·rw [if_neg (by omega),show min k wt.length=k by omega] at hj
  by_cases h2:j=k
  ·right;left
   subst h2
   rw [Nat.sub_self] at hj
   exact ⟨rfl,(Option.some.inj hj).symm⟩
  ·right;right
   obtain ⟨m,rfl⟩:∃m,j=k+1+m:=⟨j-k-1,by omega⟩
   rw [show k+1+m-k=m+1 by omega,List.getElem?_cons_succ,List.getElem?_drop] at hj
   exact ⟨by omega,by omega,by rw [List.getElem?_map,show k+1+m-1=k+m by omega];exact hj⟩
theorem finsert (vw:Value) (wt:List Int) (k:Nat) (x:Int) (vb vc:Nat) (w:World) (base:Nat) (hk:k≤wt.length) (h:w.ownsRow base 3 1 vw wt.length (inI wt)) (hl:wt.length≤1000) (hbase:base≤w.heap.size)
  (hv:w.heap[vb]?=some (.cells #[.int .i64 x] 3 (0,0))) (hvb:vw.ownBlock≠some vb) :
  Calls Tryz.prog 252 #[vw,.int .i64 k,.slice (some ⟨vb,0,none⟩) 1 vc] w fun e w'=>∃v',e=.returned v'∧InsQ base vw v' (insL wt k x) w w':=by
 have hvs:∀j v,[Value.int .i64 x][j]?=some v→w.cell? ⟨vb,0+j,none⟩=some v:=by
  intro j v hj
  have hjl:=(List.getElem?_eq_some_iff.1 hj).1
  have:j=0:=by simp at hjl;omega
  subst this
  rw [←hj];simp [World.cell?,hv]
 have h1v:∀v∈[Value.int .i64 x],v.oneCell'=true:=by intro v hv;rw [List.mem_singleton.1 hv];rfl
 have h':=h
 have hmax:9223372036854775807=maxLen:=rfl
 have endG:∀(A:Option Addr) (c:Nat),vw=.slice A wt.length c→wt.length≤c→c<wt.length+1→(A=none→wt.length=0)→(∀a,A=some a→∀j v,(inI wt)[j]?=some v→w.cell? (a.add j)=some v)→k=wt.length →
   Calls Tryz.prog 252 #[vw,.int .i64 k,.slice (some ⟨vb,0,none⟩) 1 vc] w fun e w'=>∃v',e=.returned v'∧InsQ base vw v' (insL wt k x) w w':=by
  intro A c e1 hc1 hc2 hn hcs hke
  subst hke
  rw [e1]
  refine (Any2.slices_Insert_int_end_grow lay21 A wt.length c vb 0 1 vc (inI wt) [.int .i64 x] w (by omega) hc1 hc2 (by omega) (inI_length wt) rfl hn hcs hvs h1v).mono ?_
  rintro e w' ⟨rfl,rfl⟩
  refine ⟨_,rfl,?_,?_,?_⟩
  ·rw [insL_length x (Nat.le_refl _)]
   obtain ⟨q,hq⟩:∃q,q=grownCap w (wt.length+1) c (lay21_ren.t 3):=⟨_,rfl⟩
   have q1:wt.length+1≤q:=by rw [hq];exact grownCap_ge _ _ _ _
   have q2:q≤maxLen:=by rw [hq];exact grownCap_le_maxLen _ _ _ _ (by unfold maxLen;omega)
   rw [←hq]
   have hblk:=mblk (w:=w.drew) (cs:=(inI wt++[Value.int .i64 x]).toArray++Builtin.zeroCells (Value.int .i64 0).cells (q-(wt.length+1))) (t:=3) rfl
   refine own_make hbase hblk q1 q2 ?_ (by rw [inI_length,insL_length x (Nat.le_refl _)]) ?_
   ·simp [size_zeroCells,Value.cells,inI_length]
    omega
   ·intro j u hj
    have hjl:=(List.getElem?_eq_some_iff.1 hj).1
    rw [inI_length,insL_length x (Nat.le_refl _)] at hjl
    have e9:insL wt wt.length x=wt++[x]:=by unfold insL;simp
    rw [e9] at hj
    show World.cell? (w.drew.alloc (.cells ((inI wt++[Value.int .i64 x]).toArray++Builtin.zeroCells (Value.int .i64 0).cells (q-(wt.length+1))) 3)) ⟨w.drew.heap.size,j,none⟩=some u
    simp only [World.cell?,hblk]
    refine Eq.trans (Array.getElem?_append_left (by simp [inI_length];omega)) ?_
    unfold inI at hj ⊢
    rw [List.map_append] at hj
    simpa using hj
  ·exact grownBl ((Bl.refl w).drew.alloc _) _
  ·intro b hb
   simp [Value.ownBlock] at hb
   right;omega
 rcases h.2 with ⟨rfl,h0⟩|⟨g,cap,cur,rfl,-⟩
 ·exact endG none 0 (by rw [h0]) (by omega) (by omega) (fun _=>h0) (fun a e=>by cases e) (by omega)
 ·obtain ⟨h1,h2,h3,h4,cur,h5,h6,h7⟩:=own_get h'
  have hgv:vb≠g:=fun e=>hvb (by rw [e];rfl)
  by_cases hke:k=wt.length
  ·by_cases hc:wt.length+1≤cap
   ·subst hke
    refine (Any2.slices_Insert_int_end_room lay21 g 0 wt.length cap vb 0 1 vc [.int .i64 x] w (by omega) hc (by omega) rfl (fun j hj=>?_) (fun j hj=>frz_of h5 _) hvs h1v).mono ?_
    ·exact some_of h5 (by omega)
    ·rintro e w' ⟨rfl,rfl⟩
     obtain ⟨cur2,k1,k2⟩:=setCells_blk g [.int .i64 x] (0+wt.length) w cur h5
     refine ⟨_,rfl,?_,setCells_grown g _ _ w,fun b hb=>Or.inl hb⟩
     rw [insL_length x (Nat.le_refl _)]
     refine own_make h2 k1 hc h4 (by omega) (by rw [inI_length,insL_length x (Nat.le_refl _)]) ?_
     intro j u hj
     rcases insL_get (Nat.le_refl _) hj with ⟨q1,q2⟩|⟨q1,q2⟩|⟨q1,q2,q3⟩
     ·rw [World.cell?_setCells_out g _ _ _ _ (fun _ _=>by left;show j<_;omega)]
      exact h7 j u q2
     ·have:=World.cell?_setCells_in g [Value.int .i64 x] (0+wt.length) w (fun j hj=>some_of h5 (by simp at hj;omega)) 0 (by simp)
      rw [q1,q2]
      simpa using this
     ·omega
   ·exact endG (some ⟨g,0,none⟩) cap rfl h3 (by omega) (fun e=>by cases e) (fun a e j v hj=>by cases e;rw [Addr.add_lit,Nat.zero_add];exact h7 j v hj) hke
  ·have hkl:k<wt.length:=by omega
   by_cases hc:wt.length+1≤cap
   ·refine (Any2.slices_Insert_int_shift lay21 g 0 wt.length cap k vb 0 1 vc (inI wt) [.int .i64 x] w hkl (by omega) hc (by omega) hgv (inI_length wt) rfl (fun j v hj=>by rw [Nat.zero_add];exact h7 j v hj) (fun j hj=>some_of h5 (by omega)) (fun j hj=>frz_of h5 _) hvs (inI_one wt) h1v 3 3 1 cap (by simp [World.shape?,hv]) (by simp [World.shape?,h5,h6]) (by omega) (frz_of hv _) (frz_of hv _)).mono ?_
    rintro e w' ⟨rfl,rfl⟩
    have hd:w.drew.heap[g]?=some (.cells cur 3 (0,0)):=h5
    obtain ⟨cur2,k1,k2⟩:=setCells_blk g ((inI wt).drop k) (0+(k+1)) w.drew cur hd
    obtain ⟨cur3,k3,k4⟩:=setCells_blk g [.int .i64 x] (0+k) _ cur2 k1
    refine ⟨_,rfl,?_,grown_bl' (Bl.refl w).drew (grown_trans (setCells_grown g _ _ _) (setCells_grown g _ _ _)),fun b hb=>Or.inl hb⟩
    rw [insL_length x hk]
    refine own_make h2 k3 hc h4 (by omega) (by rw [inI_length,insL_length x hk]) ?_
    intro j u hj
    rcases insL_get hk hj with ⟨q1,q2⟩|⟨q1,q2⟩|⟨q1,q2,q3⟩
    ·rw [World.cell?_setCells_out g _ _ _ _ (fun _ _=>by left;show j<_;omega),World.cell?_setCells_out g _ _ _ _ (fun _ _=>by left;show j<_;omega)]
     exact h7 j u q2
    ·have:=World.cell?_setCells_in g [Value.int .i64 x] (0+k) (w.drew.setCells g (0+(k+1)) ((inI wt).drop k)) (fun j hj=>some_of k1 (by simp at hj;omega)) 0 (by simp)
     rw [q1,q2]
     simpa using this
    ·rw [World.cell?_setCells_out g _ _ _ _ (fun _ _=>by right;show _≤j;simp;omega)]
     have hdl:((inI wt).drop k).length=wt.length-k:=by rw [List.length_drop,inI_length]
     have:=World.cell?_setCells_in g ((inI wt).drop k) (0+(k+1)) w.drew (fun i hi=>some_of hd (by omega)) (j-(k+1)) (by omega)
     rw [show 0+(k+1)+(j-(k+1))=j by omega] at this
     rw [this,List.getElem_drop,←q3,List.getElem?_eq_getElem (by rw [inI_length];omega)]
     congr 2;omega
   ·refine (Any2.slices_Insert_int_grow lay21 g 0 wt.length cap k vb 0 1 vc (inI wt) [.int .i64 x] w hkl (by omega) h3 (by omega) (by omega) (inI_length wt) rfl (fun j v hj=>by rw [Nat.zero_add];exact h7 j v hj) hvs (inI_one wt) h1v).mono ?_
    rintro e w' ⟨rfl,rfl⟩
    obtain ⟨q,hq⟩:∃q,q=grownCap w (wt.length+1) cap (lay21_ren.t 3):=⟨_,rfl⟩
    have q1:wt.length+1≤q:=by rw [hq];exact grownCap_ge _ _ _ _
    have q2:q≤maxLen:=by rw [hq];exact grownCap_le_maxLen _ _ _ _ (by unfold maxLen;omega)
    rw [←hq]
    obtain ⟨cu,hcu⟩:∃cu,cu=((inI wt).take k).toArray++Builtin.zeroCells (Value.int .i64 0).cells (wt.length+1-k)++Builtin.zeroCells (Value.int .i64 0).cells (q-(wt.length+1)):=⟨_,rfl⟩
    have hcs:cu.size=q:=by rw [hcu];simp [size_zeroCells,Value.cells,inI_length];omega
    have hc0:∀j u,j<k→(inI wt)[j]?=some u→cu[j]?=some u:=by
     intro j u hjk hj
     have hjl:=(List.getElem?_eq_some_iff.1 hj).1
     rw [inI_length] at hjl
     rw [hcu,Array.getElem?_append_left (by simp [size_zeroCells,inI_length];omega),Array.getElem?_append_left (by simp [inI_length];omega)]
     simp [List.getElem?_take,hjk,hj]
    rw [←hcu]
    have hblk:(w.alloc (.cells cu 3)).drew.heap[w.heap.size]?=some (.cells cu 3 (0,0)):=mblk (w:=w) rfl
    obtain ⟨cur2,k1,k2⟩:=setCells_blk w.heap.size [.int .i64 x] k _ cu hblk
    have k1':(((w.alloc (.cells cu 3)).drew.setCells w.heap.size k [.int .i64 x]).drew).heap[w.heap.size]?=some (.cells cur2 3 (0,0)):=k1
    obtain ⟨cur3,k3,k4⟩:=setCells_blk w.heap.size ((inI wt).drop k) (k+1) _ cur2 k1'
    have hgr:Bl w ((((w.alloc (.cells cu 3)).drew.setCells w.heap.size k [.int .i64 x]).drew).setCells w.heap.size (k+1) ((inI wt).drop k)):=by
     have g1:=grown_bl' ((Bl.refl w).alloc (.cells cu 3)).drew (grown_trans (grown_bl2 (setCells_grown w.heap.size [.int .i64 x] k _) (Bl.refl _).drew) (setCells_grown w.heap.size ((inI wt).drop k) (k+1) _))
     exact ⟨g1.os,g1.tape,g1.output,g1.size,fun i hi=>g1.block i hi (fun e=>by cases e;omega)⟩
    refine ⟨_,rfl,?_,grownBl hgr _,fun b hb=>Or.inr (by simp [Value.ownBlock] at hb;omega)⟩
    rw [insL_length x hk]
    refine own_make hbase k3 q1 q2 (by omega) (by rw [inI_length,insL_length x hk]) ?_
    intro j u hj
    rcases insL_get hk hj with ⟨p1,p2⟩|⟨p1,p2⟩|⟨p1,p2,p3⟩
    ·rw [World.cell?_setCells_out w.heap.size _ _ _ _ (fun _ _=>by left;show j<_;omega)]
     show World.cell? ((w.alloc (.cells cu 3)).drew.setCells w.heap.size k [.int .i64 x]) _=_
     rw [World.cell?_setCells_out w.heap.size _ _ _ _ (fun _ _=>by left;show j<_;omega)]
     simp only [World.cell?,hblk]
     exact hc0 j u p1 p2
    ·rw [World.cell?_setCells_out w.heap.size _ _ _ _ (fun _ _=>by left;show j<_;omega)]
     show World.cell? ((w.alloc (.cells cu 3)).drew.setCells w.heap.size k [.int .i64 x]) _=_
     have:=World.cell?_setCells_in w.heap.size [Value.int .i64 x] k ((w.alloc (.cells cu 3)).drew) (fun j hj=>some_of hblk (by simp at hj;omega)) 0 (by simp)
     rw [p1,p2]
     simpa using this
    ·have hdl:((inI wt).drop k).length=wt.length-k:=by rw [List.length_drop,inI_length]
     have:=World.cell?_setCells_in w.heap.size ((inI wt).drop k) (k+1) (((w.alloc (.cells cu 3)).drew.setCells w.heap.size k [.int .i64 x]).drew) (fun i hi=>some_of k1' (by omega)) (j-(k+1)) (by omega)
     rw [show k+1+(j-(k+1))=j by omega] at this
     refine this.trans ?_
     rw [List.getElem_drop,←p3,List.getElem?_eq_getElem (by rw [inI_length];omega)]
     congr 2;omega
theorem fdelete (vw:Value) (x:Int) (r:List Int) (w:World) (base:Nat) (h:w.ownsRow base 3 1 vw (x::r).length (inI (x::r))) (hl:(x::r).length≤1000) :
  Calls Tryz.prog 170 #[vw,.int .i64 0,.int .i64 1] w fun e w'=>∃v',e=.returned v'∧InsQ base vw v' r w w':=by
 have h':=h
 rcases h.2 with ⟨rfl,h0⟩|⟨g,cap,cur,rfl,-⟩
 ·cases h0
 ·obtain ⟨h1,h2,h3,h4,cur,h5,h6,h7⟩:=own_get h'
  have hmax:9223372036854775807=maxLen:=rfl
  refine (Any.slices_Delete_int_cells lay23 g 0 (x::r).length cap 0 1 (x::r) w (Nat.le_refl _) h3 (by omega) (by omega) (by simp) (fun j hj=>?_) (fun j hj=>frz_of h5 _)).mono ?_
  ·rw [Nat.zero_add]
   refine h7 j _ ?_
   unfold inI
   rw [List.getElem?_map,List.getElem?_eq_getElem hj]
   simp [List.getD,List.getElem?_eq_getElem hj]
  ·rintro e w' ⟨rfl,q,rfl⟩
   have hd:(w.drewN q).heap[g]?=some (.cells cur 3 (0,0)):=bl_blk (bl_drewN (Bl.refl w) q) h5
   obtain ⟨cur2,k1,k2⟩:=setCells_blk g (((((x::r).take (x::r).length).take 0++((x::r).take (x::r).length).drop 1++List.replicate (1-0) 0)).map (Value.int .i64)) 0 (w.drewN q) cur hd
   refine ⟨_,rfl,?_,grown_bl' (bl_drewN (Bl.refl w) q) (setCells_grown g _ _ _),fun b hb=>Or.inl hb⟩
   refine own_make h2 k1 (by simp at h3 ⊢;omega) h4 (by omega) (by rw [inI_length];simp) ?_
   intro j u hj
   have hjl:=(List.getElem?_eq_some_iff.1 hj).1
   rw [inI_length] at hjl
   have hin:=World.cell?_setCells_in g (((((x::r).take (x::r).length).take 0++((x::r).take (x::r).length).drop 1++List.replicate (1-0) 0)).map (Value.int .i64)) 0 (w.drewN q) (fun i hi=>some_of hd (by simp at hi h3;omega)) j (by simp;omega)
   rw [Nat.zero_add] at hin
   refine hin.trans ?_
   rw [←hj]
   unfold inI
   simp [List.getElem?_eq_getElem hjl]
   rw [List.getElem_append_left (by simpa using hjl),List.getElem_map]
end Go.Proofs.YtgiiapenmjollaaGreat
