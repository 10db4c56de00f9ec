import Derived.Test.YtgiiapenmjollabGreatRlat
namespace Go.Proofs.YtgiiapenmjollabGreat
set_option linter.all false
set_option maxHeartbeats 40000000
set_option maxRecDepth 100000
open Go.RowKit
section
open Go.Maps (Keyed has)
theorem get_at {s:Nat} {X:Nat→Prop} {wx w0 w:World} {g:Mg} {h:Hp} {qs:List Qb} {a:Mc} {c:Cal} (H:RX s X wx w0 g w h qs a c) {v:Va} {cc k:Nat} (hz:h.of v ⟨3,(cc:Int)⟩=true) (hm:h.mustB true=true) (hn:¬v.n<0) (hv:v.n<h.objs.length) (hkf:k<(nth cl0 h.file.classes cc).fields.length) :
  ∃o j:Nat,v.n=o∧o<h.objs.length∧j<(nth ob0 h.objs o).held.length∧heldAt (nth ob0 h.objs o).held (cc:Int) (k:Int)=j∧(nth hel0 (nth ob0 h.objs o).held j).cls=cc∧(nth hel0 (nth ob0 h.objs o).held j).fld=k∧h.getV v cc k=(nth hel0 (nth ob0 h.objs o).held j).v:=by
 obtain ⟨o,ho'⟩:∃o:Nat,v.n=o:=⟨v.n.toNat,by omega⟩
 have hol:o<h.objs.length:=by omega
 have hobj:h.obj v.n=nth ob0 h.objs o:=by unfold Hp.obj;rw [ho',Int.toNat_natCast]
 have hbel:belI h.file.classes (nth ob0 h.objs o).cls (cc:Int)=true:=by
  have hz':=hz
  unfold Hp.of at hz'
  rw [hobj] at hz'
  simp [hn] at hz'
  exact hz'.2
 obtain ⟨j,j1,j2,j3,j4,j5⟩:=H.find hol hbel hkf
 have egv:h.getV v cc k=(nth hel0 (nth ob0 h.objs o).held j).v:=by
  have hfn:h.findN v cc k=j:=by
   unfold Hp.findN
   rw [hz,if_pos hm,if_neg hn,hobj]
   exact j2
  unfold Hp.getV
  rw [hfn,if_neg (by omega),hobj,Int.toNat_natCast]
 exact ⟨o,j,ho',hol,j1,j2,j3,j4,egv⟩
theorem value_op17 (X:Nat→Prop) (wx w0:World) (g:Mg) (h:Hp) (qs:List Qb) (a:Mc) (c:Cal) (ia ib ic ii:Int) (args:List Int) (Q:Option Addr) (nl q:Nat) (w:World) (H:RX 1 X wx w0 g w h qs a c) (hs:h.stops=false) (hb:0≤ib∧ib<c.locs.length) (F:Fix w0 g h) (hob:h.objs.length≤100) (hvg:(c.rd ib).kind=3→-1≤(c.rd ib).n∧(c.rd ib).n<h.objs.length) :
  Calls Tryz.prog 209 #[.pointer (some ⟨a.q,0,none⟩),.agg #[.int .i64 17,.int .i64 ia,.int .i64 ib,.int .i64 ic,.int .i64 ii,.slice Q nl q]] w fun e w'=>ValQ X wx w0 g qs a c (valH h c ⟨17,ia,ib,ic,ii,args⟩) (valV h c ⟨17,ia,ib,ic,ii,args⟩) e w':=by
 have ho:=(stops_not hs).1
 have HH:=hid H
 have HS:=hid hs
 have hq:=H.qlt
 obtain ⟨L0,L1⟩:=two_lie w #[.int .i64 17,.int .i64 ia,.int .i64 ib,.int .i64 ic,.int .i64 ii,.slice Q nl q] #[.int .i64 0,.int .i64 0] 58 115
 have HB:Hid (Bl w ((w.alloc (.cells #[.int .i64 17,.int .i64 ia,.int .i64 ib,.int .i64 ic,.int .i64 ii,.slice Q nl q] 58)).alloc mvZ)):=((Bl.refl w).alloc _).alloc _
 have HL0:=hid L0
 have HL1:=hid L1
 have hn0:w.heap.size≠a.q:=by omega
 have hn1:w.heap.size+1≠a.q:=by omega
 have hn2:w.heap.size≠w.heap.size+1:=by omega
 clear L0 L1
 have z0:=hid (H.y.bl HB.out).hb
 have z1:=hid (insC HL0.out)
 by_cases e1:(c.rd ib).kind=3
 ·have eH:valH h c ⟨17,ia,ib,ic,ii,args⟩=h:=by simp [valH,givesH,rdH_yes e1,ho,isRef,e1,must_yes]
  have eV:valV h c ⟨17,ia,ib,ic,ii,args⟩=⟨1,if (decide (0≤(c.rd ib).n)&&belI h.file.classes (h.obj (c.rd ib).n).cls ic)=true then 1 else 0⟩:=by simp [valV,givesV,rdH_yes e1,ho,Hp.isV,isRef,e1,Hp.mustB]
  rw [eH,eV]
  have HR:Hid (∀w',RX 1 X wx w0 g w' h qs a c→Calls Tryz.prog 137 #[.pointer (some ⟨a.q,0,none⟩),.int .i64 ib,.int .i64 3] w' fun e w2=>e=.returned (mvV (im (c.rd ib)))∧Bl w' w2):=fun w' H=>rd_yes 1 X wx w0 g h qs a c ib 3 w' H hb (by omega) (fun x=>by omega) e1
  have HF:=hid (And.intro F hob)
  have HV:=hid (And.intro e1 (hvg e1))
  have HG:Hid (∀w',RX 1 X wx w0 g w' h qs a c→Calls Tryz.prog 210 #[.pointer (some ⟨g.hb,0,none⟩),mvV (im (c.rd ib)),.int .i64 ic] w' fun e w2=>e=.returned (.bool (decide (0≤(c.rd ib).n)&&belI h.file.classes (h.obj (c.rd ib).n).cls ic))∧Bl w' w2):=fun w' H=>mbelow_any g h (c.rd ib) ic w' (H.rd F hob) e1 (hvg e1).1 (hvg e1).2
  generalize (decide (0≤(c.rd ib).n)&&belI h.file.classes (h.obj (c.rd ib).n).cls ic)=bb at *
  generalize im (c.rd ib)=U at *
  have HTR:Hid (∀w',Calls Tryz.prog 267 #[.bool bb] w' fun e w2=>e=.returned (mvV ⟨1,if bb=true then 1 else 0⟩)∧Bl w' w2):=fun w'=>truth_any bb w'
  generalize (if bb=true then (1:Int) else 0)=tb at *
  have HE:Hid (∀w',RX 1 X wx w0 g w' h qs a c→ValQ X wx w0 g qs a c h ⟨1,tb⟩ (.returned (mvV ⟨1,tb⟩)) w'):=fun w' H=>val_go hs rfl H
  clear H hs eH eV hb F hob hvg e1
  go_enter Tryz.func209,Tryz.ntmps209
  go_wp2
  refine wp_region_held_drew (S:=fun w'=>w'.cell? ⟨a.q,0,none⟩=some (.pointer (some ⟨g.hb,0,none⟩))∧w'.cell? ⟨w.heap.size,2,none⟩=some (.int .i64 ib)∧w'.cell? ⟨w.heap.size,3,none⟩=some (.int .i64 ic)) (by kernel_rfl) ?_ (fun hHeld0=>?_)
  ·exact ⟨z0.out,z1.out.2.2.1,z1.out.2.2.2.1⟩
  refine tk (i:=0) (d:=some 57) rfl rfl (by kernel_rfl) (fun _ _ _ h=>h) (by rfl) (by intro _ h;(try dsimp only at h);go_split_ands;go_simp<;>with_reducible rfl) hHeld0 ?_
  try simp only [aS,aN,aT,a0,a1]
  refine tk (i:=1) (d:=some 58) rfl rfl (by kernel_rfl) (fun _ _ _ h=>h) (by rfl) (by intro _ h;(try dsimp only at h);go_split_ands;go_simp<;>with_reducible rfl) hHeld0 ?_
  try simp only [aS,aN,aT,a0,a1]
  refine tk (i:=2) (d:=some 59) rfl rfl (by kernel_rfl) (fun _ _ _ h=>h) (by rfl) (by intro _ h;(try dsimp only at h);go_split_ands;go_simp<;>with_reducible rfl) hHeld0 ?_
  try simp only [aS,aN,aT,a0,a1]
  refine tk (i:=3) (d:=some 60) rfl rfl (by kernel_rfl) (fun _ _ _ h=>h) (by rfl) (by intro _ h;(try dsimp only at h);go_split_ands;go_simp<;>with_reducible rfl) hHeld0 ?_
  try simp only [aS,aN,aT,a0,a1]
  refine tk (i:=4) (d:=some 61) rfl rfl (by kernel_rfl) (fun _ _ _ h=>h) (by rfl) (by intro _ h;(try dsimp only at h);go_split_ands;go_simp<;>with_reducible rfl) hHeld0 ?_
  try simp only [aS,aN,aT,a0,a1]
  refine tk (i:=5) (d:=some 62) rfl rfl (by kernel_rfl) (fun _ _ _ h=>h) (by rfl) (by intro _ h;(try dsimp only at h);go_split_ands;go_simp<;>with_reducible rfl) hHeld0 ?_
  try simp only [aS,aN,aT,a0,a1]
  refine tk (i:=6) (d:=some 63) rfl rfl (by kernel_rfl) (fun _ _ _ h=>h) (by rfl) (by intro _ h;(try dsimp only at h);go_split_ands;go_simp<;>with_reducible rfl) hHeld0 ?_
  try simp only [aS,aN,aT,a0,a1]
  refine tk (i:=8) (d:=some 65) rfl rfl (by kernel_rfl) (fun _ _ _ h=>h) (by rfl) (by intro _ h;(try dsimp only at h);go_split_ands;go_simp<;>with_reducible rfl) hHeld0 ?_
  try simp only [aS,aN,aT,a0,a1]
  refine tk (i:=9) (d:=some 66) rfl rfl (by kernel_rfl) (fun _ _ _ h=>h) (by rfl) (by intro _ h;(try dsimp only at h);go_split_ands;go_simp<;>with_reducible rfl) hHeld0 ?_
  try simp only [aS,aN,aT,a0,a1]
  refine rd1 (i:=7) (by kernel_rfl) rfl fun K hK=>?_
  go_simp
  go_at_call 137
  refine (HR.out _ (HH.out.bl (HB.out.drew))).mono ?_
  rintro e w1 ⟨rfl,b1⟩
  have da0:=hid (b1.cell hHeld0.1)
  have da1:=hid (b1.cell hHeld0.2.1)
  have da2:=hid (b1.cell hHeld0.2.2)
  replace b1:=hid b1
  go_wp2_with fail
  refine hK.out _ _ (⟨da0.out,da1.out,da2.out⟩) (fun hHeld1=>?_)
  try simp only [aS,aN,aT,a0,a1]
  refine rd1 (i:=10) (by kernel_rfl) rfl fun K hK=>?_
  go_simp
  go_at_call 210
  refine (HG.out _ (HH.out.bl (HB.out.drew.trans b1.out))).mono ?_
  rintro e w2 ⟨rfl,b2⟩
  have db0:=hid (b2.cell hHeld1.1)
  have db1:=hid (b2.cell hHeld1.2.1)
  have db2:=hid (b2.cell hHeld1.2.2)
  replace b2:=hid b2
  go_wp2_with fail
  refine hK.out _ _ (⟨db0.out,db1.out,db2.out⟩) (fun hHeld2=>?_)
  try simp only [aS,aN,aT,a0,a1]
  refine rd1 (i:=11) (by kernel_rfl) rfl fun K hK=>?_
  go_simp
  go_at_call 267
  refine (HTR.out _).mono ?_
  rintro e w3 ⟨rfl,b3⟩
  have dc0:=hid (b3.cell hHeld2.1)
  have dc1:=hid (b3.cell hHeld2.2.1)
  have dc2:=hid (b3.cell hHeld2.2.2)
  replace b3:=hid b3
  have bb3:=hid (((HB.out.drew.trans b1.out).trans b2.out).trans b3.out)
  have q1:=bl_blk ((b1.out.trans b2.out).trans b3.out) HL1.out
  have c4:=c0_of q1
  have c5:=c1_of q1
  have fz:=free_blk q1
  replace q1:=hid q1
  go_wp2_with fail
  refine hK.out _ _ (⟨dc0.out,dc1.out,dc2.out⟩) (fun hHeld3=>?_)
  try simp only [aS,aN,aT,a0,a1]
  refine rd1 (i:=12) (by kernel_rfl) rfl fun K hK=>?_
  go_wp2_with fail
  refine hK.out _ _ (⟨set2_cellD dc0.out (Ne.symm hn1),set2_cellD dc1.out hn2,set2_cellD dc2.out hn2⟩) (fun hHeld4=>?_)
  try simp only [aS,aN,aT,a0,a1]
  refine wpAnyH_done (by kernel_rfl) ?_ _
  go_wp2
  refine bodyPost_ret (results_cell_row rfl _ _ (w.heap.size+1) _ _ _ _ rfl (set_two q1.out) Tryz.underlying115 rfl info_mv) rfl ?_
  exact HE.out _ (HH.out.bl (bl_two bb3.out (by omega) _ _))
 ·have eH:valH h c ⟨17,ia,ib,ic,ii,args⟩=h.fin 6:=by simp [valH,givesH,rdH_no e1,(fin6 ho 6).1]
  rw [eH]
  have HR:Hid (∀w',RX 1 X wx w0 g w' h qs a c→Calls Tryz.prog 137 #[.pointer (some ⟨a.q,0,none⟩),.int .i64 ib,.int .i64 3] w' fun e w2=>e=stopE 6 0 0∧Bl w' w2):=fun w' H=>rd_no 1 X wx w0 g h qs a c ib 3 w' H hb (by omega) (fun x=>by omega) e1
  generalize valV h c ⟨17,ia,ib,ic,ii,args⟩=V
  clear H hs eH hb F hob hvg e1
  go_enter Tryz.func209,Tryz.ntmps209
  go_wp2
  refine wp_region_held_drew (S:=fun w'=>w'.cell? ⟨a.q,0,none⟩=some (.pointer (some ⟨g.hb,0,none⟩))∧w'.cell? ⟨w.heap.size,2,none⟩=some (.int .i64 ib)∧w'.cell? ⟨w.heap.size,3,none⟩=some (.int .i64 ic)) (by kernel_rfl) ?_ (fun hHeld0=>?_)
  ·exact ⟨z0.out,z1.out.2.2.1,z1.out.2.2.2.1⟩
  refine tk (i:=0) (d:=some 57) rfl rfl (by kernel_rfl) (fun _ _ _ h=>h) (by rfl) (by intro _ h;(try dsimp only at h);go_split_ands;go_simp<;>with_reducible rfl) hHeld0 ?_
  try simp only [aS,aN,aT,a0,a1]
  refine tk (i:=1) (d:=some 58) rfl rfl (by kernel_rfl) (fun _ _ _ h=>h) (by rfl) (by intro _ h;(try dsimp only at h);go_split_ands;go_simp<;>with_reducible rfl) hHeld0 ?_
  try simp only [aS,aN,aT,a0,a1]
  refine tk (i:=2) (d:=some 59) rfl rfl (by kernel_rfl) (fun _ _ _ h=>h) (by rfl) (by intro _ h;(try dsimp only at h);go_split_ands;go_simp<;>with_reducible rfl) hHeld0 ?_
  try simp only [aS,aN,aT,a0,a1]
  refine tk (i:=3) (d:=some 60) rfl rfl (by kernel_rfl) (fun _ _ _ h=>h) (by rfl) (by intro _ h;(try dsimp only at h);go_split_ands;go_simp<;>with_reducible rfl) hHeld0 ?_
  try simp only [aS,aN,aT,a0,a1]
  refine tk (i:=4) (d:=some 61) rfl rfl (by kernel_rfl) (fun _ _ _ h=>h) (by rfl) (by intro _ h;(try dsimp only at h);go_split_ands;go_simp<;>with_reducible rfl) hHeld0 ?_
  try simp only [aS,aN,aT,a0,a1]
  refine tk (i:=5) (d:=some 62) rfl rfl (by kernel_rfl) (fun _ _ _ h=>h) (by rfl) (by intro _ h;(try dsimp only at h);go_split_ands;go_simp<;>with_reducible rfl) hHeld0 ?_
  try simp only [aS,aN,aT,a0,a1]
  refine tk (i:=6) (d:=some 63) rfl rfl (by kernel_rfl) (fun _ _ _ h=>h) (by rfl) (by intro _ h;(try dsimp only at h);go_split_ands;go_simp<;>with_reducible rfl) hHeld0 ?_
  try simp only [aS,aN,aT,a0,a1]
  refine tk (i:=8) (d:=some 65) rfl rfl (by kernel_rfl) (fun _ _ _ h=>h) (by rfl) (by intro _ h;(try dsimp only at h);go_split_ands;go_simp<;>with_reducible rfl) hHeld0 ?_
  try simp only [aS,aN,aT,a0,a1]
  refine tk (i:=9) (d:=some 66) rfl rfl (by kernel_rfl) (fun _ _ _ h=>h) (by rfl) (by intro _ h;(try dsimp only at h);go_split_ands;go_simp<;>with_reducible rfl) hHeld0 ?_
  try simp only [aS,aN,aT,a0,a1]
  refine rd1 (i:=7) (by kernel_rfl) rfl fun K hK=>?_
  go_simp
  go_at_call 137
  refine (HR.out _ (HH.out.bl (HB.out.drew))).mono ?_
  rintro e w1 ⟨rfl,b1⟩
  exact ⟨rfl,val_fin (stops_not HS.out).1 rfl (HH.out.bl (HB.out.drew.trans b1)).rs⟩
theorem value_op14 (X:Nat→Prop) (wx w0:World) (g:Mg) (h:Hp) (qs:List Qb) (a:Mc) (c:Cal) (ia ib ic ii:Int) (args:List Int) (Q:Option Addr) (nl q:Nat) (w:World) (H:RX 1 X wx w0 g w h qs a c) (hs:h.stops=false) (hb:0≤ib∧ib<c.locs.length) (F:Fix w0 g h) (hob:h.objs.length≤100) (hvg:(c.rd ib).kind=3→-1≤(c.rd ib).n∧(c.rd ib).n<h.objs.length) (hfl:0≤ic∧ic<h.file.classes.length∧0≤ii∧ii<(nth cl0 h.file.classes ic.toNat).fields.length) :
  Calls Tryz.prog 209 #[.pointer (some ⟨a.q,0,none⟩),.agg #[.int .i64 14,.int .i64 ia,.int .i64 ib,.int .i64 ic,.int .i64 ii,.slice Q nl q]] w fun e w'=>ValQ X wx w0 g qs a c (valH h c ⟨14,ia,ib,ic,ii,args⟩) (valV h c ⟨14,ia,ib,ic,ii,args⟩) e w':=by
 obtain ⟨cc,rfl⟩:∃cc:Nat,ic=cc:=⟨ic.toNat,by omega⟩
 obtain ⟨k,rfl⟩:∃k:Nat,ii=k:=⟨ii.toNat,by omega⟩
 rw [Int.toNat_natCast] at hfl
 have hc:cc<h.file.classes.length:=by omega
 have hkf:k<(nth cl0 h.file.classes cc).fields.length:=by omega
 have ho:=(stops_not hs).1
 have HH:=hid H
 have HS:=hid hs
 have hq:=H.qlt
 obtain ⟨L0,L1⟩:=two_lie w #[.int .i64 14,.int .i64 ia,.int .i64 ib,.int .i64 (cc:Int),.int .i64 (k:Int),.slice Q nl q] #[.int .i64 0,.int .i64 0] 58 115
 have HB:Hid (Bl w ((w.alloc (.cells #[.int .i64 14,.int .i64 ia,.int .i64 ib,.int .i64 (cc:Int),.int .i64 (k:Int),.slice Q nl q] 58)).alloc mvZ)):=((Bl.refl w).alloc _).alloc _
 have HL0:=hid L0
 have HL1:=hid L1
 have hn0:w.heap.size≠a.q:=by omega
 have hn1:w.heap.size+1≠a.q:=by omega
 have hn2:w.heap.size≠w.heap.size+1:=by omega
 clear L0 L1
 have z0:=hid (H.y.bl HB.out).hb
 have z1:=hid (insC HL0.out)
 have TK:(1:Int)≤(⟨3,(cc:Int)⟩:Ty).kind∧(⟨3,(cc:Int)⟩:Ty).kind≤3:=⟨by show (1:Int)≤3;decide,by show (3:Int)≤3;decide⟩
 have T2:(⟨3,(cc:Int)⟩:Ty).kind=2→ib+1<c.locs.length:=fun x=>by have:(3:Int)=2:=x;omega
 cases hz:h.of (c.rd ib) ⟨3,(cc:Int)⟩ with
 | false =>
  have eH:valH h c ⟨14,ia,ib,(cc:Int),(k:Int),args⟩=h.fin 6:=by
   have e0:valH h c ⟨14,ia,ib,(cc:Int),(k:Int),args⟩=(if (h.rdH c ib 3).over=true then h.rdH c ib 3 else (h.rdH c ib 3).findH (c.rd ib) cc):=by simp [valH,givesH]
   rw [e0]
   by_cases e1:(c.rd ib).kind=3
   ·rw [rdH_yes e1,if_neg (by rw [ho];decide)]
    unfold Hp.findH Hp.mustB
    rw [hz,Bool.false_and,if_neg (by decide),must_no rfl]
   ·rw [rdH_no e1,if_pos (fin6 ho 6).1]
  rw [eH]
  have HT:Hid (∀w',RX 1 X wx w0 g w' h qs a c→Calls Tryz.prog 201 #[.pointer (some ⟨a.q,0,none⟩),.int .i64 ib,tyMV ⟨3,(cc:Int)⟩] w' fun e w2=>e=stopE 6 0 0∧Bl w' w2):=fun w' H=>rdT_no 1 X wx w0 g h qs a c ib ⟨3,(cc:Int)⟩ w' H F hob hb TK T2 hvg hz
  generalize valV h c ⟨14,ia,ib,(cc:Int),(k:Int),args⟩=V
  clear H hs eH hb F hob hvg hz hfl hc hkf TK T2
  go_enter Tryz.func209,Tryz.ntmps209
  go_wp2
  refine wp_region_held_drew (S:=fun w'=>w'.cell? ⟨a.q,0,none⟩=some (.pointer (some ⟨g.hb,0,none⟩))∧w'.cell? ⟨w.heap.size,2,none⟩=some (.int .i64 ib)∧w'.cell? ⟨w.heap.size,3,none⟩=some (.int .i64 (cc:Int))∧w'.cell? ⟨w.heap.size,4,none⟩=some (.int .i64 (k:Int))) (by kernel_rfl) ?_ (fun hHeld0=>?_)
  ·exact ⟨z0.out,z1.out.2.2.1,z1.out.2.2.2.1,z1.out.2.2.2.2.1⟩
  refine tk (i:=0) (d:=some 39) rfl rfl (by kernel_rfl) (fun _ _ _ h=>h) (by rfl) (by intro _ h;(try dsimp only at h);go_split_ands;go_simp<;>with_reducible rfl) hHeld0 ?_
  try simp only [aS,aN,aT,a0,a1]
  refine tk (i:=1) (d:=some 40) rfl rfl (by kernel_rfl) (fun _ _ _ h=>h) (by rfl) (by intro _ h;(try dsimp only at h);go_split_ands;go_simp<;>with_reducible rfl) hHeld0 ?_
  try simp only [aS,aN,aT,a0,a1]
  refine tk (i:=2) (d:=some 41) rfl rfl (by kernel_rfl) (fun _ _ _ h=>h) (by rfl) (by intro _ h;(try dsimp only at h);go_split_ands;go_simp<;>with_reducible rfl) hHeld0 ?_
  try simp only [aS,aN,aT,a0,a1]
  refine tk (i:=3) (d:=some 42) rfl rfl (by kernel_rfl) (fun _ _ _ h=>h) (by rfl) (by intro _ h;(try dsimp only at h);go_split_ands;go_simp<;>with_reducible rfl) hHeld0 ?_
  try simp only [aS,aN,aT,a0,a1]
  refine tk (i:=4) (d:=some 43) rfl rfl (by kernel_rfl) (fun _ _ _ h=>h) (by rfl) (by intro _ h;(try dsimp only at h);go_split_ands;go_simp<;>with_reducible rfl) hHeld0 ?_
  try simp only [aS,aN,aT,a0,a1]
  refine tk (i:=5) (d:=some 44) rfl rfl (by kernel_rfl) (fun _ _ _ h=>h) (by rfl) (by intro _ h;(try dsimp only at h);go_split_ands;go_simp<;>with_reducible rfl) hHeld0 ?_
  try simp only [aS,aN,aT,a0,a1]
  refine tk (i:=6) (d:=some 45) rfl rfl (by kernel_rfl) (fun _ _ _ h=>h) (by rfl) (by intro _ h;(try dsimp only at h);go_split_ands;go_simp<;>with_reducible rfl) hHeld0 ?_
  try simp only [aS,aN,aT,a0,a1]
  refine tk (i:=7) (d:=some 46) rfl rfl (by kernel_rfl) (fun _ _ _ h=>h) (by rfl) (by intro _ h;(try dsimp only at h);go_split_ands;go_simp<;>with_reducible rfl) hHeld0 ?_
  try simp only [aS,aN,aT,a0,a1]
  refine tk (i:=8) (d:=some 47) rfl rfl (by kernel_rfl) (fun _ _ _ h=>h) (by rfl) (by intro _ h;(try dsimp only at h);go_split_ands;go_simp<;>with_reducible rfl) hHeld0 ?_
  try simp only [aS,aN,aT,a0,a1]
  refine tk (i:=11) (d:=some 50) rfl rfl (by kernel_rfl) (fun _ _ _ h=>h) (by rfl) (by intro _ h;(try dsimp only at h);go_split_ands;go_simp<;>with_reducible rfl) hHeld0 ?_
  try simp only [aS,aN,aT,a0,a1]
  refine tk (i:=12) (d:=some 51) rfl rfl (by kernel_rfl) (fun _ _ _ h=>h) (by rfl) (by intro _ h;(try dsimp only at h);go_split_ands;go_simp<;>with_reducible rfl) hHeld0 ?_
  try simp only [aS,aN,aT,a0,a1]
  refine tk (i:=13) (d:=some 52) rfl rfl (by kernel_rfl) (fun _ _ _ h=>h) (by rfl) (by intro _ h;(try dsimp only at h);go_split_ands;go_simp<;>with_reducible rfl) hHeld0 ?_
  try simp only [aS,aN,aT,a0,a1]
  refine tk (i:=14) (d:=some 53) rfl rfl (by kernel_rfl) (fun _ _ _ h=>h) (by rfl) (by intro _ h;(try dsimp only at h);go_split_ands;go_simp<;>with_reducible rfl) hHeld0 ?_
  try simp only [aS,aN,aT,a0,a1]
  refine rd1 (i:=9) (by kernel_rfl) rfl fun K hK=>?_
  go_simp
  go_at_call 205
  refine (refOf_any (cc:Int) _).mono ?_
  rintro e w1 ⟨rfl,b1⟩
  have da0:=hid (b1.cell hHeld0.1)
  have da1:=hid (b1.cell hHeld0.2.1)
  have da2:=hid (b1.cell hHeld0.2.2.1)
  have da3:=hid (b1.cell hHeld0.2.2.2)
  replace b1:=hid b1
  go_wp2_with fail
  refine hK.out _ _ (⟨da0.out,da1.out,da2.out,da3.out⟩) (fun hHeld1=>?_)
  try simp only [aS,aN,aT,a0,a1]
  refine rd1 (i:=10) (by kernel_rfl) rfl fun K hK=>?_
  go_simp
  go_at_call 201
  refine (HT.out _ (HH.out.bl (HB.out.drew.trans b1.out))).mono ?_
  rintro e w2 ⟨rfl,b2⟩
  exact ⟨rfl,val_fin (stops_not HS.out).1 rfl (HH.out.bl ((HB.out.drew.trans b1.out).trans b2)).rs⟩
 | true =>
  have e1:(c.rd ib).kind=3:=of_ref hz
  have hv3:=hvg e1
  have hm:h.mustB true=true:=by unfold Hp.mustB;rw [ho];rfl
  have e0:valH h c ⟨14,ia,ib,(cc:Int),(k:Int),args⟩=h.findH (c.rd ib) cc:=by simp [valH,givesH,rdH_yes e1,ho]
  have e2:valV h c ⟨14,ia,ib,(cc:Int),(k:Int),args⟩=h.getV (c.rd ib) cc k:=by simp [valV,givesV,rdH_yes e1,ho]
  rw [e0,e2]
  have HT:Hid (∀w',RX 1 X wx w0 g w' h qs a c→Calls Tryz.prog 201 #[.pointer (some ⟨a.q,0,none⟩),.int .i64 ib,tyMV ⟨3,(cc:Int)⟩] w' fun e w2=>e=.returned (mvV (im (c.rd ib)))∧Bl w' w2):=fun w' H=>rdT_yes 1 X wx w0 g h qs a c ib ⟨3,(cc:Int)⟩ w' H F hob hb TK T2 hvg hz
  by_cases hn:(c.rd ib).n<0
  ·have eg:h.findH (c.rd ib) cc=h.raise 1:=by unfold Hp.findH;rw [hz,if_pos hm,if_pos hn]
   rw [eg]
   obtain ⟨ch,hch⟩:=raiseE_pan h
   have HG:Hid (∀w',RX 1 X wx w0 g w' h qs a c→Calls Tryz.prog 266 #[.pointer (some ⟨g.hb,0,none⟩),mvV (im (c.rd ib)),.int .i64 (cc:Int),.int .i64 (k:Int)] w' fun e w2=>e=.panicked ch∧RX 1 X wx w0 g w2 (h.raise 1) qs a c):=fun w' H=>hch▸mget_nil 1 X wx w0 g h qs a c (c.rd ib) cc k w' H hob ho e1 (by omega)
   generalize h.getV (c.rd ib) cc k=V
   have HE:Hid (∀w',RX 1 X wx w0 g w' (h.raise 1) qs a c→ValQ X wx w0 g qs a c (h.raise 1) V (.panicked ch) w'):=fun w' H=>hch▸val_raise hs rfl H.rs
   generalize im (c.rd ib)=U at *
   clear H hs e0 e2 eg hb F hob hvg hz hfl hc hkf TK T2 e1 hv3 hm hn hch
   go_enter Tryz.func209,Tryz.ntmps209
   go_wp2
   refine wp_region_held_drew (S:=fun w'=>w'.cell? ⟨a.q,0,none⟩=some (.pointer (some ⟨g.hb,0,none⟩))∧w'.cell? ⟨w.heap.size,2,none⟩=some (.int .i64 ib)∧w'.cell? ⟨w.heap.size,3,none⟩=some (.int .i64 (cc:Int))∧w'.cell? ⟨w.heap.size,4,none⟩=some (.int .i64 (k:Int))) (by kernel_rfl) ?_ (fun hHeld0=>?_)
   ·exact ⟨z0.out,z1.out.2.2.1,z1.out.2.2.2.1,z1.out.2.2.2.2.1⟩
   refine tk (i:=0) (d:=some 39) rfl rfl (by kernel_rfl) (fun _ _ _ h=>h) (by rfl) (by intro _ h;(try dsimp only at h);go_split_ands;go_simp<;>with_reducible rfl) hHeld0 ?_
   try simp only [aS,aN,aT,a0,a1]
   refine tk (i:=1) (d:=some 40) rfl rfl (by kernel_rfl) (fun _ _ _ h=>h) (by rfl) (by intro _ h;(try dsimp only at h);go_split_ands;go_simp<;>with_reducible rfl) hHeld0 ?_
   try simp only [aS,aN,aT,a0,a1]
   refine tk (i:=2) (d:=some 41) rfl rfl (by kernel_rfl) (fun _ _ _ h=>h) (by rfl) (by intro _ h;(try dsimp only at h);go_split_ands;go_simp<;>with_reducible rfl) hHeld0 ?_
   try simp only [aS,aN,aT,a0,a1]
   refine tk (i:=3) (d:=some 42) rfl rfl (by kernel_rfl) (fun _ _ _ h=>h) (by rfl) (by intro _ h;(try dsimp only at h);go_split_ands;go_simp<;>with_reducible rfl) hHeld0 ?_
   try simp only [aS,aN,aT,a0,a1]
   refine tk (i:=4) (d:=some 43) rfl rfl (by kernel_rfl) (fun _ _ _ h=>h) (by rfl) (by intro _ h;(try dsimp only at h);go_split_ands;go_simp<;>with_reducible rfl) hHeld0 ?_
   try simp only [aS,aN,aT,a0,a1]
   refine tk (i:=5) (d:=some 44) rfl rfl (by kernel_rfl) (fun _ _ _ h=>h) (by rfl) (by intro _ h;(try dsimp only at h);go_split_ands;go_simp<;>with_reducible rfl) hHeld0 ?_
   try simp only [aS,aN,aT,a0,a1]
   refine tk (i:=6) (d:=some 45) rfl rfl (by kernel_rfl) (fun _ _ _ h=>h) (by rfl) (by intro _ h;(try dsimp only at h);go_split_ands;go_simp<;>with_reducible rfl) hHeld0 ?_
   try simp only [aS,aN,aT,a0,a1]
   refine tk (i:=7) (d:=some 46) rfl rfl (by kernel_rfl) (fun _ _ _ h=>h) (by rfl) (by intro _ h;(try dsimp only at h);go_split_ands;go_simp<;>with_reducible rfl) hHeld0 ?_
   try simp only [aS,aN,aT,a0,a1]
   refine tk (i:=8) (d:=some 47) rfl rfl (by kernel_rfl) (fun _ _ _ h=>h) (by rfl) (by intro _ h;(try dsimp only at h);go_split_ands;go_simp<;>with_reducible rfl) hHeld0 ?_
   try simp only [aS,aN,aT,a0,a1]
   refine tk (i:=11) (d:=some 50) rfl rfl (by kernel_rfl) (fun _ _ _ h=>h) (by rfl) (by intro _ h;(try dsimp only at h);go_split_ands;go_simp<;>with_reducible rfl) hHeld0 ?_
   try simp only [aS,aN,aT,a0,a1]
   refine tk (i:=12) (d:=some 51) rfl rfl (by kernel_rfl) (fun _ _ _ h=>h) (by rfl) (by intro _ h;(try dsimp only at h);go_split_ands;go_simp<;>with_reducible rfl) hHeld0 ?_
   try simp only [aS,aN,aT,a0,a1]
   refine tk (i:=13) (d:=some 52) rfl rfl (by kernel_rfl) (fun _ _ _ h=>h) (by rfl) (by intro _ h;(try dsimp only at h);go_split_ands;go_simp<;>with_reducible rfl) hHeld0 ?_
   try simp only [aS,aN,aT,a0,a1]
   refine tk (i:=14) (d:=some 53) rfl rfl (by kernel_rfl) (fun _ _ _ h=>h) (by rfl) (by intro _ h;(try dsimp only at h);go_split_ands;go_simp<;>with_reducible rfl) hHeld0 ?_
   try simp only [aS,aN,aT,a0,a1]
   refine rd1 (i:=9) (by kernel_rfl) rfl fun K hK=>?_
   go_simp
   go_at_call 205
   refine (refOf_any (cc:Int) _).mono ?_
   rintro e w1 ⟨rfl,b1⟩
   have da0:=hid (b1.cell hHeld0.1)
   have da1:=hid (b1.cell hHeld0.2.1)
   have da2:=hid (b1.cell hHeld0.2.2.1)
   have da3:=hid (b1.cell hHeld0.2.2.2)
   replace b1:=hid b1
   go_wp2_with fail
   refine hK.out _ _ (⟨da0.out,da1.out,da2.out,da3.out⟩) (fun hHeld1=>?_)
   try simp only [aS,aN,aT,a0,a1]
   refine rd1 (i:=10) (by kernel_rfl) rfl fun K hK=>?_
   go_simp
   go_at_call 201
   refine (HT.out _ (HH.out.bl (HB.out.drew.trans b1.out))).mono ?_
   rintro e w2 ⟨rfl,b2⟩
   have db0:=hid (b2.cell hHeld1.1)
   have db1:=hid (b2.cell hHeld1.2.1)
   have db2:=hid (b2.cell hHeld1.2.2.1)
   have db3:=hid (b2.cell hHeld1.2.2.2)
   replace b2:=hid b2
   go_wp2_with fail
   refine hK.out _ _ (⟨db0.out,db1.out,db2.out,db3.out⟩) (fun hHeld2=>?_)
   try simp only [aS,aN,aT,a0,a1]
   refine rd1 (i:=15) (by kernel_rfl) rfl fun K hK=>?_
   go_simp
   go_at_call 266
   refine (HG.out _ (HH.out.bl ((HB.out.drew.trans b1.out).trans b2.out))).mono ?_
   rintro e w3 ⟨rfl,H3⟩
   exact ⟨rfl,HE.out _ H3⟩
  ·have eg:h.findH (c.rd ib) cc=h:=by unfold Hp.findH;rw [hz,if_pos hm,if_neg hn]
   rw [eg]
   obtain ⟨o,j,ho',hol,j1,j2,j3,j4,egv⟩:=get_at H hz hm hn hv3.2 hkf
   have him:im (c.rd ib)=⟨3,(o:Int)+1⟩:=by rw [im_ref e1,ho']
   have HG:Hid (∀X wx w',RX 1 X wx w0 g w' h qs a c→Calls Tryz.prog 266 #[.pointer (some ⟨g.hb,0,none⟩),mvV (im (c.rd ib)),.int .i64 (cc:Int),.int .i64 (k:Int)] w' fun e w2=>e=.returned (mvV (im (h.getV (c.rd ib) cc k)))∧RX 1 X wx w0 g w2 h qs a c):=fun X wx w' H=>him.symm▸egv.symm▸mget_obj 1 X wx w0 g h qs a c o cc k j w' H F hob hol hc hkf j1 j3 j4
   generalize h.getV (c.rd ib) cc k=V at *
   have HE:Hid (∀w',RX 1 X wx w0 g w' h qs a c→ValQ X wx w0 g qs a c h V (.returned (mvV (im V))) w'):=fun w' H=>val_go hs rfl H
   generalize im V=VI at *
   generalize im (c.rd ib)=U at *
   clear H hs e0 e2 eg hb F hob hvg hz hfl hc hkf TK T2 e1 hv3 hm hn him egv j1 j2 j3 j4 ho' hol
   go_enter Tryz.func209,Tryz.ntmps209
   go_wp2
   refine wp_region_held_drew (S:=fun w'=>w'.cell? ⟨a.q,0,none⟩=some (.pointer (some ⟨g.hb,0,none⟩))∧w'.cell? ⟨w.heap.size,2,none⟩=some (.int .i64 ib)∧w'.cell? ⟨w.heap.size,3,none⟩=some (.int .i64 (cc:Int))∧w'.cell? ⟨w.heap.size,4,none⟩=some (.int .i64 (k:Int))) (by kernel_rfl) ?_ (fun hHeld0=>?_)
   ·exact ⟨z0.out,z1.out.2.2.1,z1.out.2.2.2.1,z1.out.2.2.2.2.1⟩
   refine tk (i:=0) (d:=some 39) rfl rfl (by kernel_rfl) (fun _ _ _ h=>h) (by rfl) (by intro _ h;(try dsimp only at h);go_split_ands;go_simp<;>with_reducible rfl) hHeld0 ?_
   try simp only [aS,aN,aT,a0,a1]
   refine tk (i:=1) (d:=some 40) rfl rfl (by kernel_rfl) (fun _ _ _ h=>h) (by rfl) (by intro _ h;(try dsimp only at h);go_split_ands;go_simp<;>with_reducible rfl) hHeld0 ?_
   try simp only [aS,aN,aT,a0,a1]
   refine tk (i:=2) (d:=some 41) rfl rfl (by kernel_rfl) (fun _ _ _ h=>h) (by rfl) (by intro _ h;(try dsimp only at h);go_split_ands;go_simp<;>with_reducible rfl) hHeld0 ?_
   try simp only [aS,aN,aT,a0,a1]
   refine tk (i:=3) (d:=some 42) rfl rfl (by kernel_rfl) (fun _ _ _ h=>h) (by rfl) (by intro _ h;(try dsimp only at h);go_split_ands;go_simp<;>with_reducible rfl) hHeld0 ?_
   try simp only [aS,aN,aT,a0,a1]
   refine tk (i:=4) (d:=some 43) rfl rfl (by kernel_rfl) (fun _ _ _ h=>h) (by rfl) (by intro _ h;(try dsimp only at h);go_split_ands;go_simp<;>with_reducible rfl) hHeld0 ?_
   try simp only [aS,aN,aT,a0,a1]
   refine tk (i:=5) (d:=some 44) rfl rfl (by kernel_rfl) (fun _ _ _ h=>h) (by rfl) (by intro _ h;(try dsimp only at h);go_split_ands;go_simp<;>with_reducible rfl) hHeld0 ?_
   try simp only [aS,aN,aT,a0,a1]
   refine tk (i:=6) (d:=some 45) rfl rfl (by kernel_rfl) (fun _ _ _ h=>h) (by rfl) (by intro _ h;(try dsimp only at h);go_split_ands;go_simp<;>with_reducible rfl) hHeld0 ?_
   try simp only [aS,aN,aT,a0,a1]
   refine tk (i:=7) (d:=some 46) rfl rfl (by kernel_rfl) (fun _ _ _ h=>h) (by rfl) (by intro _ h;(try dsimp only at h);go_split_ands;go_simp<;>with_reducible rfl) hHeld0 ?_
   try simp only [aS,aN,aT,a0,a1]
   refine tk (i:=8) (d:=some 47) rfl rfl (by kernel_rfl) (fun _ _ _ h=>h) (by rfl) (by intro _ h;(try dsimp only at h);go_split_ands;go_simp<;>with_reducible rfl) hHeld0 ?_
   try simp only [aS,aN,aT,a0,a1]
   refine tk (i:=11) (d:=some 50) rfl rfl (by kernel_rfl) (fun _ _ _ h=>h) (by rfl) (by intro _ h;(try dsimp only at h);go_split_ands;go_simp<;>with_reducible rfl) hHeld0 ?_
   try simp only [aS,aN,aT,a0,a1]
   refine tk (i:=12) (d:=some 51) rfl rfl (by kernel_rfl) (fun _ _ _ h=>h) (by rfl) (by intro _ h;(try dsimp only at h);go_split_ands;go_simp<;>with_reducible rfl) hHeld0 ?_
   try simp only [aS,aN,aT,a0,a1]
   refine tk (i:=13) (d:=some 52) rfl rfl (by kernel_rfl) (fun _ _ _ h=>h) (by rfl) (by intro _ h;(try dsimp only at h);go_split_ands;go_simp<;>with_reducible rfl) hHeld0 ?_
   try simp only [aS,aN,aT,a0,a1]
   refine tk (i:=14) (d:=some 53) rfl rfl (by kernel_rfl) (fun _ _ _ h=>h) (by rfl) (by intro _ h;(try dsimp only at h);go_split_ands;go_simp<;>with_reducible rfl) hHeld0 ?_
   try simp only [aS,aN,aT,a0,a1]
   refine rd1 (i:=9) (by kernel_rfl) rfl fun K hK=>?_
   go_simp
   go_at_call 205
   refine (refOf_any (cc:Int) _).mono ?_
   rintro e w1 ⟨rfl,b1⟩
   have da0:=hid (b1.cell hHeld0.1)
   have da1:=hid (b1.cell hHeld0.2.1)
   have da2:=hid (b1.cell hHeld0.2.2.1)
   have da3:=hid (b1.cell hHeld0.2.2.2)
   replace b1:=hid b1
   go_wp2_with fail
   refine hK.out _ _ (⟨da0.out,da1.out,da2.out,da3.out⟩) (fun hHeld1=>?_)
   try simp only [aS,aN,aT,a0,a1]
   refine rd1 (i:=10) (by kernel_rfl) rfl fun K hK=>?_
   go_simp
   go_at_call 201
   refine (HT.out _ (HH.out.bl (HB.out.drew.trans b1.out))).mono ?_
   rintro e w2 ⟨rfl,b2⟩
   have db0:=hid (b2.cell hHeld1.1)
   have db1:=hid (b2.cell hHeld1.2.1)
   have db2:=hid (b2.cell hHeld1.2.2.1)
   have db3:=hid (b2.cell hHeld1.2.2.2)
   replace b2:=hid b2
   go_wp2_with fail
   refine hK.out _ _ (⟨db0.out,db1.out,db2.out,db3.out⟩) (fun hHeld2=>?_)
   try simp only [aS,aN,aT,a0,a1]
   refine rd1 (i:=15) (by kernel_rfl) rfl fun K hK=>?_
   go_simp
   go_at_call 266
   refine (HH.out.y.useY ((HB.out.drew.trans b1.out).trans b2.out) HG.out).mono ?_
   rintro e w3 ⟨rfl,H3,K3⟩
   have x0:=K3.at (Xp.new (Nat.le_refl _) (lt_some (bl_blk (b1.out.trans b2.out) HL0.out))) (bl_blk (b1.out.trans b2.out) HL0.out)
   have q1:=K3.at (Xp.new (Nat.le_succ _) (lt_some (bl_blk (b1.out.trans b2.out) HL1.out))) (bl_blk (b1.out.trans b2.out) HL1.out)
   have hlt1:=hid (lt_some (bl_blk (b1.out.trans b2.out) HL1.out))
   have dc0:=hid H3.hb
   have dc1:=hid (insC x0).2.2.1
   have dc2:=hid (insC x0).2.2.2.1
   have dc3:=hid (insC x0).2.2.2.2.1
   have c4:=c0_of q1
   have c5:=c1_of q1
   have fz:=free_blk q1
   replace q1:=hid q1
   replace H3:=hid H3
   clear K3 x0
   go_wp2_with fail
   refine hK.out _ _ (⟨dc0.out,dc1.out,dc2.out,dc3.out⟩) (fun hHeld3=>?_)
   try simp only [aS,aN,aT,a0,a1]
   refine rd1 (i:=16) (by kernel_rfl) rfl fun K hK=>?_
   go_wp2_with fail
   refine hK.out _ _ (⟨set2_cellD dc0.out (Ne.symm hn1),set2_cellD dc1.out hn2,set2_cellD dc2.out hn2,set2_cellD dc3.out hn2⟩) (fun hHeld4=>?_)
   try simp only [aS,aN,aT,a0,a1]
   refine wpAnyH_done (by kernel_rfl) ?_ _
   go_wp2
   refine bodyPost_ret (results_cell_row rfl _ _ (w.heap.size+1) _ _ _ _ rfl (set_two q1.out) Tryz.underlying115 rfl info_mv) rfl ?_
   refine HE.out _ (RXY.x (RXY.set (RXY.set H3.out ?_ 0 _) ?_ 1 _))<;>exact Xp.new (Nat.le_succ _) hlt1.out
end
end Go.Proofs.YtgiiapenmjollabGreat
