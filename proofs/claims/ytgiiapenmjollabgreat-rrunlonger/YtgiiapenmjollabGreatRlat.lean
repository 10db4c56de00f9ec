import Derived.Test.YtgiiapenmjollabGreatRlas
namespace Go.Proofs.YtgiiapenmjollabGreat
set_option linter.all false
set_option maxHeartbeats 40000000
set_option maxRecDepth 100000
open Go.RowKit
section
open Go.Maps (Keyed has)
theorem may_six {l:List Cl} (h:mayB l=true) {d:Nat} (hd:d<l.length):l.length≤12∧(nth cl0 l d).fields.length≤6∧∀t∈(nth cl0 l d).fields,tyB l.length t=true:=by
 unfold mayB at h
 rw [Bool.and_eq_true,List.all_eq_true] at h
 have h1:=of_decide_eq_true h.1
 have h2:=h.2 d (by simpa using hd)
 unfold clB at h2
 rw [Bool.and_eq_true,List.all_eq_true] at h2
 have h3:=of_decide_eq_true h2.1
 exact ⟨h1.2.1,h3.2,h2.2⟩
theorem fieldT_nat (cs:List Cl) (c k:Nat):fieldT cs (c:Int) (k:Int)=nth ty0 (nth cl0 cs c).fields k:=by unfold fieldT;rw [Int.toNat_natCast,Int.toNat_natCast]
theorem field_kind {l:List Cl} (h:mayB l=true) {c k:Nat} (hc:c<l.length) (hk:k<(nth cl0 l c).fields.length):1≤(fieldT l (c:Int) (k:Int)).kind∧(fieldT l (c:Int) (k:Int)).kind≤3:=by
 rw [fieldT_nat]
 exact ty_kind ((may_six h hc).2.2 _ (nth_mem hk))
theorem RX.find {s:Nat} {X:Nat→Prop} {wx w0 w:World} {g:Mg} {h:Hp} {qs:List Qb} {a:Mc} {c:Cal} (H:RX s X wx w0 g w h qs a c) {o cc k:Nat} (ho:o<h.objs.length) (hb:belI h.file.classes (nth ob0 h.objs o).cls (cc:Int)=true) (hk:k<(nth cl0 h.file.classes cc).fields.length) :
  ∃j:Nat,j<(nth ob0 h.objs o).held.length∧heldAt (nth ob0 h.objs o).held cc k=j∧(nth hel0 (nth ob0 h.objs o).held j).cls=cc∧(nth hel0 (nth ob0 h.objs o).held j).fld=k∧(nth hel0 (nth ob0 h.objs o).held j).v.kind=(fieldT h.file.classes (cc:Int) (k:Int)).kind:=by
 obtain ⟨vc,vo,vx,vs,l,H⟩:=H
 obtain ⟨n,D,F⟩:=H.rh.fld
 obtain ⟨j,h1,h2,h3,h4⟩:=held_find (F.ks o ho) hb hk
 refine ⟨j,h1,h2,h3,h4,?_⟩
 have:=F.kd o ho _ (nth_mem (d:=hel0) h1)
 rw [h3,h4] at this
 exact this
end
section
open Go.Maps (Keyed has)
theorem mget_obj (s:Nat) (X:Nat→Prop) (wx w0:World) (g:Mg) (h:Hp) (qs:List Qb) (a:Mc) (c:Cal) (o cc k j:Nat) (w:World) (H:RX s X wx w0 g w h qs a c) (F:Fix w0 g h) (hob:h.objs.length≤100) (ho:o<h.objs.length) (hc:cc<h.file.classes.length) (hk:k<(nth cl0 h.file.classes cc).fields.length)
  (hj:j<(nth ob0 h.objs o).held.length) (h3:(nth hel0 (nth ob0 h.objs o).held j).cls=cc) (h4:(nth hel0 (nth ob0 h.objs o).held j).fld=k) :
  Calls Tryz.prog 266 #[.pointer (some ⟨g.hb,0,none⟩),mvV ⟨3,(o:Int)+1⟩,.int .i64 cc,.int .i64 k] w fun e w'=>e=.returned (mvV (im (nth hel0 (nth ob0 h.objs o).held j).v))∧RX s X wx w0 g w' h qs a c:=by
 have H0:=H
 obtain ⟨vc,vo,vx,vs,l,H⟩:=H
 obtain ⟨n,D,FF⟩:=H.rh.fld
 obtain ⟨m1,m2,m3⟩:=may_six F.may hc
 have ic:I64 (cc:Int):=by unfold I64;omega
 have ik:I64 (k:Int):=by unfold I64;omega
 have hx:∃x∈(nth ob0 h.objs o).held,x.cls=(cc:Int)∧x.fld=(k:Int)∧x.v=(nth hel0 (nth ob0 h.objs o).held j).v:=⟨_,nth_mem hj,h3,h4,rfl⟩
 cases hh:has D (keyM ((o:Int)+1) cc k) with
 | true=>exact mget_hit s X wx w0 g h qs a c o cc k _ n D w H0 F FF.own (by omega) hc hk m1 m2 hh (FF.hit o cc k _ ho ic ik hx hh)
 | false =>
  have e:=FF.miss o cc k _ ho ic ik hx hh
  rw [e,init_im,fieldT_nat]
  exact mget_miss s X wx w0 g h qs a c o cc k va0 n D w H0 F FF.own (by omega) hc hk m1 m2 hh
end
section
open Go.Maps (Keyed has)
theorem value_op13 (X:Nat→Prop) (wx w0:World) (g:Mg) (h:Hp) (qs:List Qb) (a:Mc) (c:Cal) (ia ib ic ii:Int) (args:List Int) (Q:Option Addr) (nl q:Nat) (w:World) (H:RX 1 X wx w0 g w h qs a c) (hs:h.stops=false) (hob:h.objs.length≤100) :
  Calls Tryz.prog 209 #[.pointer (some ⟨a.q,0,none⟩),.agg #[.int .i64 13,.int .i64 ia,.int .i64 ib,.int .i64 ic,.int .i64 ii,.slice Q nl q]] w fun e w'=>ValQ X wx w0 g qs a c (valH h c ⟨13,ia,ib,ic,ii,args⟩) (valV h c ⟨13,ia,ib,ic,ii,args⟩) e w':=by
 have ho:=(stops_not hs).1
 have HH:=hid H
 have HS:=hid hs
 have hq:=H.qlt
 obtain ⟨L0,L1⟩:=two_lie w #[.int .i64 13,.int .i64 ia,.int .i64 ib,.int .i64 ic,.int .i64 ii,.slice Q nl q] #[.int .i64 0,.int .i64 0] 58 115
 have HB:Hid (Bl w ((w.alloc (.cells #[.int .i64 13,.int .i64 ia,.int .i64 ib,.int .i64 ic,.int .i64 ii,.slice Q nl q] 58)).alloc mvZ)):=((Bl.refl w).alloc _).alloc _
 have HL0:=hid L0
 have HL1:=hid L1
 have hn0:w.heap.size≠a.q:=by omega
 have hn1:w.heap.size+1≠a.q:=by omega
 have hn2:w.heap.size≠w.heap.size+1:=by omega
 clear L0 L1
 have eH:valH h c ⟨13,ia,ib,ic,ii,args⟩=h.new ib:=by simp [valH,givesH]
 have eV:valV h c ⟨13,ia,ib,ic,ii,args⟩=h.newV:=by simp [valV,givesV]
 rw [eH,eV]
 clear eH eV
 have z0:=hid (H.y.bl HB.out).hb
 have z1:=hid (insC HL0.out)
 cases hf:h.full with
 | true =>
  have e1:h.new ib=h.fin 4:=by unfold Hp.new;rw [if_pos hf]
  rw [e1]
  generalize h.newV=V
  have HF:=hid (And.intro hf hob)
  clear H hs e1 hf hob
  go_enter Tryz.func209,Tryz.ntmps209
  go_wp2
  refine wp_region_held_drew (S:=fun w'=>w'.cell? ⟨a.q,0,none⟩=some (.pointer (some ⟨g.hb,0,none⟩))∧w'.cell? ⟨w.heap.size,2,none⟩=some (.int .i64 ib)) (by kernel_rfl) ?_ (fun hHeld0=>?_)
  ·exact ⟨z0.out,z1.out.2.2.1⟩
  refine tk (i:=0) (d:=some 30) rfl rfl (by kernel_rfl) (fun _ _ _ h=>h) (by rfl) (by intro _ h;(try dsimp only at h);go_split_ands;go_simp<;>with_reducible rfl) hHeld0 ?_
  try simp only [aS,aN,aT,a0,a1]
  refine tk (i:=1) (d:=some 31) rfl rfl (by kernel_rfl) (fun _ _ _ h=>h) (by rfl) (by intro _ h;(try dsimp only at h);go_split_ands;go_simp<;>with_reducible rfl) hHeld0 ?_
  try simp only [aS,aN,aT,a0,a1]
  refine tk (i:=2) (d:=some 32) rfl rfl (by kernel_rfl) (fun _ _ _ h=>h) (by rfl) (by intro _ h;(try dsimp only at h);go_split_ands;go_simp<;>with_reducible rfl) hHeld0 ?_
  try simp only [aS,aN,aT,a0,a1]
  refine tk (i:=3) (d:=some 33) rfl rfl (by kernel_rfl) (fun _ _ _ h=>h) (by rfl) (by intro _ h;(try dsimp only at h);go_split_ands;go_simp<;>with_reducible rfl) hHeld0 ?_
  try simp only [aS,aN,aT,a0,a1]
  refine tk (i:=4) (d:=some 34) rfl rfl (by kernel_rfl) (fun _ _ _ h=>h) (by rfl) (by intro _ h;(try dsimp only at h);go_split_ands;go_simp<;>with_reducible rfl) hHeld0 ?_
  try simp only [aS,aN,aT,a0,a1]
  refine tk (i:=5) (d:=some 35) rfl rfl (by kernel_rfl) (fun _ _ _ h=>h) (by rfl) (by intro _ h;(try dsimp only at h);go_split_ands;go_simp<;>with_reducible rfl) hHeld0 ?_
  try simp only [aS,aN,aT,a0,a1]
  refine rd1 (i:=6) (by kernel_rfl) rfl fun K hK=>?_
  go_simp
  go_at_call 265
  refine (HH.out.y.useY HB.out.drew (fun X wx w H=>mnew_no 1 X wx w0 g h qs a c ib w H HF.out.1 HF.out.2)).mono ?_
  rintro e w1 ⟨rfl,H1,K1⟩
  exact ⟨rfl,val_fin (stops_not HS.out).1 rfl H1.x.rs⟩
 | false =>
  have e1:h.new ib=h.mk' ib:=by unfold Hp.new Hp.mk';rw [if_neg (by rw [hf];decide)]
  have e5:h.newV=⟨3,(h.objs.length:Nat)⟩:=by unfold Hp.newV;rw [if_neg (by rw [hf];decide)]
  have hs2:(h.mk' ib).stops=false:=hs
  rw [e1,e5]
  have HR:Hid (∀X wx w,RX 1 X wx w0 g w h qs a c→Calls Tryz.prog 265 #[.pointer (some ⟨g.hb,0,none⟩),.int .i64 ib] w fun e w'=>e=.returned (mvV (im ⟨3,(h.objs.length:Nat)⟩))∧RX 1 X wx w0 g w' (h.mk' ib) qs a c):=fun X wx w H=>mnew_yes 1 X wx w0 g h qs a c ib w H hf
  have HE:Hid (∀w',RX 1 X wx w0 g w' (h.mk' ib) qs a c→ValQ X wx w0 g qs a c (h.mk' ib) ⟨3,(h.objs.length:Nat)⟩ (.returned (mvV (im ⟨3,(h.objs.length:Nat)⟩))) w'):=fun w' H=>val_go hs2 rfl H
  generalize im (⟨3,(h.objs.length:Nat)⟩:Va)=V at HR HE
  clear H hs e1 e5 hf hob hs2
  go_enter Tryz.func209,Tryz.ntmps209
  go_wp2
  refine wp_region_held_drew (S:=fun w'=>w'.cell? ⟨a.q,0,none⟩=some (.pointer (some ⟨g.hb,0,none⟩))∧w'.cell? ⟨w.heap.size,2,none⟩=some (.int .i64 ib)) (by kernel_rfl) ?_ (fun hHeld0=>?_)
  ·exact ⟨z0.out,z1.out.2.2.1⟩
  refine tk (i:=0) (d:=some 30) rfl rfl (by kernel_rfl) (fun _ _ _ h=>h) (by rfl) (by intro _ h;(try dsimp only at h);go_split_ands;go_simp<;>with_reducible rfl) hHeld0 ?_
  try simp only [aS,aN,aT,a0,a1]
  refine tk (i:=1) (d:=some 31) rfl rfl (by kernel_rfl) (fun _ _ _ h=>h) (by rfl) (by intro _ h;(try dsimp only at h);go_split_ands;go_simp<;>with_reducible rfl) hHeld0 ?_
  try simp only [aS,aN,aT,a0,a1]
  refine tk (i:=2) (d:=some 32) rfl rfl (by kernel_rfl) (fun _ _ _ h=>h) (by rfl) (by intro _ h;(try dsimp only at h);go_split_ands;go_simp<;>with_reducible rfl) hHeld0 ?_
  try simp only [aS,aN,aT,a0,a1]
  refine tk (i:=3) (d:=some 33) rfl rfl (by kernel_rfl) (fun _ _ _ h=>h) (by rfl) (by intro _ h;(try dsimp only at h);go_split_ands;go_simp<;>with_reducible rfl) hHeld0 ?_
  try simp only [aS,aN,aT,a0,a1]
  refine tk (i:=4) (d:=some 34) rfl rfl (by kernel_rfl) (fun _ _ _ h=>h) (by rfl) (by intro _ h;(try dsimp only at h);go_split_ands;go_simp<;>with_reducible rfl) hHeld0 ?_
  try simp only [aS,aN,aT,a0,a1]
  refine tk (i:=5) (d:=some 35) rfl rfl (by kernel_rfl) (fun _ _ _ h=>h) (by rfl) (by intro _ h;(try dsimp only at h);go_split_ands;go_simp<;>with_reducible rfl) hHeld0 ?_
  try simp only [aS,aN,aT,a0,a1]
  refine rd1 (i:=6) (by kernel_rfl) rfl fun K hK=>?_
  go_simp
  go_at_call 265
  refine (HH.out.y.useY HB.out.drew HR.out).mono ?_
  rintro e w1 ⟨rfl,H1,K1⟩
  have q0:=K1.at (Xp.new (Nat.le_refl _) (lt_w2a w _ _)) HL0.out
  have q1:=K1.at (Xp.new (Nat.le_succ _) (lt_w2b w _ _)) HL1.out
  have d0:=hid H1.hb
  have d1:=hid (insC q0).2.2.1
  have c4:=c0_of q1
  have c5:=c1_of q1
  have fz:=free_blk q1
  replace q1:=hid q1
  replace H1:=hid H1
  clear K1 q0
  go_wp2_with fail
  refine hK.out _ _ (⟨d0.out,d1.out⟩) (fun hHeld1=>?_)
  try simp only [aS,aN,aT,a0,a1]
  refine rd1 (i:=7) (by kernel_rfl) rfl fun K hK=>?_
  go_wp2_with fail
  refine hK.out _ _ (⟨set2_cellD d0.out (Ne.symm hn1),set2_cellD d1.out hn2⟩) (fun hHeld2=>?_)
  try simp only [aS,aN,aT,a0,a1]
  refine wpAnyH_done (by kernel_rfl) ?_ _
  go_wp2
  refine bodyPost_ret (results_cell_row rfl _ _ (w.heap.size+1) _ _ _ _ rfl (set_two q1.out) Tryz.underlying115 rfl info_mv) rfl ?_
  refine HE.out _ (RXY.x (RXY.set (RXY.set H1.out ?_ 0 _) ?_ 1 _))<;>exact (Xp.new (Nat.le_succ _) (lt_w2b w _ _))
theorem value_op19 (X:Nat→Prop) (wx w0:World) (g:Mg) (h:Hp) (qs:List Qb) (a:Mc) (c:Cal) (ia ib ic ii:Int) (args:List Int) (Q:Option Addr) (nl q:Nat) (w:World) (H:RX 1 X wx w0 g w h qs a c) (hs:h.stops=false) :
  Calls Tryz.prog 209 #[.pointer (some ⟨a.q,0,none⟩),.agg #[.int .i64 19,.int .i64 ia,.int .i64 ib,.int .i64 ic,.int .i64 ii,.slice Q nl q]] w fun e w'=>ValQ X wx w0 g qs a c (valH h c ⟨19,ia,ib,ic,ii,args⟩) (valV h c ⟨19,ia,ib,ic,ii,args⟩) e w':=by
 have ho:=(stops_not hs).1
 have HH:=hid H
 have HS:=hid hs
 have hq:=H.qlt
 obtain ⟨L0,L1⟩:=two_lie w #[.int .i64 19,.int .i64 ia,.int .i64 ib,.int .i64 ic,.int .i64 ii,.slice Q nl q] #[.int .i64 0,.int .i64 0] 58 115
 have HB:Hid (Bl w ((w.alloc (.cells #[.int .i64 19,.int .i64 ia,.int .i64 ib,.int .i64 ic,.int .i64 ii,.slice Q nl q] 58)).alloc mvZ)):=((Bl.refl w).alloc _).alloc _
 have HL0:=hid L0
 have HL1:=hid L1
 have hn0:w.heap.size≠a.q:=by omega
 have hn1:w.heap.size+1≠a.q:=by omega
 have hn2:w.heap.size≠w.heap.size+1:=by omega
 clear L0 L1
 have eH:valH h c ⟨19,ia,ib,ic,ii,args⟩=h.must (decide (c.giv.kind=ib)):=by simp [valH]
 have eV:valV h c ⟨19,ia,ib,ic,ii,args⟩=c.giv:=by simp [valV]
 rw [eH,eV]
 clear eH eV
 obtain ⟨vs0,C0⟩:=(H.bl HB.out).cells
 have z1:=hid (insC HL0.out)
 have z2:=hid (And.intro C0.c12 C0.c13)
 clear C0
 by_cases e1:c.giv.kind=ib
 ·rw [must_yes (decide_eq_true e1)]
  have HM:Hid (∀w',Calls Tryz.prog 261 #[.agg #[.int .i64 c.giv.kind,.int .i64 (im c.giv).n],.int .i64 ib] w' fun e w2=>e=.returned (mvV (im c.giv))∧Bl w' w2):=fun w'=>mustbe_yes (im c.giv) ib w' e1
  have HE:Hid (∀w',RX 1 X wx w0 g w' h qs a c→ValQ X wx w0 g qs a c h c.giv (.returned (mvV (im c.giv))) w'):=fun w' H=>val_go hs rfl H
  clear H hs e1
  go_enter Tryz.func209,Tryz.ntmps209
  go_wp2
  refine wp_region_held_drew (S:=fun w'=>w'.cell? ⟨a.q,12,none⟩=some (.int .i64 c.giv.kind)∧w'.cell? ⟨a.q,13,none⟩=some (.int .i64 (im c.giv).n)∧w'.cell? ⟨w.heap.size,2,none⟩=some (.int .i64 ib)) (by kernel_rfl) ?_ (fun hHeld0=>?_)
  ·exact ⟨z2.out.1,z2.out.2,z1.out.2.2.1⟩
  refine tk (i:=0) (d:=some 71) rfl rfl (by kernel_rfl) (fun _ _ _ h=>h) (by rfl) (by intro _ h;(try dsimp only at h);go_split_ands;go_simp<;>with_reducible rfl) hHeld0 ?_
  try simp only [aS,aN,aT,a0,a1]
  refine tk (i:=1) (d:=some 72) rfl rfl (by kernel_rfl) (fun _ _ _ h=>h) (by rfl) (by intro _ h;(try dsimp only at h);go_split_ands;go_simp<;>with_reducible rfl) hHeld0 ?_
  try simp only [aS,aN,aT,a0,a1]
  refine tk (i:=2) (d:=some 73) rfl rfl (by kernel_rfl) (fun _ _ _ h=>h) (by rfl) (by intro _ h;(try dsimp only at h);go_split_ands;go_simp<;>with_reducible rfl) hHeld0 ?_
  try simp only [aS,aN,aT,a0,a1]
  refine tk (i:=3) (d:=some 74) rfl rfl (by kernel_rfl) (fun _ _ _ h=>h) (by rfl) (by intro _ h;(try dsimp only at h);go_split_ands;go_simp<;>with_reducible rfl) hHeld0 ?_
  try simp only [aS,aN,aT,a0,a1]
  refine tk (i:=4) (d:=some 75) rfl rfl (by kernel_rfl) (fun _ _ _ h=>h) (by rfl) (by intro _ h;(try dsimp only at h);go_split_ands;go_simp<;>with_reducible rfl) hHeld0 ?_
  try simp only [aS,aN,aT,a0,a1]
  refine tk (i:=5) (d:=some 76) rfl rfl (by kernel_rfl) (fun _ _ _ h=>h) (by rfl) (by intro _ h;(try dsimp only at h);go_split_ands;go_simp<;>with_reducible rfl) hHeld0 ?_
  try simp only [aS,aN,aT,a0,a1]
  refine tk (i:=6) (d:=some 77) rfl rfl (by kernel_rfl) (fun _ _ _ h=>h) (by rfl) (by intro _ h;(try dsimp only at h);go_split_ands;go_simp<;>with_reducible rfl) hHeld0 ?_
  try simp only [aS,aN,aT,a0,a1]
  refine rd1 (i:=7) (by kernel_rfl) rfl fun K hK=>?_
  go_simp
  go_at_call 261
  refine (HM.out _).mono ?_
  rintro e w1 ⟨rfl,b1⟩
  have da0:=hid (b1.cell hHeld0.1)
  have da1:=hid (b1.cell hHeld0.2.1)
  have da2:=hid (b1.cell hHeld0.2.2)
  have q1:=bl_blk b1 HL1.out
  have c4:=c0_of q1
  have c5:=c1_of q1
  have fz:=free_blk q1
  replace q1:=hid q1
  replace b1:=hid b1
  go_wp2_with fail
  refine hK.out _ _ (⟨da0.out,da1.out,da2.out⟩) (fun hHeld1=>?_)
  try simp only [aS,aN,aT,a0,a1]
  refine rd1 (i:=8) (by kernel_rfl) rfl fun K hK=>?_
  go_wp2_with fail
  refine hK.out _ _ (⟨set2_cellD da0.out (Ne.symm hn1),set2_cellD da1.out (Ne.symm hn1),set2_cellD da2.out hn2⟩) (fun hHeld2=>?_)
  try simp only [aS,aN,aT,a0,a1]
  refine wpAnyH_done (by kernel_rfl) ?_ _
  go_wp2
  refine bodyPost_ret (results_cell_row rfl _ _ (w.heap.size+1) _ _ _ _ rfl (set_two q1.out) Tryz.underlying115 rfl info_mv) rfl ?_
  exact HE.out _ (HH.out.bl (bl_two (HB.out.drew.trans b1.out) (by omega) _ _))
 ·rw [must_no (decide_eq_false e1)]
  have HM:Hid (∀w',Calls Tryz.prog 261 #[.agg #[.int .i64 c.giv.kind,.int .i64 (im c.giv).n],.int .i64 ib] w' fun e w2=>e=stopE 6 0 0∧Bl w' w2):=fun w'=>mustbe_no (im c.giv) ib w' e1
  clear H hs e1
  go_enter Tryz.func209,Tryz.ntmps209
  go_wp2
  refine wp_region_held_drew (S:=fun w'=>w'.cell? ⟨a.q,12,none⟩=some (.int .i64 c.giv.kind)∧w'.cell? ⟨a.q,13,none⟩=some (.int .i64 (im c.giv).n)∧w'.cell? ⟨w.heap.size,2,none⟩=some (.int .i64 ib)) (by kernel_rfl) ?_ (fun hHeld0=>?_)
  ·exact ⟨z2.out.1,z2.out.2,z1.out.2.2.1⟩
  refine tk (i:=0) (d:=some 71) rfl rfl (by kernel_rfl) (fun _ _ _ h=>h) (by rfl) (by intro _ h;(try dsimp only at h);go_split_ands;go_simp<;>with_reducible rfl) hHeld0 ?_
  try simp only [aS,aN,aT,a0,a1]
  refine tk (i:=1) (d:=some 72) rfl rfl (by kernel_rfl) (fun _ _ _ h=>h) (by rfl) (by intro _ h;(try dsimp only at h);go_split_ands;go_simp<;>with_reducible rfl) hHeld0 ?_
  try simp only [aS,aN,aT,a0,a1]
  refine tk (i:=2) (d:=some 73) rfl rfl (by kernel_rfl) (fun _ _ _ h=>h) (by rfl) (by intro _ h;(try dsimp only at h);go_split_ands;go_simp<;>with_reducible rfl) hHeld0 ?_
  try simp only [aS,aN,aT,a0,a1]
  refine tk (i:=3) (d:=some 74) rfl rfl (by kernel_rfl) (fun _ _ _ h=>h) (by rfl) (by intro _ h;(try dsimp only at h);go_split_ands;go_simp<;>with_reducible rfl) hHeld0 ?_
  try simp only [aS,aN,aT,a0,a1]
  refine tk (i:=4) (d:=some 75) rfl rfl (by kernel_rfl) (fun _ _ _ h=>h) (by rfl) (by intro _ h;(try dsimp only at h);go_split_ands;go_simp<;>with_reducible rfl) hHeld0 ?_
  try simp only [aS,aN,aT,a0,a1]
  refine tk (i:=5) (d:=some 76) rfl rfl (by kernel_rfl) (fun _ _ _ h=>h) (by rfl) (by intro _ h;(try dsimp only at h);go_split_ands;go_simp<;>with_reducible rfl) hHeld0 ?_
  try simp only [aS,aN,aT,a0,a1]
  refine tk (i:=6) (d:=some 77) rfl rfl (by kernel_rfl) (fun _ _ _ h=>h) (by rfl) (by intro _ h;(try dsimp only at h);go_split_ands;go_simp<;>with_reducible rfl) hHeld0 ?_
  try simp only [aS,aN,aT,a0,a1]
  refine rd1 (i:=7) (by kernel_rfl) rfl fun K hK=>?_
  go_simp
  go_at_call 261
  refine (HM.out _).mono ?_
  rintro e w1 ⟨rfl,b1⟩
  exact ⟨rfl,val_fin (stops_not HS.out).1 rfl (HH.out.bl (HB.out.drew.trans b1)).rs⟩
theorem value_op22 (X:Nat→Prop) (wx w0:World) (g:Mg) (h:Hp) (qs:List Qb) (a:Mc) (c:Cal) (ia ib ic ii:Int) (args:List Int) (Q:Option Addr) (nl q:Nat) (w:World) (H:RX 1 X wx w0 g w h qs a c) (hs:h.stops=false) :
  Calls Tryz.prog 209 #[.pointer (some ⟨a.q,0,none⟩),.agg #[.int .i64 22,.int .i64 ia,.int .i64 ib,.int .i64 ic,.int .i64 ii,.slice Q nl q]] w fun e w'=>ValQ X wx w0 g qs a c (valH h c ⟨22,ia,ib,ic,ii,args⟩) (valV h c ⟨22,ia,ib,ic,ii,args⟩) e w':=by
 have ho:=(stops_not hs).1
 have HH:=hid H
 have HS:=hid hs
 have hq:=H.qlt
 obtain ⟨L0,L1⟩:=two_lie w #[.int .i64 22,.int .i64 ia,.int .i64 ib,.int .i64 ic,.int .i64 ii,.slice Q nl q] #[.int .i64 0,.int .i64 0] 58 115
 have HB:Hid (Bl w ((w.alloc (.cells #[.int .i64 22,.int .i64 ia,.int .i64 ib,.int .i64 ic,.int .i64 ii,.slice Q nl q] 58)).alloc mvZ)):=((Bl.refl w).alloc _).alloc _
 have HL0:=hid L0
 have HL1:=hid L1
 have hn0:w.heap.size≠a.q:=by omega
 have hn1:w.heap.size+1≠a.q:=by omega
 have hn2:w.heap.size≠w.heap.size+1:=by omega
 clear L0 L1
 have eH:valH h c ⟨22,ia,ib,ic,ii,args⟩=h.must (isRef c.cau):=by simp [valH]
 have eV:valV h c ⟨22,ia,ib,ic,ii,args⟩=c.cau:=by simp [valV]
 rw [eH,eV]
 clear eH eV
 obtain ⟨vs0,C0⟩:=(H.bl HB.out).cells
 have z2:=C0.c14
 have z3:=C0.c15
 clear C0
 by_cases e1:c.cau.kind=3
 ·rw [must_yes (by unfold isRef;exact decide_eq_true e1)]
  have HM:Hid (∀w',Calls Tryz.prog 261 #[.agg #[.int .i64 c.cau.kind,.int .i64 (im c.cau).n],.int .i64 3] w' fun e w2=>e=.returned (mvV (im c.cau))∧Bl w' w2):=fun w'=>mustbe_yes (im c.cau) 3 w' e1
  have HE:Hid (∀w',RX 1 X wx w0 g w' h qs a c→ValQ X wx w0 g qs a c h c.cau (.returned (mvV (im c.cau))) w'):=fun w' H=>val_go hs rfl H
  clear H hs e1
  go_enter Tryz.func209,Tryz.ntmps209
  go_wp2_with (go_at_call 261;refine (HM.out _).mono ?_;rintro e w1 ⟨rfl,b1⟩;have q1:=bl_blk b1 HL1.out;have c4:=c0_of q1;have c5:=c1_of q1;have fz:=free_blk q1;replace q1:=hid q1;replace b1:=hid b1)
  refine bodyPost_ret (results_cell_row rfl _ _ (w.heap.size+1) _ _ _ _ rfl (set_two q1.out) Tryz.underlying115 rfl info_mv) rfl ?_
  exact HE.out _ (HH.out.bl (bl_two (HB.out.trans b1.out) (by omega) _ _))
 ·rw [must_no (by unfold isRef;exact decide_eq_false e1)]
  have HM:Hid (∀w',Calls Tryz.prog 261 #[.agg #[.int .i64 c.cau.kind,.int .i64 (im c.cau).n],.int .i64 3] w' fun e w2=>e=stopE 6 0 0∧Bl w' w2):=fun w'=>mustbe_no (im c.cau) 3 w' e1
  clear H hs e1
  go_enter Tryz.func209,Tryz.ntmps209
  go_wp2_with (go_at_call 261;refine (HM.out _).mono ?_;rintro e w1 ⟨rfl,b1⟩;replace b1:=hid b1)
  exact ⟨rfl,val_fin (stops_not HS.out).1 rfl (HH.out.bl (HB.out.trans b1.out)).rs⟩
theorem value_op24 (X:Nat→Prop) (wx w0:World) (g:Mg) (h:Hp) (qs:List Qb) (a:Mc) (c:Cal) (ia ib ic ii:Int) (args:List Int) (Q:Option Addr) (nl q:Nat) (w:World) (H:RX 1 X wx w0 g w h qs a c) (hs:h.stops=false) (hI:IntsAt w0 g.I h.input) (hu:0≤h.sh.used) (hl:h.input.length≤1000000) :
  Calls Tryz.prog 209 #[.pointer (some ⟨a.q,0,none⟩),.agg #[.int .i64 24,.int .i64 ia,.int .i64 ib,.int .i64 ic,.int .i64 ii,.slice Q nl q]] w fun e w'=>ValQ X wx w0 g qs a c (valH h c ⟨24,ia,ib,ic,ii,args⟩) (valV h c ⟨24,ia,ib,ic,ii,args⟩) e w':=by
 have ho:=(stops_not hs).1
 have HH:=hid H
 have HS:=hid hs
 have hq:=H.qlt
 obtain ⟨L0,L1⟩:=two_lie w #[.int .i64 24,.int .i64 ia,.int .i64 ib,.int .i64 ic,.int .i64 ii,.slice Q nl q] #[.int .i64 0,.int .i64 0] 58 115
 have HB:Hid (Bl w ((w.alloc (.cells #[.int .i64 24,.int .i64 ia,.int .i64 ib,.int .i64 ic,.int .i64 ii,.slice Q nl q] 58)).alloc mvZ)):=((Bl.refl w).alloc _).alloc _
 have HL0:=hid L0
 have HL1:=hid L1
 have hn0:w.heap.size≠a.q:=by omega
 have hn1:w.heap.size+1≠a.q:=by omega
 have hn2:w.heap.size≠w.heap.size+1:=by omega
 clear L0 L1
 have eH:valH h c ⟨24,ia,ib,ic,ii,args⟩=h.input':=by simp [valH,givesH]
 have eV:valV h c ⟨24,ia,ib,ic,ii,args⟩=h.inV:=by simp [valV,givesV]
 rw [eH,eV]
 clear eH eV
 obtain ⟨vs0,C0⟩:=(H.bl HB.out).cells
 have z2:=C0.c1
 clear C0
 cases hd:h.dry with
 | true =>
  have e1:h.input'=h.fin 3:=by unfold Hp.input';rw [if_pos hd]
  rw [e1]
  generalize h.inV=V
  have HR:Hid (∀X wx w,RX 1 X wx w0 g w h qs a c→Calls Tryz.prog 268 #[.pointer (some ⟨g.r,0,none⟩)] w fun e w'=>e=stopE 3 0 0∧RX 1 X wx w0 g w' h qs a c):=fun X wx w H=>min_no 1 X wx w0 g h qs a c w H hd
  clear H hs e1 hd hI hu hl
  go_enter Tryz.func209,Tryz.ntmps209
  go_wp2_with (go_at_call 268;refine (HH.out.y.useY HB.out HR.out).mono ?_;rintro e w1 ⟨rfl,H1,K1⟩;clear K1;replace H1:=hid H1)
  exact ⟨rfl,val_fin (stops_not HS.out).1 rfl H1.out.x.rs⟩
 | false =>
  have e1:h.input'=h.uses:=by unfold Hp.input' Hp.uses;rw [if_neg (by rw [hd];decide)]
  have e2:h.inV=⟨2,nth 0 h.input h.sh.used.toNat⟩:=by unfold Hp.inV;rw [if_neg (by rw [hd];decide)]
  rw [e1,e2]
  have hs2:h.uses.stops=false:=hs
  have HR:=hid (fun X wx w (H:RX 1 X wx w0 g w h qs a c)=>min_yes 1 X wx w0 g h qs a c w H hI hd hu hl)
  have HE:Hid (∀w',RX 1 X wx w0 g w' h.uses qs a c→ValQ X wx w0 g qs a c h.uses ⟨2,nth 0 h.input h.sh.used.toNat⟩ (.returned (mvV ⟨2,nth 0 h.input h.sh.used.toNat⟩)) w'):=fun w' H=>val_go hs2 rfl H
  clear H hs e1 e2 hd hI hu hl hs2
  go_enter Tryz.func209,Tryz.ntmps209
  go_wp2_with (go_at_call 268;refine (HH.out.y.useY HB.out HR.out).mono ?_;rintro e w1 ⟨rfl,H1,K1⟩;have q1:=K1.at (Xp.new (Nat.le_succ _) (lt_w2b w _ _)) HL1.out;have c4:=c0_of q1;have c5:=c1_of q1;have fz:=free_blk q1;clear K1;replace H1:=hid H1;replace q1:=hid q1)
  refine bodyPost_ret (results_cell_row rfl _ _ (w.heap.size+1) _ _ _ _ rfl (set_two q1.out) Tryz.underlying115 rfl info_mv) rfl ?_
  refine HE.out _ (RXY.x (RXY.set (RXY.set H1.out ?_ 0 _) ?_ 1 _))<;>exact (Xp.new (Nat.le_succ _) (lt_w2b w _ _))
end
end Go.Proofs.YtgiiapenmjollabGreat
