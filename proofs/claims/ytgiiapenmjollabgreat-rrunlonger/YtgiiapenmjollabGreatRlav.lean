import Derived.Test.YtgiiapenmjollabGreatRlau
namespace Go.Proofs.YtgiiapenmjollabGreat
set_option linter.all false
set_option maxHeartbeats 40000000
set_option maxRecDepth 100000
open Go.RowKit
section
open Go.Maps (Keyed has)
theorem did_thr {X:Nat→Prop} {wx w0 w':World} {g:Mg} {h:Hp} {qs:List Qb} {a:Mc} {c c':Cal} {nx n:Int} (hs:h.stops=false) (hn:0≤n) (H:RS 0 X wx w0 g w' h qs a c):DidQ X wx w0 g qs a c ⟨{ h with thrown:=n },c',nx⟩ (thrE n) w':=by
 obtain ⟨ho,-⟩:=stops_not hs
 refine ⟨?_,fun _=>H.eqv ⟨rfl,rfl,rfl,rfl,rfl,rfl,rfl⟩,fun q=>?_⟩
 ·unfold DidE;dsimp only;rw [if_neg (by rw [ho];decide),if_pos hn]
 ·simp [Hp.stops,hn] at q
theorem work_op16 (X:Nat→Prop) (wx w0:World) (g:Mg) (h:Hp) (qs:List Qb) (a:Mc) (c:Cal) (ia ib ic ii:Int) (args:List Int) (Q:Option Addr) (nl q:Nat) (w:World) (H:RX 1 X wx w0 g w h qs a c) (hs:h.stops=false) (ha:0≤ia∧ia<c.locs.length) (F:Fix w0 g h) (hob:h.objs.length≤100) (hvg:(c.rd ia).kind=3→-1≤(c.rd ia).n∧(c.rd ia).n<h.objs.length) :
  Calls Tryz.prog 142 #[.pointer (some ⟨a.q,0,none⟩),.agg #[.int .i64 16,.int .i64 ia,.int .i64 ib,.int .i64 ic,.int .i64 ii,.slice Q nl q]] w fun e w'=>DidQ X wx w0 g qs a c (doesP h c ⟨16,ia,ib,ic,ii,args⟩) e w':=by
 have ho:=(stops_not hs).1
 have HH:=hid H
 have HS:=hid hs
 have hq:=H.qlt
 have HB:Hid (Bl w (w.alloc (.cells #[.int .i64 16,.int .i64 ia,.int .i64 ib,.int .i64 ic,.int .i64 ii,.slice Q nl q] 58))):=(Bl.refl w).alloc _
 have HL0:=hid (blk_new w #[.int .i64 16,.int .i64 ia,.int .i64 ib,.int .i64 ic,.int .i64 ii,.slice Q nl q] 58)
 have z0:=hid ((H.y.bl HB.out).hb)
 have z1:=hid (insC HL0.out)
 have hd:doesP h c ⟨16,ia,ib,ic,ii,args⟩=⟨if (h.rdH c ia 3).over=true then h.rdH c ia 3 else (h.rdH c ia 3).cast (c.rd ia) ib,c.clr,c.pc+1⟩:=rfl
 rw [hd]
 by_cases e1:(c.rd ia).kind=3
 ·obtain ⟨v1,v2⟩:=hvg e1
  rw [rdH_yes e1,if_neg (by rw [ho];decide)]
  have ec:h.cast (c.rd ia) ib=if h.of (c.rd ia) ⟨3,ib⟩=true then h else h.raise 3:=by unfold Hp.cast Hp.mustB isRef;rw [decide_eq_true e1,ho];rfl
  rw [ec]
  have HR:Hid (∀w',RX 1 X wx w0 g w' h qs a c→Calls Tryz.prog 137 #[.pointer (some ⟨a.q,0,none⟩),.int .i64 ia,.int .i64 3] w' fun e w2=>e=.returned (mvV (im (c.rd ia)))∧Bl w' w2):=fun w' H=>rd_yes 1 X wx w0 g h qs a c ia 3 w' H ha (by omega) (fun x=>by omega) e1
  have eof:h.of (c.rd ia) ⟨3,ib⟩=(decide ((c.rd ia).n<0)||belI h.file.classes (h.obj (c.rd ia).n).cls ib):=by unfold Hp.of;simp [e1]
  cases hz:h.of (c.rd ia) ⟨3,ib⟩ with
  | true =>
   rw [if_pos rfl]
   have HC:Hid (∀w',RX 1 X wx w0 g w' h qs a c→Calls Tryz.prog 206 #[.pointer (some ⟨g.hb,0,none⟩),mvV (im (c.rd ia)),.int .i64 ib] w' fun e w2=>e=.returned (mvV (im (c.rd ia)))∧Bl w' w2):=fun w' H=>by
    by_cases hn:(c.rd ia).n<0
    ·exact cast_nil g.hb (c.rd ia) ib w' e1 (by omega)
    ·rw [eof] at hz
     simp [hn] at hz
     exact cast_yes g h (c.rd ia) ib w' (H.rd F hob) e1 (by omega) v2 hz
   have HE:Hid (∀w',RX 1 X wx w0 g w' h qs a c→DidQ X wx w0 g qs a c ⟨h,c.clr,c.pc+1⟩ (.returned (.tuple #[])) w'):=fun w' H=>did_go hs H.less
   generalize im (c.rd ia)=U at *
   clear H hs hd ec eof hz e1 ha F hob hvg v1 v2
   go_enter Tryz.func142,Tryz.ntmps142
   go_wp2
   refine wp_region_held_drew (S:=fun w'=>w'.cell? ⟨a.q,0,none⟩=some (.pointer (some ⟨g.hb,0,none⟩))∧w'.cell? ⟨w.heap.size,1,none⟩=some (.int .i64 ia)∧w'.cell? ⟨w.heap.size,2,none⟩=some (.int .i64 ib)) (by kernel_rfl) ?_ (fun hHeld0=>?_)
   ·exact ⟨z0.out,z1.out.2.1,z1.out.2.2.1⟩
   refine tk (i:=0) (d:=some 58) rfl rfl (by kernel_rfl) (fun _ _ _ h=>h) (by rfl) (by intro _ h;(try dsimp only at h);go_split_ands;go_simp<;>with_reducible rfl) hHeld0 ?_
   try simp only [aS,aN,aT,a0,a1]
   refine tk (i:=1) (d:=some 59) rfl rfl (by kernel_rfl) (fun _ _ _ h=>h) (by rfl) (by intro _ h;(try dsimp only at h);go_split_ands;go_simp<;>with_reducible rfl) hHeld0 ?_
   try simp only [aS,aN,aT,a0,a1]
   refine tk (i:=2) (d:=some 60) rfl rfl (by kernel_rfl) (fun _ _ _ h=>h) (by rfl) (by intro _ h;(try dsimp only at h);go_split_ands;go_simp<;>with_reducible rfl) hHeld0 ?_
   try simp only [aS,aN,aT,a0,a1]
   refine tk (i:=3) (d:=some 61) rfl rfl (by kernel_rfl) (fun _ _ _ h=>h) (by rfl) (by intro _ h;(try dsimp only at h);go_split_ands;go_simp<;>with_reducible rfl) hHeld0 ?_
   try simp only [aS,aN,aT,a0,a1]
   refine tk (i:=4) (d:=some 62) rfl rfl (by kernel_rfl) (fun _ _ _ h=>h) (by rfl) (by intro _ h;(try dsimp only at h);go_split_ands;go_simp<;>with_reducible rfl) hHeld0 ?_
   try simp only [aS,aN,aT,a0,a1]
   refine tk (i:=5) (d:=some 63) rfl rfl (by kernel_rfl) (fun _ _ _ h=>h) (by rfl) (by intro _ h;(try dsimp only at h);go_split_ands;go_simp<;>with_reducible rfl) hHeld0 ?_
   try simp only [aS,aN,aT,a0,a1]
   refine tk (i:=6) (d:=some 64) rfl rfl (by kernel_rfl) (fun _ _ _ h=>h) (by rfl) (by intro _ h;(try dsimp only at h);go_split_ands;go_simp<;>with_reducible rfl) hHeld0 ?_
   try simp only [aS,aN,aT,a0,a1]
   refine tk (i:=8) (d:=some 66) rfl rfl (by kernel_rfl) (fun _ _ _ h=>h) (by rfl) (by intro _ h;(try dsimp only at h);go_split_ands;go_simp<;>with_reducible rfl) hHeld0 ?_
   try simp only [aS,aN,aT,a0,a1]
   refine tk (i:=9) (d:=some 67) rfl rfl (by kernel_rfl) (fun _ _ _ h=>h) (by rfl) (by intro _ h;(try dsimp only at h);go_split_ands;go_simp<;>with_reducible rfl) hHeld0 ?_
   try simp only [aS,aN,aT,a0,a1]
   refine rd1 (i:=7) (by kernel_rfl) rfl fun K hK=>?_
   go_simp
   go_at_call 137
   refine (HR.out _ (HH.out.bl (HB.out.drew))).mono ?_
   rintro e w1 ⟨rfl,b1⟩
   have da0:=hid (b1.cell hHeld0.1)
   have da1:=hid (b1.cell hHeld0.2.1)
   have da2:=hid (b1.cell hHeld0.2.2)
   replace b1:=hid b1
   go_wp2_with fail
   refine hK.out _ _ (⟨da0.out,da1.out,da2.out⟩) (fun hHeld1=>?_)
   try simp only [aS,aN,aT,a0,a1]
   refine rd1 (i:=10) (by kernel_rfl) rfl fun K hK=>?_
   go_simp
   go_at_call 206
   refine (HC.out _ (HH.out.bl (HB.out.drew.trans b1.out))).mono ?_
   rintro e w2 ⟨rfl,b2⟩
   have db0:=hid (b2.cell hHeld1.1)
   have db1:=hid (b2.cell hHeld1.2.1)
   have db2:=hid (b2.cell hHeld1.2.2)
   replace b2:=hid b2
   go_wp2_with fail
   refine hK.out _ _ (⟨db0.out,db1.out,db2.out⟩) (fun hHeld2=>?_)
   try simp only [aS,aN,aT,a0,a1]
   refine wpAnyH_done (by kernel_rfl) ?_ _
   go_wp2
   go_end0
   exact HE.out _ (HH.out.bl ((HB.out.drew.trans b1.out).trans b2.out))
  | false =>
   rw [if_neg (by decide)]
   rw [eof,Bool.or_eq_false_iff] at hz
   obtain ⟨ch,hch⟩:=raiseE_pan h
   have HC:Hid (∀w',RX 1 X wx w0 g w' h qs a c→Calls Tryz.prog 206 #[.pointer (some ⟨g.hb,0,none⟩),mvV (im (c.rd ia)),.int .i64 ib] w' fun e w2=>e=.panicked ch∧RX 1 X wx w0 g w2 (h.raise 3) qs a c):=fun w' H=>hch▸cast_no 1 X wx w0 g h qs a c (c.rd ia) ib w' H F hob ho e1 (by have:=of_decide_eq_false hz.1;omega) v2 hz.2
   have HE:Hid (∀w',RX 1 X wx w0 g w' (h.raise 3) qs a c→DidQ X wx w0 g qs a c ⟨h.raise 3,c.clr,c.pc+1⟩ (.panicked ch) w'):=fun w' H=>hch▸did_raise hs rfl H.less.rs
   generalize im (c.rd ia)=U at *
   clear H hs hd ec eof hz e1 ha F hob hvg v1 v2 hch
   go_enter Tryz.func142,Tryz.ntmps142
   go_wp2
   refine wp_region_held_drew (S:=fun w'=>w'.cell? ⟨a.q,0,none⟩=some (.pointer (some ⟨g.hb,0,none⟩))∧w'.cell? ⟨w.heap.size,1,none⟩=some (.int .i64 ia)∧w'.cell? ⟨w.heap.size,2,none⟩=some (.int .i64 ib)) (by kernel_rfl) ?_ (fun hHeld0=>?_)
   ·exact ⟨z0.out,z1.out.2.1,z1.out.2.2.1⟩
   refine tk (i:=0) (d:=some 58) rfl rfl (by kernel_rfl) (fun _ _ _ h=>h) (by rfl) (by intro _ h;(try dsimp only at h);go_split_ands;go_simp<;>with_reducible rfl) hHeld0 ?_
   try simp only [aS,aN,aT,a0,a1]
   refine tk (i:=1) (d:=some 59) rfl rfl (by kernel_rfl) (fun _ _ _ h=>h) (by rfl) (by intro _ h;(try dsimp only at h);go_split_ands;go_simp<;>with_reducible rfl) hHeld0 ?_
   try simp only [aS,aN,aT,a0,a1]
   refine tk (i:=2) (d:=some 60) rfl rfl (by kernel_rfl) (fun _ _ _ h=>h) (by rfl) (by intro _ h;(try dsimp only at h);go_split_ands;go_simp<;>with_reducible rfl) hHeld0 ?_
   try simp only [aS,aN,aT,a0,a1]
   refine tk (i:=3) (d:=some 61) rfl rfl (by kernel_rfl) (fun _ _ _ h=>h) (by rfl) (by intro _ h;(try dsimp only at h);go_split_ands;go_simp<;>with_reducible rfl) hHeld0 ?_
   try simp only [aS,aN,aT,a0,a1]
   refine tk (i:=4) (d:=some 62) rfl rfl (by kernel_rfl) (fun _ _ _ h=>h) (by rfl) (by intro _ h;(try dsimp only at h);go_split_ands;go_simp<;>with_reducible rfl) hHeld0 ?_
   try simp only [aS,aN,aT,a0,a1]
   refine tk (i:=5) (d:=some 63) rfl rfl (by kernel_rfl) (fun _ _ _ h=>h) (by rfl) (by intro _ h;(try dsimp only at h);go_split_ands;go_simp<;>with_reducible rfl) hHeld0 ?_
   try simp only [aS,aN,aT,a0,a1]
   refine tk (i:=6) (d:=some 64) rfl rfl (by kernel_rfl) (fun _ _ _ h=>h) (by rfl) (by intro _ h;(try dsimp only at h);go_split_ands;go_simp<;>with_reducible rfl) hHeld0 ?_
   try simp only [aS,aN,aT,a0,a1]
   refine tk (i:=8) (d:=some 66) rfl rfl (by kernel_rfl) (fun _ _ _ h=>h) (by rfl) (by intro _ h;(try dsimp only at h);go_split_ands;go_simp<;>with_reducible rfl) hHeld0 ?_
   try simp only [aS,aN,aT,a0,a1]
   refine tk (i:=9) (d:=some 67) rfl rfl (by kernel_rfl) (fun _ _ _ h=>h) (by rfl) (by intro _ h;(try dsimp only at h);go_split_ands;go_simp<;>with_reducible rfl) hHeld0 ?_
   try simp only [aS,aN,aT,a0,a1]
   refine rd1 (i:=7) (by kernel_rfl) rfl fun K hK=>?_
   go_simp
   go_at_call 137
   refine (HR.out _ (HH.out.bl (HB.out.drew))).mono ?_
   rintro e w1 ⟨rfl,b1⟩
   have da0:=hid (b1.cell hHeld0.1)
   have da1:=hid (b1.cell hHeld0.2.1)
   have da2:=hid (b1.cell hHeld0.2.2)
   replace b1:=hid b1
   go_wp2_with fail
   refine hK.out _ _ (⟨da0.out,da1.out,da2.out⟩) (fun hHeld1=>?_)
   try simp only [aS,aN,aT,a0,a1]
   refine rd1 (i:=10) (by kernel_rfl) rfl fun K hK=>?_
   go_simp
   go_at_call 206
   refine (HC.out _ (HH.out.bl (HB.out.drew.trans b1.out))).mono ?_
   rintro e w2 ⟨rfl,H2⟩
   exact ⟨rfl,HE.out _ H2⟩
 ·rw [rdH_no e1,if_pos (fin6 ho 6).1]
  have HR:Hid (∀w',RX 1 X wx w0 g w' h qs a c→Calls Tryz.prog 137 #[.pointer (some ⟨a.q,0,none⟩),.int .i64 ia,.int .i64 3] w' fun e w2=>e=stopE 6 0 0∧Bl w' w2):=fun w' H=>rd_no 1 X wx w0 g h qs a c ia 3 w' H ha (by omega) (fun x=>by omega) e1
  clear H hs hd e1 ha F hob hvg
  go_enter Tryz.func142,Tryz.ntmps142
  go_wp2
  refine wp_region_held_drew (S:=fun w'=>w'.cell? ⟨a.q,0,none⟩=some (.pointer (some ⟨g.hb,0,none⟩))∧w'.cell? ⟨w.heap.size,1,none⟩=some (.int .i64 ia)∧w'.cell? ⟨w.heap.size,2,none⟩=some (.int .i64 ib)) (by kernel_rfl) ?_ (fun hHeld0=>?_)
  ·exact ⟨z0.out,z1.out.2.1,z1.out.2.2.1⟩
  refine tk (i:=0) (d:=some 58) rfl rfl (by kernel_rfl) (fun _ _ _ h=>h) (by rfl) (by intro _ h;(try dsimp only at h);go_split_ands;go_simp<;>with_reducible rfl) hHeld0 ?_
  try simp only [aS,aN,aT,a0,a1]
  refine tk (i:=1) (d:=some 59) rfl rfl (by kernel_rfl) (fun _ _ _ h=>h) (by rfl) (by intro _ h;(try dsimp only at h);go_split_ands;go_simp<;>with_reducible rfl) hHeld0 ?_
  try simp only [aS,aN,aT,a0,a1]
  refine tk (i:=2) (d:=some 60) rfl rfl (by kernel_rfl) (fun _ _ _ h=>h) (by rfl) (by intro _ h;(try dsimp only at h);go_split_ands;go_simp<;>with_reducible rfl) hHeld0 ?_
  try simp only [aS,aN,aT,a0,a1]
  refine tk (i:=3) (d:=some 61) rfl rfl (by kernel_rfl) (fun _ _ _ h=>h) (by rfl) (by intro _ h;(try dsimp only at h);go_split_ands;go_simp<;>with_reducible rfl) hHeld0 ?_
  try simp only [aS,aN,aT,a0,a1]
  refine tk (i:=4) (d:=some 62) rfl rfl (by kernel_rfl) (fun _ _ _ h=>h) (by rfl) (by intro _ h;(try dsimp only at h);go_split_ands;go_simp<;>with_reducible rfl) hHeld0 ?_
  try simp only [aS,aN,aT,a0,a1]
  refine tk (i:=5) (d:=some 63) rfl rfl (by kernel_rfl) (fun _ _ _ h=>h) (by rfl) (by intro _ h;(try dsimp only at h);go_split_ands;go_simp<;>with_reducible rfl) hHeld0 ?_
  try simp only [aS,aN,aT,a0,a1]
  refine tk (i:=6) (d:=some 64) rfl rfl (by kernel_rfl) (fun _ _ _ h=>h) (by rfl) (by intro _ h;(try dsimp only at h);go_split_ands;go_simp<;>with_reducible rfl) hHeld0 ?_
  try simp only [aS,aN,aT,a0,a1]
  refine tk (i:=8) (d:=some 66) rfl rfl (by kernel_rfl) (fun _ _ _ h=>h) (by rfl) (by intro _ h;(try dsimp only at h);go_split_ands;go_simp<;>with_reducible rfl) hHeld0 ?_
  try simp only [aS,aN,aT,a0,a1]
  refine tk (i:=9) (d:=some 67) rfl rfl (by kernel_rfl) (fun _ _ _ h=>h) (by rfl) (by intro _ h;(try dsimp only at h);go_split_ands;go_simp<;>with_reducible rfl) hHeld0 ?_
  try simp only [aS,aN,aT,a0,a1]
  refine rd1 (i:=7) (by kernel_rfl) rfl fun K hK=>?_
  go_simp
  go_at_call 137
  refine (HR.out _ (HH.out.bl (HB.out.drew))).mono ?_
  rintro e w1 ⟨rfl,b1⟩
  exact ⟨rfl,did_fin (stops_not HS.out).1 rfl (HH.out.bl (HB.out.drew.trans b1)).less.rs⟩
theorem work_op21 (X:Nat→Prop) (wx w0:World) (g:Mg) (h:Hp) (qs:List Qb) (a:Mc) (c:Cal) (ia ib ic ii:Int) (args:List Int) (Q:Option Addr) (nl q:Nat) (w:World) (H:RX 1 X wx w0 g w h qs a c) (hs:h.stops=false) (ha:0≤ia∧ia<c.locs.length) (hob:h.objs.length≤100) (hvg:(c.rd ia).kind=3→-1≤(c.rd ia).n∧(c.rd ia).n<h.objs.length) :
  Calls Tryz.prog 142 #[.pointer (some ⟨a.q,0,none⟩),.agg #[.int .i64 21,.int .i64 ia,.int .i64 ib,.int .i64 ic,.int .i64 ii,.slice Q nl q]] w fun e w'=>DidQ X wx w0 g qs a c (doesP h c ⟨21,ia,ib,ic,ii,args⟩) e w':=by
 have ho:=(stops_not hs).1
 have HH:=hid H
 have HS:=hid hs
 have hq:=H.qlt
 have HB:Hid (Bl w (w.alloc (.cells #[.int .i64 21,.int .i64 ia,.int .i64 ib,.int .i64 ic,.int .i64 ii,.slice Q nl q] 58))):=(Bl.refl w).alloc _
 have HL0:=hid (blk_new w #[.int .i64 21,.int .i64 ia,.int .i64 ib,.int .i64 ic,.int .i64 ii,.slice Q nl q] 58)
 have z0:=hid ((H.y.bl HB.out).hb)
 have z1:=hid (insC HL0.out)
 have hd:doesP h c ⟨21,ia,ib,ic,ii,args⟩=⟨if (h.rdH c ia 3).over=true then h.rdH c ia 3 else (h.rdH c ia 3).throw (c.rd ia),c.clr,c.pc+1⟩:=rfl
 rw [hd]
 by_cases e1:(c.rd ia).kind=3
 ·obtain ⟨v1,v2⟩:=hvg e1
  rw [rdH_yes e1,if_neg (by rw [ho];decide)]
  have ec:h.throw (c.rd ia)=if (c.rd ia).n<0 then h.raise 1 else { h with thrown:=(c.rd ia).n }:=by unfold Hp.throw Hp.mustB isRef;rw [decide_eq_true e1,ho];rfl
  rw [ec]
  have HR:Hid (∀w',RX 1 X wx w0 g w' h qs a c→Calls Tryz.prog 137 #[.pointer (some ⟨a.q,0,none⟩),.int .i64 ia,.int .i64 3] w' fun e w2=>e=.returned (mvV (im (c.rd ia)))∧Bl w' w2):=fun w' H=>rd_yes 1 X wx w0 g h qs a c ia 3 w' H ha (by omega) (fun x=>by omega) e1
  obtain ⟨h',ch,he⟩:∃h' ch,(if (c.rd ia).n<0 then h.raise 1 else { h with thrown:=(c.rd ia).n })=h'∧(∀w',RX 1 X wx w0 g w' h qs a c→Calls Tryz.prog 207 #[.pointer (some ⟨g.hb,0,none⟩),mvV (im (c.rd ia))] w' fun e w2=>e=.panicked ch∧DidQ X wx w0 g qs a c ⟨h',c.clr,c.pc+1⟩ (.panicked ch) w2):=by
   by_cases hn:(c.rd ia).n<0
   ·obtain ⟨ch,hch⟩:=raiseE_pan h
    refine ⟨_,ch,if_pos hn,fun w' H=>(hch▸mthrow_nil 1 X wx w0 g h qs a c (c.rd ia) w' H hob ho e1 (by omega)).mono ?_⟩
    rintro e w2 ⟨rfl,H2⟩
    exact ⟨rfl,hch▸did_raise hs rfl H2.less.rs⟩
   ·obtain ⟨ch,hch⟩:∃ch,thrE (c.rd ia).n=.panicked ch:=⟨_,rfl⟩
    refine ⟨_,ch,if_neg hn,fun w' H=>(mthrow_obj g.hb (c.rd ia) e1 (by omega) w').mono ?_⟩
    rintro e w2 ⟨rfl,b2⟩
    exact ⟨hch,hch▸did_thr hs (by omega) (H.bl b2).less.rs⟩
  rw [he.1]
  have HC:=hid he.2
  generalize im (c.rd ia)=U at *
  clear H hs hd ec he e1 ha hob hvg v1 v2
  go_enter Tryz.func142,Tryz.ntmps142
  go_wp2
  refine wp_region_held_drew (S:=fun w'=>w'.cell? ⟨a.q,0,none⟩=some (.pointer (some ⟨g.hb,0,none⟩))∧w'.cell? ⟨w.heap.size,1,none⟩=some (.int .i64 ia)) (by kernel_rfl) ?_ (fun hHeld0=>?_)
  ·exact ⟨z0.out,z1.out.2.1⟩
  refine tk (i:=0) (d:=some 71) rfl rfl (by kernel_rfl) (fun _ _ _ h=>h) (by rfl) (by intro _ h;(try dsimp only at h);go_split_ands;go_simp<;>with_reducible rfl) hHeld0 ?_
  try simp only [aS,aN,aT,a0,a1]
  refine tk (i:=1) (d:=some 72) rfl rfl (by kernel_rfl) (fun _ _ _ h=>h) (by rfl) (by intro _ h;(try dsimp only at h);go_split_ands;go_simp<;>with_reducible rfl) hHeld0 ?_
  try simp only [aS,aN,aT,a0,a1]
  refine tk (i:=2) (d:=some 73) rfl rfl (by kernel_rfl) (fun _ _ _ h=>h) (by rfl) (by intro _ h;(try dsimp only at h);go_split_ands;go_simp<;>with_reducible rfl) hHeld0 ?_
  try simp only [aS,aN,aT,a0,a1]
  refine tk (i:=3) (d:=some 74) rfl rfl (by kernel_rfl) (fun _ _ _ h=>h) (by rfl) (by intro _ h;(try dsimp only at h);go_split_ands;go_simp<;>with_reducible rfl) hHeld0 ?_
  try simp only [aS,aN,aT,a0,a1]
  refine tk (i:=4) (d:=some 75) rfl rfl (by kernel_rfl) (fun _ _ _ h=>h) (by rfl) (by intro _ h;(try dsimp only at h);go_split_ands;go_simp<;>with_reducible rfl) hHeld0 ?_
  try simp only [aS,aN,aT,a0,a1]
  refine tk (i:=5) (d:=some 76) rfl rfl (by kernel_rfl) (fun _ _ _ h=>h) (by rfl) (by intro _ h;(try dsimp only at h);go_split_ands;go_simp<;>with_reducible rfl) hHeld0 ?_
  try simp only [aS,aN,aT,a0,a1]
  refine tk (i:=6) (d:=some 77) rfl rfl (by kernel_rfl) (fun _ _ _ h=>h) (by rfl) (by intro _ h;(try dsimp only at h);go_split_ands;go_simp<;>with_reducible rfl) hHeld0 ?_
  try simp only [aS,aN,aT,a0,a1]
  refine rd1 (i:=7) (by kernel_rfl) rfl fun K hK=>?_
  go_simp
  go_at_call 137
  refine (HR.out _ (HH.out.bl (HB.out.drew))).mono ?_
  rintro e w1 ⟨rfl,b1⟩
  have da0:=hid (b1.cell hHeld0.1)
  have da1:=hid (b1.cell hHeld0.2)
  replace b1:=hid b1
  go_wp2_with fail
  refine hK.out _ _ (⟨da0.out,da1.out⟩) (fun hHeld1=>?_)
  try simp only [aS,aN,aT,a0,a1]
  refine rd1 (i:=8) (by kernel_rfl) rfl fun K hK=>?_
  go_simp
  go_at_call 207
  refine (HC.out _ (HH.out.bl (HB.out.drew.trans b1.out))).mono ?_
  rintro e w2 ⟨rfl,q2⟩
  exact ⟨rfl,q2⟩
 ·rw [rdH_no e1,if_pos (fin6 ho 6).1]
  have HR:Hid (∀w',RX 1 X wx w0 g w' h qs a c→Calls Tryz.prog 137 #[.pointer (some ⟨a.q,0,none⟩),.int .i64 ia,.int .i64 3] w' fun e w2=>e=stopE 6 0 0∧Bl w' w2):=fun w' H=>rd_no 1 X wx w0 g h qs a c ia 3 w' H ha (by omega) (fun x=>by omega) e1
  clear H hs hd e1 ha hob hvg
  go_enter Tryz.func142,Tryz.ntmps142
  go_wp2
  refine wp_region_held_drew (S:=fun w'=>w'.cell? ⟨a.q,0,none⟩=some (.pointer (some ⟨g.hb,0,none⟩))∧w'.cell? ⟨w.heap.size,1,none⟩=some (.int .i64 ia)) (by kernel_rfl) ?_ (fun hHeld0=>?_)
  ·exact ⟨z0.out,z1.out.2.1⟩
  refine tk (i:=0) (d:=some 71) rfl rfl (by kernel_rfl) (fun _ _ _ h=>h) (by rfl) (by intro _ h;(try dsimp only at h);go_split_ands;go_simp<;>with_reducible rfl) hHeld0 ?_
  try simp only [aS,aN,aT,a0,a1]
  refine tk (i:=1) (d:=some 72) rfl rfl (by kernel_rfl) (fun _ _ _ h=>h) (by rfl) (by intro _ h;(try dsimp only at h);go_split_ands;go_simp<;>with_reducible rfl) hHeld0 ?_
  try simp only [aS,aN,aT,a0,a1]
  refine tk (i:=2) (d:=some 73) rfl rfl (by kernel_rfl) (fun _ _ _ h=>h) (by rfl) (by intro _ h;(try dsimp only at h);go_split_ands;go_simp<;>with_reducible rfl) hHeld0 ?_
  try simp only [aS,aN,aT,a0,a1]
  refine tk (i:=3) (d:=some 74) rfl rfl (by kernel_rfl) (fun _ _ _ h=>h) (by rfl) (by intro _ h;(try dsimp only at h);go_split_ands;go_simp<;>with_reducible rfl) hHeld0 ?_
  try simp only [aS,aN,aT,a0,a1]
  refine tk (i:=4) (d:=some 75) rfl rfl (by kernel_rfl) (fun _ _ _ h=>h) (by rfl) (by intro _ h;(try dsimp only at h);go_split_ands;go_simp<;>with_reducible rfl) hHeld0 ?_
  try simp only [aS,aN,aT,a0,a1]
  refine tk (i:=5) (d:=some 76) rfl rfl (by kernel_rfl) (fun _ _ _ h=>h) (by rfl) (by intro _ h;(try dsimp only at h);go_split_ands;go_simp<;>with_reducible rfl) hHeld0 ?_
  try simp only [aS,aN,aT,a0,a1]
  refine tk (i:=6) (d:=some 77) rfl rfl (by kernel_rfl) (fun _ _ _ h=>h) (by rfl) (by intro _ h;(try dsimp only at h);go_split_ands;go_simp<;>with_reducible rfl) hHeld0 ?_
  try simp only [aS,aN,aT,a0,a1]
  refine rd1 (i:=7) (by kernel_rfl) rfl fun K hK=>?_
  go_simp
  go_at_call 137
  refine (HR.out _ (HH.out.bl (HB.out.drew))).mono ?_
  rintro e w1 ⟨rfl,b1⟩
  exact ⟨rfl,did_fin (stops_not HS.out).1 rfl (HH.out.bl (HB.out.drew.trans b1)).less.rs⟩
theorem work_op23 (X:Nat→Prop) (wx w0:World) (g:Mg) (h:Hp) (qs:List Qb) (a:Mc) (c:Cal) (ia ib ic ii:Int) (args:List Int) (Q:Option Addr) (nl q:Nat) (w:World) (H:RX 1 X wx w0 g w h qs a c) (hs:h.stops=false) (ha:0≤ia∧ia<c.locs.length) (hk:1≤ib∧ib≤2) (h2:ib=2→ia+1<c.locs.length) (hout:h.sh.out.length≤100000) :
  Calls Tryz.prog 142 #[.pointer (some ⟨a.q,0,none⟩),.agg #[.int .i64 23,.int .i64 ia,.int .i64 ib,.int .i64 ic,.int .i64 ii,.slice Q nl q]] w fun e w'=>DidQ X wx w0 g qs a c (doesP h c ⟨23,ia,ib,ic,ii,args⟩) e w':=by
 have ho:=(stops_not hs).1
 have HH:=hid H
 have HS:=hid hs
 have hq:=H.qlt
 have HB:Hid (Bl w (w.alloc (.cells #[.int .i64 23,.int .i64 ia,.int .i64 ib,.int .i64 ic,.int .i64 ii,.slice Q nl q] 58))):=(Bl.refl w).alloc _
 have HL0:=hid (blk_new w #[.int .i64 23,.int .i64 ia,.int .i64 ib,.int .i64 ic,.int .i64 ii,.slice Q nl q] 58)
 have z0:=hid ((H.y.bl HB.out).hb)
 have z1:=hid (insC HL0.out)
 obtain ⟨vs0,C0⟩:=(H.bl HB.out).cells
 have zr:=hid C0.c1
 clear C0
 have hd:doesP h c ⟨23,ia,ib,ic,ii,args⟩=⟨if (h.rdH c ia ib).over=true then h.rdH c ia ib else (h.rdH c ia ib).emit (c.rd ia) ib,c.clr,c.pc+1⟩:=rfl
 rw [hd]
 have hk3:1≤ib∧ib≤3:=by omega
 by_cases e1:(c.rd ia).kind=ib
 ·rw [rdH_yes e1,if_neg (by rw [ho];decide)]
  have ec:h.emit (c.rd ia) ib=h.outs (c.rd ia).n:=by unfold Hp.emit;rw [if_pos (by unfold Hp.mustB;rw [decide_eq_true e1,ho];rfl)];rfl
  rw [ec]
  have i1:im (c.rd ia)=c.rd ia:=im_num (by omega)
  have HR:Hid (∀w',RX 1 X wx w0 g w' h qs a c→Calls Tryz.prog 137 #[.pointer (some ⟨a.q,0,none⟩),.int .i64 ia,.int .i64 ib] w' fun e w2=>e=.returned (mvV (im (c.rd ia)))∧Bl w' w2):=fun w' H=>rd_yes 1 X wx w0 g h qs a c ia ib w' H ha hk3 h2 e1
  rw [i1] at HR
  have HC:Hid (∀X wx w,RX 1 X wx w0 g w h qs a c→Calls Tryz.prog 208 #[.pointer (some ⟨g.r,0,none⟩),mvV (c.rd ia)] w fun e w'=>e=.returned (.tuple #[])∧RX 1 X wx w0 g w' (h.outs (c.rd ia).n) qs a c):=fun X wx w H=>memit_any 1 X wx w0 g h qs a c (c.rd ia) w H hout
  have hs2:(h.outs (c.rd ia).n).stops=false:=hs
  have HE:Hid (∀w',RX 1 X wx w0 g w' (h.outs (c.rd ia).n) qs a c→DidQ X wx w0 g qs a c ⟨h.outs (c.rd ia).n,c.clr,c.pc+1⟩ (.returned (.tuple #[])) w'):=fun w' H=>did_go hs2 H.less
  generalize h.outs (c.rd ia).n=h' at *
  clear H hs hd ec e1 ha hk hk3 h2 hout i1 hs2
  go_enter Tryz.func142,Tryz.ntmps142
  go_wp2
  refine wp_region_held_drew (S:=fun w'=>w'.cell? ⟨a.q,1,none⟩=some (.pointer (some ⟨g.r,0,none⟩))∧w'.cell? ⟨w.heap.size,1,none⟩=some (.int .i64 ia)∧w'.cell? ⟨w.heap.size,2,none⟩=some (.int .i64 ib)) (by kernel_rfl) ?_ (fun hHeld0=>?_)
  ·exact ⟨zr.out,z1.out.2.1,z1.out.2.2.1⟩
  refine tk (i:=0) (d:=some 82) rfl rfl (by kernel_rfl) (fun _ _ _ h=>h) (by rfl) (by intro _ h;(try dsimp only at h);go_split_ands;go_simp<;>with_reducible rfl) hHeld0 ?_
  try simp only [aS,aN,aT,a0,a1]
  refine tk (i:=1) (d:=some 83) rfl rfl (by kernel_rfl) (fun _ _ _ h=>h) (by rfl) (by intro _ h;(try dsimp only at h);go_split_ands;go_simp<;>with_reducible rfl) hHeld0 ?_
  try simp only [aS,aN,aT,a0,a1]
  refine tk (i:=2) (d:=some 84) rfl rfl (by kernel_rfl) (fun _ _ _ h=>h) (by rfl) (by intro _ h;(try dsimp only at h);go_split_ands;go_simp<;>with_reducible rfl) hHeld0 ?_
  try simp only [aS,aN,aT,a0,a1]
  refine tk (i:=3) (d:=some 85) rfl rfl (by kernel_rfl) (fun _ _ _ h=>h) (by rfl) (by intro _ h;(try dsimp only at h);go_split_ands;go_simp<;>with_reducible rfl) hHeld0 ?_
  try simp only [aS,aN,aT,a0,a1]
  refine tk (i:=4) (d:=some 86) rfl rfl (by kernel_rfl) (fun _ _ _ h=>h) (by rfl) (by intro _ h;(try dsimp only at h);go_split_ands;go_simp<;>with_reducible rfl) hHeld0 ?_
  try simp only [aS,aN,aT,a0,a1]
  refine tk (i:=5) (d:=some 87) rfl rfl (by kernel_rfl) (fun _ _ _ h=>h) (by rfl) (by intro _ h;(try dsimp only at h);go_split_ands;go_simp<;>with_reducible rfl) hHeld0 ?_
  try simp only [aS,aN,aT,a0,a1]
  refine tk (i:=6) (d:=some 88) rfl rfl (by kernel_rfl) (fun _ _ _ h=>h) (by rfl) (by intro _ h;(try dsimp only at h);go_split_ands;go_simp<;>with_reducible rfl) hHeld0 ?_
  try simp only [aS,aN,aT,a0,a1]
  refine tk (i:=7) (d:=some 89) rfl rfl (by kernel_rfl) (fun _ _ _ h=>h) (by rfl) (by intro _ h;(try dsimp only at h);go_split_ands;go_simp<;>with_reducible rfl) hHeld0 ?_
  try simp only [aS,aN,aT,a0,a1]
  refine tk (i:=8) (d:=some 90) rfl rfl (by kernel_rfl) (fun _ _ _ h=>h) (by rfl) (by intro _ h;(try dsimp only at h);go_split_ands;go_simp<;>with_reducible rfl) hHeld0 ?_
  try simp only [aS,aN,aT,a0,a1]
  refine rd1 (i:=9) (by kernel_rfl) rfl fun K hK=>?_
  go_simp
  go_at_call 137
  refine (HR.out _ (HH.out.bl (HB.out.drew))).mono ?_
  rintro e w1 ⟨rfl,b1⟩
  have da0:=hid (b1.cell hHeld0.1)
  have da1:=hid (b1.cell hHeld0.2.1)
  have da2:=hid (b1.cell hHeld0.2.2)
  replace b1:=hid b1
  go_wp2_with fail
  refine hK.out _ _ (⟨da0.out,da1.out,da2.out⟩) (fun hHeld1=>?_)
  try simp only [aS,aN,aT,a0,a1]
  refine rd1 (i:=10) (by kernel_rfl) rfl fun K hK=>?_
  go_simp
  go_at_call 208
  refine (HH.out.y.useY (HB.out.drew.trans b1.out) HC.out).mono ?_
  rintro e w2 ⟨rfl,H2,K2⟩
  have x0:=K2.at (Xp.new (Nat.le_refl _) (lt_some (bl_blk b1.out HL0.out))) (bl_blk b1.out HL0.out)
  obtain ⟨vs2,C2⟩:=H2.x.cells
  have db0:=hid C2.c1
  have db1:=hid (insC x0).2.1
  have db2:=hid (insC x0).2.2.1
  replace H2:=hid H2
  clear K2 x0 C2
  go_wp2_with fail
  refine hK.out _ _ (⟨db0.out,db1.out,db2.out⟩) (fun hHeld2=>?_)
  try simp only [aS,aN,aT,a0,a1]
  refine wpAnyH_done (by kernel_rfl) ?_ _
  go_wp2
  go_end0
  exact HE.out _ H2.out.x
 ·rw [rdH_no e1,if_pos (fin6 ho 6).1]
  have HR:Hid (∀w',RX 1 X wx w0 g w' h qs a c→Calls Tryz.prog 137 #[.pointer (some ⟨a.q,0,none⟩),.int .i64 ia,.int .i64 ib] w' fun e w2=>e=stopE 6 0 0∧Bl w' w2):=fun w' H=>rd_no 1 X wx w0 g h qs a c ia ib w' H ha hk3 h2 e1
  clear H hs hd e1 ha hk hk3 h2 hout
  go_enter Tryz.func142,Tryz.ntmps142
  go_wp2
  refine wp_region_held_drew (S:=fun w'=>w'.cell? ⟨a.q,1,none⟩=some (.pointer (some ⟨g.r,0,none⟩))∧w'.cell? ⟨w.heap.size,1,none⟩=some (.int .i64 ia)∧w'.cell? ⟨w.heap.size,2,none⟩=some (.int .i64 ib)) (by kernel_rfl) ?_ (fun hHeld0=>?_)
  ·exact ⟨zr.out,z1.out.2.1,z1.out.2.2.1⟩
  refine tk (i:=0) (d:=some 82) rfl rfl (by kernel_rfl) (fun _ _ _ h=>h) (by rfl) (by intro _ h;(try dsimp only at h);go_split_ands;go_simp<;>with_reducible rfl) hHeld0 ?_
  try simp only [aS,aN,aT,a0,a1]
  refine tk (i:=1) (d:=some 83) rfl rfl (by kernel_rfl) (fun _ _ _ h=>h) (by rfl) (by intro _ h;(try dsimp only at h);go_split_ands;go_simp<;>with_reducible rfl) hHeld0 ?_
  try simp only [aS,aN,aT,a0,a1]
  refine tk (i:=2) (d:=some 84) rfl rfl (by kernel_rfl) (fun _ _ _ h=>h) (by rfl) (by intro _ h;(try dsimp only at h);go_split_ands;go_simp<;>with_reducible rfl) hHeld0 ?_
  try simp only [aS,aN,aT,a0,a1]
  refine tk (i:=3) (d:=some 85) rfl rfl (by kernel_rfl) (fun _ _ _ h=>h) (by rfl) (by intro _ h;(try dsimp only at h);go_split_ands;go_simp<;>with_reducible rfl) hHeld0 ?_
  try simp only [aS,aN,aT,a0,a1]
  refine tk (i:=4) (d:=some 86) rfl rfl (by kernel_rfl) (fun _ _ _ h=>h) (by rfl) (by intro _ h;(try dsimp only at h);go_split_ands;go_simp<;>with_reducible rfl) hHeld0 ?_
  try simp only [aS,aN,aT,a0,a1]
  refine tk (i:=5) (d:=some 87) rfl rfl (by kernel_rfl) (fun _ _ _ h=>h) (by rfl) (by intro _ h;(try dsimp only at h);go_split_ands;go_simp<;>with_reducible rfl) hHeld0 ?_
  try simp only [aS,aN,aT,a0,a1]
  refine tk (i:=6) (d:=some 88) rfl rfl (by kernel_rfl) (fun _ _ _ h=>h) (by rfl) (by intro _ h;(try dsimp only at h);go_split_ands;go_simp<;>with_reducible rfl) hHeld0 ?_
  try simp only [aS,aN,aT,a0,a1]
  refine tk (i:=7) (d:=some 89) rfl rfl (by kernel_rfl) (fun _ _ _ h=>h) (by rfl) (by intro _ h;(try dsimp only at h);go_split_ands;go_simp<;>with_reducible rfl) hHeld0 ?_
  try simp only [aS,aN,aT,a0,a1]
  refine tk (i:=8) (d:=some 90) rfl rfl (by kernel_rfl) (fun _ _ _ h=>h) (by rfl) (by intro _ h;(try dsimp only at h);go_split_ands;go_simp<;>with_reducible rfl) hHeld0 ?_
  try simp only [aS,aN,aT,a0,a1]
  refine rd1 (i:=9) (by kernel_rfl) rfl fun K hK=>?_
  go_simp
  go_at_call 137
  refine (HR.out _ (HH.out.bl (HB.out.drew))).mono ?_
  rintro e w1 ⟨rfl,b1⟩
  exact ⟨rfl,did_fin (stops_not HS.out).1 rfl (HH.out.bl (HB.out.drew.trans b1)).less.rs⟩
theorem work_val (op:Int) (X:Nat→Prop) (wx w0:World) (g:Mg) (h:Hp) (qs:List Qb) (a:Mc) (c:Cal) (ia ib ic ii:Int) (args:List Int) (Q:Option Addr) (nl q:Nat) (w:World) (H:RX 1 X wx w0 g w h qs a c) (hs:h.stops=false) (ha:0≤ia∧ia<c.locs.length) (hop:op≤9∨op=13∨op=14∨op=17∨op=19∨op=22∨op=24)
  (hc:∀X wx w,RX 1 X wx w0 g w h qs a c→Calls Tryz.prog 209 #[.pointer (some ⟨a.q,0,none⟩),.agg #[.int .i64 op,.int .i64 ia,.int .i64 ib,.int .i64 ic,.int .i64 ii,.slice Q nl q]] w fun e w2=>ValQ X wx w0 g qs a c (valH h c ⟨op,ia,ib,ic,ii,args⟩) (valV h c ⟨op,ia,ib,ic,ii,args⟩) e w2)
  (hkd:(valH h c ⟨op,ia,ib,ic,ii,args⟩).stops=false→1≤(valV h c ⟨op,ia,ib,ic,ii,args⟩).kind∧(valV h c ⟨op,ia,ib,ic,ii,args⟩).kind≤3) (h2:(valH h c ⟨op,ia,ib,ic,ii,args⟩).stops=false→(valV h c ⟨op,ia,ib,ic,ii,args⟩).kind=2→ia+1<c.locs.length) :
  Calls Tryz.prog 142 #[.pointer (some ⟨a.q,0,none⟩),.agg #[.int .i64 op,.int .i64 ia,.int .i64 ib,.int .i64 ic,.int .i64 ii,.slice Q nl q]] w fun e w'=>DidQ X wx w0 g qs a c (doesP h c ⟨op,ia,ib,ic,ii,args⟩) e w':=by
 obtain ⟨na,rfl⟩:∃na:Nat,ia=na:=⟨ia.toNat,by omega⟩
 have ho:=(stops_not hs).1
 have HH:=hid H
 have HS:=hid hs
 have hq:=H.qlt
 have HB:Hid (Bl w (w.alloc (.cells #[.int .i64 op,.int .i64 (na:Int),.int .i64 ib,.int .i64 ic,.int .i64 ii,.slice Q nl q] 58))):=(Bl.refl w).alloc _
 have HL0:=hid (blk_new w #[.int .i64 op,.int .i64 (na:Int),.int .i64 ib,.int .i64 ic,.int .i64 ii,.slice Q nl q] 58)
 have z0:=hid ((H.y.bl HB.out).hb)
 have z1:=hid (insC HL0.out)
 obtain ⟨vs0,C0⟩:=(H.bl HB.out).cells
 have zr:=hid C0.c10
 clear C0
 rw [does_val c hs hop]
 have e15:(op==15)=false:=by simp;omega
 have e16:(op==16)=false:=by simp;omega
 have e21:(op==21)=false:=by simp;omega
 have e23:(op==23)=false:=by simp;omega
 generalize hHV:valH h c ⟨op,(na:Int),ib,ic,ii,args⟩=HV at *
 generalize hVV:valV h c ⟨op,(na:Int),ib,ic,ii,args⟩=VV at *
 dsimp only
 rcases val_split hc with ⟨ch,st,HC⟩|⟨st,HC⟩
 ·replace HC:=hid HC
  have HE:Hid (∀w',RS 1 X wx w0 g w' HV qs a c→DidQ X wx w0 g qs a c ⟨HV,wrP HV c.clr (na:Int) VV,c.pc+1⟩ (.panicked ch) w'):=fun w' H=>by
   refine ⟨?_,fun _=>H.less,fun q=>by dsimp only at q;rw [st.1] at q;exact absurd q (by decide)⟩
   have hst:=st.1
   rw [←st.2]
   unfold ValE DidE
   dsimp only
   unfold Hp.stops at hst
   rw [Bool.or_eq_true] at hst
   by_cases hov:HV.over=true
   ·rw [if_pos hov,if_pos hov]
   ·have ht:=of_decide_eq_true (hst.resolve_left hov)
    rw [if_neg hov,if_pos ht,if_neg hov,if_pos ht]
  clear H hs st hc hkd h2 ha hHV hVV hop
  go_enter Tryz.func142,Tryz.ntmps142
  go_wp2
  refine wp_region_held_drew (S:=fun w'=>w'.cell? ⟨a.q,10,none⟩=some (.slice (some ⟨a.lb,0,none⟩) c.locs.length a.lc)∧w'.cell? ⟨w.heap.size,0,none⟩=some (.int .i64 op)∧w'.cell? ⟨w.heap.size,1,none⟩=some (.int .i64 (na:Int))∧w'.cell? ⟨w.heap.size,2,none⟩=some (.int .i64 ib)∧w'.cell? ⟨w.heap.size,3,none⟩=some (.int .i64 ic)∧w'.cell? ⟨w.heap.size,4,none⟩=some (.int .i64 ii)∧w'.cell? ⟨w.heap.size,5,none⟩=some (.slice Q nl q)) (by kernel_rfl) ?_ (fun hHeld0=>?_)
  ·exact ⟨zr.out,z1.out⟩
  refine tk (i:=0) (d:=some 7) rfl rfl (by kernel_rfl) (fun _ _ _ h=>h) (by rfl) (by intro _ h;(try dsimp only at h);go_split_ands;go_simp<;>with_reducible rfl) hHeld0 ?_
  try simp only [aS,aN,aT,a0,a1]
  refine tk (i:=1) (d:=some 8) rfl rfl (by kernel_rfl) (fun _ _ _ h=>h) (by rfl) (by intro _ h;(try dsimp only at h);go_split_ands;go_simp<;>with_reducible rfl) hHeld0 ?_
  try simp only [aS,aN,aT,a0,a1]
  refine tk (i:=2) (d:=some 9) rfl rfl (by kernel_rfl) (fun _ _ _ h=>h) (by rfl) (by intro _ h;(try dsimp only at h);go_split_ands;go_simp<;>with_reducible rfl) hHeld0 ?_
  try simp only [aS,aN,aT,a0,a1]
  refine tk (i:=3) (d:=some 10) rfl rfl (by kernel_rfl) (fun _ _ _ h=>h) (by rfl) (by intro _ h;(try dsimp only at h);go_split_ands;go_simp<;>with_reducible rfl) hHeld0 ?_
  try simp only [aS,aN,aT,a0,a1]
  refine tk (i:=4) (d:=some 11) rfl rfl (by kernel_rfl) (fun _ _ _ h=>h) (by rfl) (by intro _ h;(try dsimp only at h);go_split_ands;go_simp<;>with_reducible rfl) hHeld0 ?_
  try simp only [aS,aN,aT,a0,a1]
  refine tk (i:=5) (d:=some 12) rfl rfl (by kernel_rfl) (fun _ _ _ h=>h) (by rfl) (by intro _ h;(try dsimp only at h);go_split_ands;go_simp<;>with_reducible rfl) hHeld0 ?_
  try simp only [aS,aN,aT,a0,a1]
  refine tk (i:=6) (d:=some 13) rfl rfl (by kernel_rfl) (fun _ _ _ h=>h) (by rfl) (by intro _ h;(try dsimp only at h);go_split_ands;go_simp<;>with_reducible rfl) hHeld0 ?_
  try simp only [aS,aN,aT,a0,a1]
  refine tk (i:=7) (d:=some 14) rfl rfl (by kernel_rfl) (fun _ _ _ h=>h) (by rfl) (by intro _ h;(try dsimp only at h);go_split_ands;go_simp<;>with_reducible rfl) hHeld0 ?_
  try simp only [aS,aN,aT,a0,a1]
  refine rd1 (i:=8) (by kernel_rfl) rfl fun K hK=>?_
  go_simp
  go_at_call 209
  refine (HH.out.y.useN HB.out.drew HC.out).mono ?_
  rintro e w1 ⟨rfl,H1⟩
  exact ⟨rfl,HE.out _ H1⟩
 ·replace HC:=hid HC
  have HW:Hid (∀X wx w,RX 1 X wx w0 g w HV qs a c→Calls Tryz.prog 132 #[.slice (some ⟨a.lb,0,none⟩) c.locs.length a.lc,.int .i64 (na:Int),mvV (im VV)] w fun e w'=>e=.returned (.tuple #[])∧RX 1 X wx w0 g w' HV qs a { c with locs:=stoP c.locs na VV }):=fun X wx w H=>write_any 1 X wx w0 g HV qs a c na VV w H (by omega) (hkd st) (fun x=>by have:=h2 st x;omega)
  have HE:Hid (∀w',RX 1 X wx w0 g w' HV qs a { c with locs:=stoP c.locs na VV }→DidQ X wx w0 g qs a c ⟨HV,wrP HV c.clr (na:Int) VV,c.pc+1⟩ (.returned (.tuple #[])) w'):=fun w' H=>by
   refine did_go st ?_
   have e:(wrP HV c.clr (na:Int) VV).locs=stoP c.locs na VV:=by
    unfold wrP;rw [if_neg (by rw [st];decide)];rfl
   rw [e]
   exact H.less
  generalize im VV=VI at *
  clear H hs st hc hkd h2 ha hHV hVV hop
  go_enter Tryz.func142,Tryz.ntmps142
  go_wp2
  refine wp_region_held_drew (S:=fun w'=>w'.cell? ⟨a.q,10,none⟩=some (.slice (some ⟨a.lb,0,none⟩) c.locs.length a.lc)∧w'.cell? ⟨w.heap.size,0,none⟩=some (.int .i64 op)∧w'.cell? ⟨w.heap.size,1,none⟩=some (.int .i64 (na:Int))∧w'.cell? ⟨w.heap.size,2,none⟩=some (.int .i64 ib)∧w'.cell? ⟨w.heap.size,3,none⟩=some (.int .i64 ic)∧w'.cell? ⟨w.heap.size,4,none⟩=some (.int .i64 ii)∧w'.cell? ⟨w.heap.size,5,none⟩=some (.slice Q nl q)) (by kernel_rfl) ?_ (fun hHeld0=>?_)
  ·exact ⟨zr.out,z1.out⟩
  refine tk (i:=0) (d:=some 7) rfl rfl (by kernel_rfl) (fun _ _ _ h=>h) (by rfl) (by intro _ h;(try dsimp only at h);go_split_ands;go_simp<;>with_reducible rfl) hHeld0 ?_
  try simp only [aS,aN,aT,a0,a1]
  refine tk (i:=1) (d:=some 8) rfl rfl (by kernel_rfl) (fun _ _ _ h=>h) (by rfl) (by intro _ h;(try dsimp only at h);go_split_ands;go_simp<;>with_reducible rfl) hHeld0 ?_
  try simp only [aS,aN,aT,a0,a1]
  refine tk (i:=2) (d:=some 9) rfl rfl (by kernel_rfl) (fun _ _ _ h=>h) (by rfl) (by intro _ h;(try dsimp only at h);go_split_ands;go_simp<;>with_reducible rfl) hHeld0 ?_
  try simp only [aS,aN,aT,a0,a1]
  refine tk (i:=3) (d:=some 10) rfl rfl (by kernel_rfl) (fun _ _ _ h=>h) (by rfl) (by intro _ h;(try dsimp only at h);go_split_ands;go_simp<;>with_reducible rfl) hHeld0 ?_
  try simp only [aS,aN,aT,a0,a1]
  refine tk (i:=4) (d:=some 11) rfl rfl (by kernel_rfl) (fun _ _ _ h=>h) (by rfl) (by intro _ h;(try dsimp only at h);go_split_ands;go_simp<;>with_reducible rfl) hHeld0 ?_
  try simp only [aS,aN,aT,a0,a1]
  refine tk (i:=5) (d:=some 12) rfl rfl (by kernel_rfl) (fun _ _ _ h=>h) (by rfl) (by intro _ h;(try dsimp only at h);go_split_ands;go_simp<;>with_reducible rfl) hHeld0 ?_
  try simp only [aS,aN,aT,a0,a1]
  refine tk (i:=6) (d:=some 13) rfl rfl (by kernel_rfl) (fun _ _ _ h=>h) (by rfl) (by intro _ h;(try dsimp only at h);go_split_ands;go_simp<;>with_reducible rfl) hHeld0 ?_
  try simp only [aS,aN,aT,a0,a1]
  refine tk (i:=7) (d:=some 14) rfl rfl (by kernel_rfl) (fun _ _ _ h=>h) (by rfl) (by intro _ h;(try dsimp only at h);go_split_ands;go_simp<;>with_reducible rfl) hHeld0 ?_
  try simp only [aS,aN,aT,a0,a1]
  refine rd1 (i:=8) (by kernel_rfl) rfl fun K hK=>?_
  go_simp
  go_at_call 209
  refine (HH.out.y.useY HB.out.drew HC.out).mono ?_
  rintro e w1 ⟨rfl,H1,K1⟩
  have x0:=K1.at (Xp.new (Nat.le_refl _) (lt_w1 w _)) HL0.out
  obtain ⟨vs1,C1⟩:=H1.x.cells
  have da0:=hid C1.c10
  have da1:=hid (insC x0)
  replace x0:=hid x0
  replace H1:=hid H1
  clear K1 C1
  go_wp2_with fail
  refine hK.out _ _ (⟨da0.out,da1.out⟩) (fun hHeld1=>?_)
  try simp only [aS,aN,aT,a0,a1]
  refine rd1 (i:=9) (by kernel_rfl) rfl fun K hK=>?_
  go_simp
  go_at_call 132
  refine (H1.out.useY (Bl.refl _) HW.out).mono ?_
  rintro e w2 ⟨rfl,H2,K2⟩
  have x2:=K2.at (Xp.old (Xp.new (Nat.le_refl _) (lt_w1 w _))) x0.out
  obtain ⟨vs2,C2⟩:=H2.x.cells
  have hL:(stoP c.locs na VV).length=c.locs.length:=sto_length _ _ _
  have db0:=C2.c10
  dsimp only at db0
  rw [hL] at db0
  replace db0:=hid db0
  have db1:=hid (insC x2)
  replace H2:=hid H2
  clear K2 C2 x2
  go_wp2_with fail
  refine hK.out _ _ (⟨db0.out,db1.out⟩) (fun hHeld2=>?_)
  try simp only [aS,aN,aT,a0,a1]
  refine wpAnyH_done (by kernel_rfl) ?_ _
  go_wp2
  go_end0
  exact HE.out _ H2.out.x
end
end Go.Proofs.YtgiiapenmjollabGreat
