import Derived.Test.YtgiiapenmjollabGreatRlaj
import Derived.Test.YtgiiapenmjollabGreatRlba
import Derived.Laws.EntriesVeiled
namespace Go.Proofs.YtgiiapenmjollabGreat
set_option linter.all false
set_option maxHeartbeats 40000000
set_option maxRecDepth 100000
open Go.RowKit
theorem RX.c0910 {s:Nat} {X:Nat→Prop} {wx w0 w:World} {g:Mg} {h:Hp} {qs:List Qb} {a:Mc} {c:Cal} (H:RX s X wx w0 g w h qs a c):w.cell? ⟨a.q,0,none⟩=some (.pointer (some ⟨g.hb,0,none⟩))∧w.cell? ⟨a.q,9,none⟩=some (.slice a.K c.m.hands.length a.k)∧w.cell? ⟨a.q,11,none⟩=some (.int .i64 c.pc):=by
 obtain ⟨vc,vo,vx,vs,l,H⟩:=H
 refine ⟨?_,?_,?_⟩<;>(rw [cell_blk H.ca.blk];rfl)
theorem catch_no (s:Nat) (X:Nat→Prop) (wx w0:World) (g:Mg) (h:Hp) (qs:List Qb) (a:Mc) (c:Cal) (v:Va) (w:World) (H:RX s X wx w0 g w h qs a c) (F:Fix w0 g h) (hf:h.objs.length≤100) (hv:v.kind=3) (h0:0≤v.n) (hn:v.n<h.objs.length) (ht:h.thrown=v.n) (hok:∀q,q<c.m.hands.length→0≤(nth hd0 c.m.hands q).fr∧(nth hd0 c.m.hands q).til≤3000∧0≤(nth hd0 c.m.hands q).til∧0≤(nth hd0 c.m.hands q).pc) (hpc:0≤c.pc∧c.pc≤3000) (hcl:h.caughtL c.pc c.m.hands<0) :
  Calls Tryz.prog 68 #[.pointer (some ⟨a.q,0,none⟩),mvV (im v)] w fun e w'=>e=.returned (.bool false)∧RX s X wx w0 g w' h qs a c:=by
 have HH:=hid H
 have HAL:Hid (Bl w (w.alloc (mvO (im v)))):=(Bl.refl w).alloc _
 have HHD:Hid (∀w',Bl w w'→Calls Tryz.prog 143 #[.pointer (some ⟨g.hb,0,none⟩),.slice a.K c.m.hands.length a.k,.int .i64 c.pc,mvV (im v)] w' fun e w2=>HdQ h c.pc c.m.hands w' e w2):=fun w' hb=>by
  have H':=H.bl hb
  obtain ⟨vc,vo,vx,vs,l,HA⟩:=H'
  exact handler_any g h v c.m.hands a.K a.k c.pc w' (HA.rh.rd F hf) (HA.ca.me.2.2.1.bl HA.rh.bl) hv h0 hn ht hok hpc
 obtain ⟨k0,k9,k10⟩:=H.c0910
 have HT:Hid (∀w',Bl (w.alloc (mvO (im v))) w'→(fun w'=>Hid (Bl (w.alloc (mvO (im v))) w')∧w'.cell? ⟨a.q,0,none⟩=some (.pointer (some ⟨g.hb,0,none⟩))∧w'.cell? ⟨a.q,9,none⟩=some (.slice a.K c.m.hands.length a.k)∧w'.cell? ⟨a.q,11,none⟩=some (.int .i64 c.pc)∧w'.cell? ⟨w.heap.size,0,none⟩=some (.int .i64 (im v).kind)∧w'.cell? ⟨w.heap.size,1,none⟩=some (.int .i64 (im v).n)) w'):=fun w' hb=>by
  have hb2:=HAL.out.trans hb
  exact ⟨hb,hb2.cell k0,hb2.cell k9,hb2.cell k10,hb.cell (cell_of_new rfl),hb.cell (cell_of_new rfl)⟩
 have HCL:=hid hcl
 have HZ:Hid (((w.alloc (mvO (im v))).alloc hdZ).heap[w.heap.size+1]?=some (.cells #[.int .i64 0,.int .i64 0,.int .i64 0,.int .i64 0] 98 (0,0))):=by
  have:=blk_new (w.alloc (mvO (im v))) #[.int .i64 0,.int .i64 0,.int .i64 0,.int .i64 0] 98
  rwa [World.size_alloc] at this
 have hq:=H.qlt
 clear H F hf hv h0 hn ht hok hpc hcl k0 k9 k10
 go_enter Tryz.func68,Tryz.ntmps68
 go_wp2
 refine wp_region_held_drew (S:=fun w'=>Hid (Bl (w.alloc (mvO (im v))) w')∧w'.cell? ⟨a.q,0,none⟩=some (.pointer (some ⟨g.hb,0,none⟩))∧w'.cell? ⟨a.q,9,none⟩=some (.slice a.K c.m.hands.length a.k)∧w'.cell? ⟨a.q,11,none⟩=some (.int .i64 c.pc)∧w'.cell? ⟨w.heap.size,0,none⟩=some (.int .i64 (im v).kind)∧w'.cell? ⟨w.heap.size,1,none⟩=some (.int .i64 (im v).n)) (by kernel_rfl) ?_ (fun hHeld0=>?_)
 ·exact HT.out _ (Bl.refl _).drew
 refine tk (i:=0) (d:=some 8) rfl rfl (by kernel_rfl) (fun _ _ _ h=>h) (by rfl) (by intro _ h;(try dsimp only at h);go_split_ands;go_simp<;>with_reducible rfl) hHeld0 ?_
 try simp only [aS,aN,aT,a0,a1]
 refine tk (i:=1) (d:=some 9) rfl rfl (by kernel_rfl) (fun _ _ _ h=>h) (by rfl) (by intro _ h;(try dsimp only at h);go_split_ands;go_simp<;>with_reducible rfl) hHeld0 ?_
 try simp only [aS,aN,aT,a0,a1]
 refine tk (i:=2) (d:=some 10) rfl rfl (by kernel_rfl) (fun _ _ _ h=>h) (by rfl) (by intro _ h;(try dsimp only at h);go_split_ands;go_simp<;>with_reducible rfl) hHeld0 ?_
 try simp only [aS,aN,aT,a0,a1]
 refine tk (i:=3) (d:=some 11) rfl rfl (by kernel_rfl) (fun _ _ _ h=>h) (by rfl) (by intro _ h;(try dsimp only at h);go_split_ands;go_simp<;>with_reducible rfl) hHeld0 ?_
 try simp only [aS,aN,aT,a0,a1]
 refine tk (i:=4) (d:=some 12) rfl rfl (by kernel_rfl) (fun _ _ _ h=>h) (by rfl) (by intro _ h;(try dsimp only at h);go_split_ands;go_simp<;>with_reducible rfl) hHeld0 ?_
 try simp only [aS,aN,aT,a0,a1]
 refine tk (i:=5) (d:=some 13) rfl rfl (by kernel_rfl) (fun _ _ _ h=>h) (by rfl) (by intro _ h;(try dsimp only at h);go_split_ands;go_simp<;>with_reducible rfl) hHeld0 ?_
 try simp only [aS,aN,aT,a0,a1]
 refine tk (i:=6) (d:=some 14) rfl rfl (by kernel_rfl) (fun _ _ _ h=>h) (by rfl) (by intro _ h;(try dsimp only at h);go_split_ands;go_simp<;>with_reducible rfl) hHeld0 ?_
 try simp only [aS,aN,aT,a0,a1]
 refine tk (i:=7) (d:=some 15) rfl rfl (by kernel_rfl) (fun _ _ _ h=>h) (by rfl) (by intro _ h;(try dsimp only at h);go_split_ands;go_simp<;>with_reducible rfl) hHeld0 ?_
 try simp only [aS,aN,aT,a0,a1]
 refine tk (i:=8) (d:=some 16) rfl rfl (by kernel_rfl) (fun _ _ _ h=>h) (by rfl) (by intro _ h;(try dsimp only at h);go_split_ands;go_simp<;>with_reducible rfl) hHeld0 ?_
 try simp only [aS,aN,aT,a0,a1]
 refine tk (i:=9) (d:=some 17) rfl rfl (by kernel_rfl) (fun _ _ _ h=>h) (by rfl) (by intro _ h;(try dsimp only at h);go_split_ands;go_simp<;>with_reducible rfl) hHeld0 ?_
 try simp only [aS,aN,aT,a0,a1]
 refine tk (i:=10) (d:=some 18) rfl rfl (by kernel_rfl) (fun _ _ _ h=>h) (by rfl) (by intro _ h;(try dsimp only at h);go_split_ands;go_simp<;>with_reducible rfl) hHeld0 ?_
 try simp only [aS,aN,aT,a0,a1]
 refine tk (i:=11) (d:=some 19) rfl rfl (by kernel_rfl) (fun _ _ _ h=>h) (by rfl) (by intro _ h;(try dsimp only at h);go_split_ands;go_simp<;>with_reducible rfl) hHeld0 ?_
 try simp only [aS,aN,aT,a0,a1]
 refine tk (i:=12) (d:=some 20) rfl rfl (by kernel_rfl) (fun _ _ _ h=>h) (by rfl) (by intro _ h;(try dsimp only at h);go_split_ands;go_simp<;>with_reducible rfl) hHeld0 ?_
 try simp only [aS,aN,aT,a0,a1]
 refine tk (i:=13) (d:=some 21) rfl rfl (by kernel_rfl) (fun _ _ _ h=>h) (by rfl) (by intro _ h;(try dsimp only at h);go_split_ands;go_simp<;>with_reducible rfl) hHeld0 ?_
 try simp only [aS,aN,aT,a0,a1]
 refine tk (i:=14) (d:=some 22) rfl rfl (by kernel_rfl) (fun _ _ _ h=>h) (by rfl) (by intro _ h;(try dsimp only at h);go_split_ands;go_simp<;>with_reducible rfl) hHeld0 ?_
 try simp only [aS,aN,aT,a0,a1]
 refine wpAnyH_ready (rs:=[15,19]) (by kernel_rfl) (by simp) ?_
 refine AllReadyH.cons rfl (fun K hK=>?_) (AllReadyH.cons rfl (fun K hK=>?_) (AllReadyH.nil))
 ·go_simp
  go_at_call 143
  refine (HHD.out _ (HAL.out.trans hHeld0.1.out)).mono ?_
  rintro e w1 ⟨b1,x,hx⟩
  have he:∃x:Hd,e=.returned (.tuple #[.agg (hdC x),.bool false]):=by
   rcases hx with ⟨z,-⟩|⟨-,z⟩
   ·exact absurd z (by have:=HCL.out;omega)
   ·exact ⟨x,z⟩
  obtain ⟨y,rfl⟩:=he
  clear hx
  unfold hdC
  have hb1:=hid (hHeld0.1.out.trans b1)
  clear b1
  go_wp2_with fail
  refine hK.out _ _ (HT.out _ hb1.out) (fun hHeld1=>?_)
  try simp only [aS,aN,aT,a0,a1]
  refine tk (i:=16) (d:=some 7) rfl rfl (by kernel_rfl) (fun _ _ _ h=>h) (by rfl) (by intro _ h;(try dsimp only at h);go_split_ands;go_simp<;>with_reducible rfl) hHeld1 ?_
  try simp only [aS,aN,aT,a0,a1]
  refine tk (i:=17) (d:=some 24) rfl rfl (by kernel_rfl) (fun _ _ _ h=>h) (by rfl) (by intro _ h;(try dsimp only at h);go_split_ands;go_simp<;>with_reducible rfl) hHeld1 ?_
  try simp only [aS,aN,aT,a0,a1]
  refine tk (i:=18) (d:=some 25) rfl rfl (by kernel_rfl) (fun _ _ _ h=>h) (by rfl) (by intro _ h;(try dsimp only at h);go_split_ands;go_simp<;>with_reducible rfl) hHeld1 ?_
  try simp only [aS,aN,aT,a0,a1]
  refine rd1 (i:=19) (by kernel_rfl) rfl fun K hK=>?_
  go_simp
  have hbV:=hid (hb1.out.alloc hdZ)
  have hq0:(w1.alloc hdZ).heap[w1.heap.size]?=some (.cells #[.int .i64 0,.int .i64 0,.int .i64 0,.int .i64 0] 98 (0,0)):=blk_new _ _ _
  have hB0:=hb1.out.size
  obtain ⟨B,hBB⟩:∃B,B=w1.heap.size:=⟨_,rfl⟩
  rw [←hBB] at hq0 hB0
  simp only [←hBB]
  have hB:=hid hB0
  clear hBB hB0
  replace hq0:=hid hq0
  generalize w1.alloc hdZ=V at *
  refine hK.out _ _ (HT.out _ hbV.out) (fun hHeld2=>?_)
  try simp only [aS,aN,aT,a0,a1]
  refine rd1 (i:=20) (by kernel_rfl) rfl fun K hK=>?_
  have y0:V.cell? ⟨B,0,none⟩=some (.int .i64 0):=(cell_blk hq0.out).trans rfl
  have y1:V.cell? ⟨B,1,none⟩=some (.int .i64 0):=(cell_blk hq0.out).trans rfl
  have y2:V.cell? ⟨B,2,none⟩=some (.int .i64 0):=(cell_blk hq0.out).trans rfl
  have y3:V.cell? ⟨B,3,none⟩=some (.int .i64 0):=(cell_blk hq0.out).trans rfl
  have fz:=free_blk hq0.out
  have HV0:=hid hHeld2
  clear hHeld2
  go_simp
  have hV4:=hid (bl_four hbV.out hB.out (.int .i64 y.fr) (.int .i64 y.til) (.int .i64 y.pc) (.int .i64 y.cls))
  have hq4:=hid (set_four hq0.out (.int .i64 y.fr) (.int .i64 y.til) (.int .i64 y.pc) (.int .i64 y.cls))
  clear y0 y1 y2 y3 fz
  refine hK.out _ _ (HT.out _ hV4.out) (fun hHeld3=>?_)
  try simp only [aS,aN,aT,a0,a1]
  refine tk (i:=21) (d:=some 6) rfl rfl (by kernel_rfl) (fun _ _ _ h=>h) (by rfl) (by intro _ h;(try dsimp only at h);go_split_ands;go_simp<;>with_reducible rfl) hHeld3 ?_
  try simp only [aS,aN,aT,a0,a1]
  refine wpAnyH_done (by kernel_rfl) ?_ _
  go_wp2
  go_ret
  exact ⟨rfl,HH.out.bl (HAL.out.trans hHeld3.1.out)⟩
 ·go_simp
  refine hK.out _ _ (HT.out _ (hHeld0.1.out.alloc _)) (fun hHeld4=>?_)
  try simp only [aS,aN,aT,a0,a1]
  refine rd1 (i:=15) (by kernel_rfl) rfl fun K hK=>?_
  go_simp
  go_at_call 143
  refine (HHD.out _ (HAL.out.trans hHeld4.1.out)).mono ?_
  rintro e V ⟨b1,x,hx⟩
  have he:∃x:Hd,e=.returned (.tuple #[.agg (hdC x),.bool false]):=by
   rcases hx with ⟨z,-⟩|⟨-,z⟩
   ·exact absurd z (by have:=HCL.out;omega)
   ·exact ⟨x,z⟩
  obtain ⟨y,rfl⟩:=he
  clear hx
  unfold hdC
  have hbV:=hid (hHeld4.1.out.trans b1)
  have hq0:V.heap[w.heap.size+1]?=some (.cells #[.int .i64 0,.int .i64 0,.int .i64 0,.int .i64 0] 98 (0,0)):=bl_blk b1 (show _=_ from HZ.out)
  obtain ⟨B,hBB⟩:∃B,B=w.heap.size+1:=⟨_,rfl⟩
  rw [←hBB] at hq0
  simp only [←hBB]
  have hB:Hid ((w.alloc (mvO (im v))).heap.size≤B):=by show (w.alloc (mvO (im v))).heap.size≤B;rw [hBB,World.size_alloc];exact Nat.le_refl _
  clear hBB b1
  replace hq0:=hid hq0
  go_wp2_with fail
  refine hK.out _ _ (HT.out _ hbV.out) (fun hHeld5=>?_)
  try simp only [aS,aN,aT,a0,a1]
  refine tk (i:=16) (d:=some 7) rfl rfl (by kernel_rfl) (fun _ _ _ h=>h) (by rfl) (by intro _ h;(try dsimp only at h);go_split_ands;go_simp<;>with_reducible rfl) hHeld5 ?_
  try simp only [aS,aN,aT,a0,a1]
  refine tk (i:=17) (d:=some 24) rfl rfl (by kernel_rfl) (fun _ _ _ h=>h) (by rfl) (by intro _ h;(try dsimp only at h);go_split_ands;go_simp<;>with_reducible rfl) hHeld5 ?_
  try simp only [aS,aN,aT,a0,a1]
  refine tk (i:=18) (d:=some 25) rfl rfl (by kernel_rfl) (fun _ _ _ h=>h) (by rfl) (by intro _ h;(try dsimp only at h);go_split_ands;go_simp<;>with_reducible rfl) hHeld5 ?_
  try simp only [aS,aN,aT,a0,a1]
  refine rd1 (i:=20) (by kernel_rfl) rfl fun K hK=>?_
  have y0:V.cell? ⟨B,0,none⟩=some (.int .i64 0):=(cell_blk hq0.out).trans rfl
  have y1:V.cell? ⟨B,1,none⟩=some (.int .i64 0):=(cell_blk hq0.out).trans rfl
  have y2:V.cell? ⟨B,2,none⟩=some (.int .i64 0):=(cell_blk hq0.out).trans rfl
  have y3:V.cell? ⟨B,3,none⟩=some (.int .i64 0):=(cell_blk hq0.out).trans rfl
  have fz:=free_blk hq0.out
  have HV0:=hid hHeld5
  clear hHeld5
  go_simp
  have hV4:=hid (bl_four hbV.out hB.out (.int .i64 y.fr) (.int .i64 y.til) (.int .i64 y.pc) (.int .i64 y.cls))
  have hq4:=hid (set_four hq0.out (.int .i64 y.fr) (.int .i64 y.til) (.int .i64 y.pc) (.int .i64 y.cls))
  clear y0 y1 y2 y3 fz
  refine hK.out _ _ (HT.out _ hV4.out) (fun hHeld6=>?_)
  try simp only [aS,aN,aT,a0,a1]
  refine tk (i:=21) (d:=some 6) rfl rfl (by kernel_rfl) (fun _ _ _ h=>h) (by rfl) (by intro _ h;(try dsimp only at h);go_split_ands;go_simp<;>with_reducible rfl) hHeld6 ?_
  try simp only [aS,aN,aT,a0,a1]
  refine wpAnyH_done (by kernel_rfl) ?_ _
  go_wp2
  go_ret
  exact ⟨rfl,HH.out.bl (HAL.out.trans hHeld6.1.out)⟩
theorem catch_yes (s:Nat) (X:Nat→Prop) (wx w0:World) (g:Mg) (h:Hp) (qs:List Qb) (a:Mc) (c:Cal) (v:Va) (w:World) (H:RX s X wx w0 g w h qs a c) (F:Fix w0 g h) (hf:h.objs.length≤100) (hv:v.kind=3) (h0:0≤v.n) (hn:v.n<h.objs.length) (ht:h.thrown=v.n) (hok:∀q,q<c.m.hands.length→0≤(nth hd0 c.m.hands q).fr∧(nth hd0 c.m.hands q).til≤3000∧0≤(nth hd0 c.m.hands q).til∧0≤(nth hd0 c.m.hands q).pc) (hpc:0≤c.pc∧c.pc≤3000) (hcl:0≤h.caughtL c.pc c.m.hands) :
  Calls Tryz.prog 68 #[.pointer (some ⟨a.q,0,none⟩),mvV (im v)] w fun e w'=>e=.returned (.bool true)∧RX s X wx w0 g w' h qs a { c with giv:=va0,cau:=v,pc:=h.caughtL c.pc c.m.hands }:=by
 have HH:=hid H
 have HAL:Hid (Bl w (w.alloc (mvO (im v)))):=(Bl.refl w).alloc _
 have HHD:Hid (∀w',Bl w w'→Calls Tryz.prog 143 #[.pointer (some ⟨g.hb,0,none⟩),.slice a.K c.m.hands.length a.k,.int .i64 c.pc,mvV (im v)] w' fun e w2=>HdQ h c.pc c.m.hands w' e w2):=fun w' hb=>by
  have H':=H.bl hb
  obtain ⟨vc,vo,vx,vs,l,HA⟩:=H'
  exact handler_any g h v c.m.hands a.K a.k c.pc w' (HA.rh.rd F hf) (HA.ca.me.2.2.1.bl HA.rh.bl) hv h0 hn ht hok hpc
 obtain ⟨k0,k9,k10⟩:=H.c0910
 have HT:Hid (∀w',Bl (w.alloc (mvO (im v))) w'→(fun w'=>Hid (Bl (w.alloc (mvO (im v))) w')∧w'.cell? ⟨a.q,0,none⟩=some (.pointer (some ⟨g.hb,0,none⟩))∧w'.cell? ⟨a.q,9,none⟩=some (.slice a.K c.m.hands.length a.k)∧w'.cell? ⟨a.q,11,none⟩=some (.int .i64 c.pc)∧w'.cell? ⟨w.heap.size,0,none⟩=some (.int .i64 (im v).kind)∧w'.cell? ⟨w.heap.size,1,none⟩=some (.int .i64 (im v).n)) w'):=fun w' hb=>by
  have hb2:=HAL.out.trans hb
  exact ⟨hb,hb2.cell k0,hb2.cell k9,hb2.cell k10,hb.cell (cell_of_new rfl),hb.cell (cell_of_new rfl)⟩
 have HCL:=hid hcl
 have HZ:Hid (((w.alloc (mvO (im v))).alloc hdZ).heap[w.heap.size+1]?=some (.cells #[.int .i64 0,.int .i64 0,.int .i64 0,.int .i64 0] 98 (0,0))):=by
  have:=blk_new (w.alloc (mvO (im v))) #[.int .i64 0,.int .i64 0,.int .i64 0,.int .i64 0] 98
  rwa [World.size_alloc] at this
 have hq:=H.qlt
 have HK3:Hid (0≤v.kind∧v.kind≤3):=by show 0≤v.kind∧v.kind≤3;omega
 clear H F hf hv h0 hn ht hok hpc hcl k0 k9 k10
 go_enter Tryz.func68,Tryz.ntmps68
 go_wp2
 refine wp_region_held_drew (S:=fun w'=>Hid (Bl (w.alloc (mvO (im v))) w')∧w'.cell? ⟨a.q,0,none⟩=some (.pointer (some ⟨g.hb,0,none⟩))∧w'.cell? ⟨a.q,9,none⟩=some (.slice a.K c.m.hands.length a.k)∧w'.cell? ⟨a.q,11,none⟩=some (.int .i64 c.pc)∧w'.cell? ⟨w.heap.size,0,none⟩=some (.int .i64 (im v).kind)∧w'.cell? ⟨w.heap.size,1,none⟩=some (.int .i64 (im v).n)) (by kernel_rfl) ?_ (fun hHeld0=>?_)
 ·exact HT.out _ (Bl.refl _).drew
 refine tk (i:=0) (d:=some 8) rfl rfl (by kernel_rfl) (fun _ _ _ h=>h) (by rfl) (by intro _ h;(try dsimp only at h);go_split_ands;go_simp<;>with_reducible rfl) hHeld0 ?_
 try simp only [aS,aN,aT,a0,a1]
 refine tk (i:=1) (d:=some 9) rfl rfl (by kernel_rfl) (fun _ _ _ h=>h) (by rfl) (by intro _ h;(try dsimp only at h);go_split_ands;go_simp<;>with_reducible rfl) hHeld0 ?_
 try simp only [aS,aN,aT,a0,a1]
 refine tk (i:=2) (d:=some 10) rfl rfl (by kernel_rfl) (fun _ _ _ h=>h) (by rfl) (by intro _ h;(try dsimp only at h);go_split_ands;go_simp<;>with_reducible rfl) hHeld0 ?_
 try simp only [aS,aN,aT,a0,a1]
 refine tk (i:=3) (d:=some 11) rfl rfl (by kernel_rfl) (fun _ _ _ h=>h) (by rfl) (by intro _ h;(try dsimp only at h);go_split_ands;go_simp<;>with_reducible rfl) hHeld0 ?_
 try simp only [aS,aN,aT,a0,a1]
 refine tk (i:=4) (d:=some 12) rfl rfl (by kernel_rfl) (fun _ _ _ h=>h) (by rfl) (by intro _ h;(try dsimp only at h);go_split_ands;go_simp<;>with_reducible rfl) hHeld0 ?_
 try simp only [aS,aN,aT,a0,a1]
 refine tk (i:=5) (d:=some 13) rfl rfl (by kernel_rfl) (fun _ _ _ h=>h) (by rfl) (by intro _ h;(try dsimp only at h);go_split_ands;go_simp<;>with_reducible rfl) hHeld0 ?_
 try simp only [aS,aN,aT,a0,a1]
 refine tk (i:=6) (d:=some 14) rfl rfl (by kernel_rfl) (fun _ _ _ h=>h) (by rfl) (by intro _ h;(try dsimp only at h);go_split_ands;go_simp<;>with_reducible rfl) hHeld0 ?_
 try simp only [aS,aN,aT,a0,a1]
 refine tk (i:=7) (d:=some 15) rfl rfl (by kernel_rfl) (fun _ _ _ h=>h) (by rfl) (by intro _ h;(try dsimp only at h);go_split_ands;go_simp<;>with_reducible rfl) hHeld0 ?_
 try simp only [aS,aN,aT,a0,a1]
 refine tk (i:=8) (d:=some 16) rfl rfl (by kernel_rfl) (fun _ _ _ h=>h) (by rfl) (by intro _ h;(try dsimp only at h);go_split_ands;go_simp<;>with_reducible rfl) hHeld0 ?_
 try simp only [aS,aN,aT,a0,a1]
 refine tk (i:=9) (d:=some 17) rfl rfl (by kernel_rfl) (fun _ _ _ h=>h) (by rfl) (by intro _ h;(try dsimp only at h);go_split_ands;go_simp<;>with_reducible rfl) hHeld0 ?_
 try simp only [aS,aN,aT,a0,a1]
 refine tk (i:=10) (d:=some 18) rfl rfl (by kernel_rfl) (fun _ _ _ h=>h) (by rfl) (by intro _ h;(try dsimp only at h);go_split_ands;go_simp<;>with_reducible rfl) hHeld0 ?_
 try simp only [aS,aN,aT,a0,a1]
 refine tk (i:=11) (d:=some 19) rfl rfl (by kernel_rfl) (fun _ _ _ h=>h) (by rfl) (by intro _ h;(try dsimp only at h);go_split_ands;go_simp<;>with_reducible rfl) hHeld0 ?_
 try simp only [aS,aN,aT,a0,a1]
 refine tk (i:=12) (d:=some 20) rfl rfl (by kernel_rfl) (fun _ _ _ h=>h) (by rfl) (by intro _ h;(try dsimp only at h);go_split_ands;go_simp<;>with_reducible rfl) hHeld0 ?_
 try simp only [aS,aN,aT,a0,a1]
 refine tk (i:=13) (d:=some 21) rfl rfl (by kernel_rfl) (fun _ _ _ h=>h) (by rfl) (by intro _ h;(try dsimp only at h);go_split_ands;go_simp<;>with_reducible rfl) hHeld0 ?_
 try simp only [aS,aN,aT,a0,a1]
 refine tk (i:=14) (d:=some 22) rfl rfl (by kernel_rfl) (fun _ _ _ h=>h) (by rfl) (by intro _ h;(try dsimp only at h);go_split_ands;go_simp<;>with_reducible rfl) hHeld0 ?_
 try simp only [aS,aN,aT,a0,a1]
 refine wpAnyH_ready (rs:=[15,19]) (by kernel_rfl) (by simp) ?_
 refine AllReadyH.cons rfl (fun K hK=>?_) (AllReadyH.cons rfl (fun K hK=>?_) (AllReadyH.nil))
 ·go_simp
  go_at_call 143
  refine (HHD.out _ (HAL.out.trans hHeld0.1.out)).mono ?_
  rintro e w1 ⟨b1,x,hx⟩
  have he:∃x:Hd,x.pc=h.caughtL c.pc c.m.hands∧e=.returned (.tuple #[.agg (hdC x),.bool true]):=by
   rcases hx with ⟨-,z,z2⟩|⟨z,-⟩
   ·exact ⟨x,z,z2⟩
   ·exact absurd z (by have:=HCL.out;omega)
  obtain ⟨y,hy,rfl⟩:=he
  replace hy:=hid hy
  clear hx
  unfold hdC
  have hb1:=hid (hHeld0.1.out.trans b1)
  clear b1
  go_wp2_with fail
  refine hK.out _ _ (HT.out _ hb1.out) (fun hHeld1=>?_)
  try simp only [aS,aN,aT,a0,a1]
  refine tk (i:=16) (d:=some 7) rfl rfl (by kernel_rfl) (fun _ _ _ h=>h) (by rfl) (by intro _ h;(try dsimp only at h);go_split_ands;go_simp<;>with_reducible rfl) hHeld1 ?_
  try simp only [aS,aN,aT,a0,a1]
  refine tk (i:=17) (d:=some 24) rfl rfl (by kernel_rfl) (fun _ _ _ h=>h) (by rfl) (by intro _ h;(try dsimp only at h);go_split_ands;go_simp<;>with_reducible rfl) hHeld1 ?_
  try simp only [aS,aN,aT,a0,a1]
  refine tk (i:=18) (d:=some 25) rfl rfl (by kernel_rfl) (fun _ _ _ h=>h) (by rfl) (by intro _ h;(try dsimp only at h);go_split_ands;go_simp<;>with_reducible rfl) hHeld1 ?_
  try simp only [aS,aN,aT,a0,a1]
  refine rd1 (i:=19) (by kernel_rfl) rfl fun K hK=>?_
  go_simp
  have hbV:=hid (hb1.out.alloc hdZ)
  have hq0:(w1.alloc hdZ).heap[w1.heap.size]?=some (.cells #[.int .i64 0,.int .i64 0,.int .i64 0,.int .i64 0] 98 (0,0)):=blk_new _ _ _
  have hB0:=hb1.out.size
  obtain ⟨B,hBB⟩:∃B,B=w1.heap.size:=⟨_,rfl⟩
  rw [←hBB] at hq0 hB0
  simp only [←hBB]
  have hB:=hid hB0
  clear hBB hB0
  replace hq0:=hid hq0
  generalize w1.alloc hdZ=V at *
  refine hK.out _ _ (HT.out _ hbV.out) (fun hHeld2=>?_)
  try simp only [aS,aN,aT,a0,a1]
  refine rd1 (i:=20) (by kernel_rfl) rfl fun K hK=>?_
  have y0:V.cell? ⟨B,0,none⟩=some (.int .i64 0):=(cell_blk hq0.out).trans rfl
  have y1:V.cell? ⟨B,1,none⟩=some (.int .i64 0):=(cell_blk hq0.out).trans rfl
  have y2:V.cell? ⟨B,2,none⟩=some (.int .i64 0):=(cell_blk hq0.out).trans rfl
  have y3:V.cell? ⟨B,3,none⟩=some (.int .i64 0):=(cell_blk hq0.out).trans rfl
  have fz:=free_blk hq0.out
  have HV0:=hid hHeld2
  clear hHeld2
  go_simp
  have hV4:=hid (bl_four hbV.out hB.out (.int .i64 y.fr) (.int .i64 y.til) (.int .i64 y.pc) (.int .i64 y.cls))
  have hq4:=hid (set_four hq0.out (.int .i64 y.fr) (.int .i64 y.til) (.int .i64 y.pc) (.int .i64 y.cls))
  clear y0 y1 y2 y3 fz
  refine hK.out _ _ (HT.out _ hV4.out) (fun hHeld3=>?_)
  try simp only [aS,aN,aT,a0,a1]
  refine tk (i:=21) (d:=some 6) rfl rfl (by kernel_rfl) (fun _ _ _ h=>h) (by rfl) (by intro _ h;(try dsimp only at h);go_split_ands;go_simp<;>with_reducible rfl) hHeld3 ?_
  try simp only [aS,aN,aT,a0,a1]
  refine wpAnyH_done (by kernel_rfl) ?_ _
  obtain ⟨W4,hW4⟩:∃W4,W4=(((V.setCell ⟨B,0,none⟩ (.int .i64 y.fr)).setCell ⟨B,1,none⟩ (.int .i64 y.til)).setCell ⟨B,2,none⟩ (.int .i64 y.pc)).setCell ⟨B,3,none⟩ (.int .i64 y.cls):=⟨_,rfl⟩
  have hbw:Bl w W4:=by rw [hW4];exact HAL.out.trans hV4.out
  have hq4':W4.heap[B]?=some (.cells #[.int .i64 y.fr,.int .i64 y.til,.int .i64 y.pc,.int .i64 y.cls] 98 (0,0)):=by rw [hW4];exact hq4.out
  have hv4:W4.heap[w.heap.size]?=some (.cells #[.int .i64 (im v).kind,.int .i64 (im v).n] 115 (0,0)):=bl_blk (by rw [hW4];exact hV4.out) (blk_new w _ _)
  have hBw:Hid (w.heap.size≤B):=Nat.le_trans HAL.out.size hB.out
  rw [←hW4]
  clear hW4 hHeld3 hV4 hq4 HV0 hbV hq0
  clear V
  have HY:=HH.out.bl hbw
  obtain ⟨k11,fz,k12,k13,k14,k15⟩:=HY.cp
  have e0:=c0_of hv4
  have e1:=c1_of hv4
  have p2:W4.cell? ⟨B,2,none⟩=some (.int .i64 y.pc):=(cell_blk hq4').trans rfl
  have HS6:=hid (HY.setP y.pc va0 v (by decide) HK3.out)
  have hneB:B≠a.q:=by have:=hBw.out;omega
  have hnev:w.heap.size≠a.q:=by omega
  clear HY hq4' hv4 hbw
  go_wp2
  go_ret
  have hs6:=HS6.out
  rw [hy.out] at hs6 ⊢
  exact ⟨rfl,hs6⟩
 ·go_simp
  refine hK.out _ _ (HT.out _ (hHeld0.1.out.alloc _)) (fun hHeld4=>?_)
  try simp only [aS,aN,aT,a0,a1]
  refine rd1 (i:=15) (by kernel_rfl) rfl fun K hK=>?_
  go_simp
  go_at_call 143
  refine (HHD.out _ (HAL.out.trans hHeld4.1.out)).mono ?_
  rintro e V ⟨b1,x,hx⟩
  have he:∃x:Hd,x.pc=h.caughtL c.pc c.m.hands∧e=.returned (.tuple #[.agg (hdC x),.bool true]):=by
   rcases hx with ⟨-,z,z2⟩|⟨z,-⟩
   ·exact ⟨x,z,z2⟩
   ·exact absurd z (by have:=HCL.out;omega)
  obtain ⟨y,hy,rfl⟩:=he
  replace hy:=hid hy
  clear hx
  unfold hdC
  have hbV:=hid (hHeld4.1.out.trans b1)
  have hq0:V.heap[w.heap.size+1]?=some (.cells #[.int .i64 0,.int .i64 0,.int .i64 0,.int .i64 0] 98 (0,0)):=bl_blk b1 (show _=_ from HZ.out)
  obtain ⟨B,hBB⟩:∃B,B=w.heap.size+1:=⟨_,rfl⟩
  rw [←hBB] at hq0
  simp only [←hBB]
  have hB:Hid ((w.alloc (mvO (im v))).heap.size≤B):=by show (w.alloc (mvO (im v))).heap.size≤B;rw [hBB,World.size_alloc];exact Nat.le_refl _
  clear hBB b1
  replace hq0:=hid hq0
  go_wp2_with fail
  refine hK.out _ _ (HT.out _ hbV.out) (fun hHeld5=>?_)
  try simp only [aS,aN,aT,a0,a1]
  refine tk (i:=16) (d:=some 7) rfl rfl (by kernel_rfl) (fun _ _ _ h=>h) (by rfl) (by intro _ h;(try dsimp only at h);go_split_ands;go_simp<;>with_reducible rfl) hHeld5 ?_
  try simp only [aS,aN,aT,a0,a1]
  refine tk (i:=17) (d:=some 24) rfl rfl (by kernel_rfl) (fun _ _ _ h=>h) (by rfl) (by intro _ h;(try dsimp only at h);go_split_ands;go_simp<;>with_reducible rfl) hHeld5 ?_
  try simp only [aS,aN,aT,a0,a1]
  refine tk (i:=18) (d:=some 25) rfl rfl (by kernel_rfl) (fun _ _ _ h=>h) (by rfl) (by intro _ h;(try dsimp only at h);go_split_ands;go_simp<;>with_reducible rfl) hHeld5 ?_
  try simp only [aS,aN,aT,a0,a1]
  refine rd1 (i:=20) (by kernel_rfl) rfl fun K hK=>?_
  have y0:V.cell? ⟨B,0,none⟩=some (.int .i64 0):=(cell_blk hq0.out).trans rfl
  have y1:V.cell? ⟨B,1,none⟩=some (.int .i64 0):=(cell_blk hq0.out).trans rfl
  have y2:V.cell? ⟨B,2,none⟩=some (.int .i64 0):=(cell_blk hq0.out).trans rfl
  have y3:V.cell? ⟨B,3,none⟩=some (.int .i64 0):=(cell_blk hq0.out).trans rfl
  have fz:=free_blk hq0.out
  have HV0:=hid hHeld5
  clear hHeld5
  go_simp
  have hV4:=hid (bl_four hbV.out hB.out (.int .i64 y.fr) (.int .i64 y.til) (.int .i64 y.pc) (.int .i64 y.cls))
  have hq4:=hid (set_four hq0.out (.int .i64 y.fr) (.int .i64 y.til) (.int .i64 y.pc) (.int .i64 y.cls))
  clear y0 y1 y2 y3 fz
  refine hK.out _ _ (HT.out _ hV4.out) (fun hHeld6=>?_)
  try simp only [aS,aN,aT,a0,a1]
  refine tk (i:=21) (d:=some 6) rfl rfl (by kernel_rfl) (fun _ _ _ h=>h) (by rfl) (by intro _ h;(try dsimp only at h);go_split_ands;go_simp<;>with_reducible rfl) hHeld6 ?_
  try simp only [aS,aN,aT,a0,a1]
  refine wpAnyH_done (by kernel_rfl) ?_ _
  obtain ⟨W4,hW4⟩:∃W4,W4=(((V.setCell ⟨B,0,none⟩ (.int .i64 y.fr)).setCell ⟨B,1,none⟩ (.int .i64 y.til)).setCell ⟨B,2,none⟩ (.int .i64 y.pc)).setCell ⟨B,3,none⟩ (.int .i64 y.cls):=⟨_,rfl⟩
  have hbw:Bl w W4:=by rw [hW4];exact HAL.out.trans hV4.out
  have hq4':W4.heap[B]?=some (.cells #[.int .i64 y.fr,.int .i64 y.til,.int .i64 y.pc,.int .i64 y.cls] 98 (0,0)):=by rw [hW4];exact hq4.out
  have hv4:W4.heap[w.heap.size]?=some (.cells #[.int .i64 (im v).kind,.int .i64 (im v).n] 115 (0,0)):=bl_blk (by rw [hW4];exact hV4.out) (blk_new w _ _)
  have hBw:Hid (w.heap.size≤B):=Nat.le_trans HAL.out.size hB.out
  rw [←hW4]
  clear hW4 hHeld6 hV4 hq4 HV0 hbV hq0
  clear V
  have HY:=HH.out.bl hbw
  obtain ⟨k11,fz,k12,k13,k14,k15⟩:=HY.cp
  have e0:=c0_of hv4
  have e1:=c1_of hv4
  have p2:W4.cell? ⟨B,2,none⟩=some (.int .i64 y.pc):=(cell_blk hq4').trans rfl
  have HS6:=hid (HY.setP y.pc va0 v (by decide) HK3.out)
  have hneB:B≠a.q:=by have:=hBw.out;omega
  have hnev:w.heap.size≠a.q:=by omega
  clear HY hq4' hv4 hbw
  go_wp2
  go_ret
  have hs6:=HS6.out
  rw [hy.out] at hs6 ⊢
  exact ⟨rfl,hs6⟩
theorem own_lastC {w:World} {base:Nat} {e:TypeId} {vs:Value} {l:List Qb} {v:Qb} (h:w.ownsRow base e 3 vs (l.length+1) (callCells (l++[v]))):∃gb cap,vs=.slice (some ⟨gb,0,none⟩) (l.length+1) cap∧l.length+1≤cap∧cap≤maxLen∧gb<w.heap.size
  ∧ w.cell? ⟨gb,l.length*3,none⟩=some (.func (.func 67) #[.pointer (some ⟨v.q,0,none⟩)] #[])∧w.cell? ⟨gb,l.length*3+1,none⟩=some (.func (.func 66) #[] #[.pointer (some ⟨v.bx,0,none⟩)])∧w.cell? ⟨gb,l.length*3+2,none⟩=some (.func (.func 68) #[.pointer (some ⟨v.q,0,none⟩)] #[]):=by
 rcases h.2 with ⟨_,h0⟩|⟨gb,cap,cur,rfl,hg,hh,hn,hcap,hsz,htake⟩
 ·omega
 ·have hl:=callCells_length l
  have hx:∀i,i<3→(callCells (l++[v]))[l.length*3+i]?=(funs v)[i]?:=by
   intro i hi
   rw [callCells_append,List.getElem?_append_right (by omega),hl]
   simp [callCells]
  have hy:∀i,i<3→w.cell? ⟨gb,l.length*3+i,none⟩=(funs v)[i]?:=by
   intro i hi
   rw [←hx i hi,←htake,List.getElem?_take,if_pos (by omega),cell_blk hh]
   simp
  exact ⟨gb,cap,rfl,hn,hcap,lt_some hh,hy 0 (by decide),hy 1 (by decide),hy 2 (by decide)⟩
theorem own_popC {w:World} {base:Nat} {e:TypeId} {gb cap:Nat} {l:List Qb} {v:Qb} (h:w.ownsRow base e 3 (.slice (some ⟨gb,0,none⟩) (l.length+1) cap) (l.length+1) (callCells (l++[v]))) :
  w.ownsRow base e 3 (.slice (some ⟨gb,0,none⟩) l.length cap) l.length (callCells l):=by
 obtain ⟨h1,h2⟩:=h
 rcases h2 with ⟨h0,_⟩|⟨g',cap',cur,hv,hg,hh,hn,hcap,hsz,htake⟩
 ·cases h0
 ·cases hv
  refine ⟨callCells_length l,.inr ⟨gb,cap,cur,rfl,hg,hh,by omega,hcap,hsz,?_⟩⟩
  have h3:(cur.toList.take ((l.length+1)*3)).take (l.length*3)=(callCells (l++[v])).take (l.length*3):=by rw [htake]
  rw [List.take_take,Nat.min_eq_left (by omega)] at h3
  rw [h3,callCells_append,←callCells_length l]
  simp
theorem HX.setc {s:Nat} {X:Nat→Prop} {wx w0 w:World} {g:Mg} {h:Hp} {qs qs':List Qb} {vc vo vx vc':Value} (R:RH s w0 g w h qs vc vo vx) (hf:∀b,X b→FarR g vc vo vx b) (hK:KeptX X wx w)
  (ho:w.ownsRow w0.heap.size 107 3 vc' qs'.length (callCells qs')) (hb:vc'.ownBlock=vc.ownBlock):HX s X wx w0 g (w.setCell ⟨g.r,3,none⟩ vc') h qs':=by
 have hg:=grown_set (w:=w) g.r 3 vc'
 obtain ⟨n,D,F⟩:=R.fld
 have hrm:g.r≠g.mp:=map_ne R.run F.own
 have hne:∀v:Value,v.ownBlock≠some g.r→(v.ownBlock=none∨v.ownBlock≠some g.r):=fun v hv=>Or.inr hv
 refine ⟨vc',vo,vx,⟨R.ownr,R.ownh,R.ownm,Below.grown R.bl hg R.bl.size (fun k hk=>by cases hk;exact R.ownr),?_,?_,?_,?_,?_,n,D,?_,F.few,F.hit,F.miss,F.new,F.ks,F.kd⟩,fun b hx=>?_,hK.kept hg (fun b e hx=>?_)⟩
 ·rw [block_set R.run];rfl
 ·exact grown_blk hg R.hp (fun e=>blk_ne R.run R.hp (by decide) (Option.some.inj e))
 ·exact R.out.kept hg (Or.inr (own_far R.out R.run (by decide)))
 ·exact R.obs.kept hg (Or.inr (own_far R.obs R.run (by decide)))
 ·exact ho.kept hg (Or.inr (own_far ho R.run (by decide)))
 ·exact F.own.kept hg (fun e=>hrm (Option.some.inj e.symm))
 ·have:=hf b hx
  exact ⟨this.r,this.h,this.m,by rw [hb];exact this.c,this.o,this.x⟩
 ·cases e;exact (hf g.r hx).r rfl
theorem drop_any (s:Nat) (X:Nat→Prop) (wx w0:World) (g:Mg) (h:Hp) (qs:List Qb) (q:Qb) (w:World) (H:HX s X wx w0 g w h (qs++[q])) :
  Calls Tryz.prog 202 #[.pointer (some ⟨g.r,0,none⟩)] w fun e w'=>e=.returned (.tuple #[])∧HX s X wx w0 g w' h qs:=by
 obtain ⟨vc,vo,vx,R,hf,hK⟩:=H
 have hk:=R.calls
 have e1:(qs++[q]).length=qs.length+1:=by simp
 rw [e1] at hk
 obtain ⟨gb,cap,rfl,h1,h2,h3,h4,h5,h6⟩:=own_lastC hk
 have HP:=hid (own_popC hk)
 have hr:w.cell? ⟨g.r,3,none⟩=some (.slice (some ⟨gb,0,none⟩) (qs.length+1) cap):=by rw [cell_blk R.run];rfl
 have fz:∀i,w.frozen? ⟨g.r,i,none⟩=false:=free_blk R.run
 have HE:Hid (HX s X wx w0 g (w.setCell ⟨g.r,3,none⟩ (.slice (some ⟨gb,0,none⟩) qs.length cap)) h qs):=HX.setc R hf hK HP.out rfl
 clear hk R hf hK h4 h5 h6 e1
 unfold maxLen at h2
 have hn1:((qs.length:Int)+1-1)=(qs.length:Int):=by omega
 have hw:IntKind.i64.wrap (qs.length:Int)=(qs.length:Int):=by rw [IntKind.wrap_i64];omega
 go_enter Tryz.func202,Tryz.ntmps202
 go_wp2
 go_region
 all_goals go_wp2
 all_goals go_end0
 all_goals exact ⟨rfl,HE.out.bl (Bl.refl _).drew⟩
theorem info_call:(Tryz.prog.info? 107).map (·.size)=some 3:=by kernel_rfl
theorem top_any (s:Nat) (X:Nat→Prop) (wx w0:World) (g:Mg) (h:Hp) (qs:List Qb) (q:Qb) (w:World) (H:HX s X wx w0 g w h (qs++[q])) :
  Calls Tryz.prog 203 #[.pointer (some ⟨g.r,0,none⟩)] w fun e w'=>e=.returned (.agg (funs q).toArray)∧Bl w w':=by
 obtain ⟨vc,vo,vx,R,hf,hK⟩:=H
 have hk:=R.calls
 have e1:(qs++[q]).length=qs.length+1:=by simp
 rw [e1] at hk
 obtain ⟨gb,cap,rfl,h1,h2,h3,h4,h5,h6⟩:=own_lastC hk
 have hr:w.cell? ⟨g.r,3,none⟩=some (.slice (some ⟨gb,0,none⟩) (qs.length+1) cap):=by rw [cell_blk R.run];rfl
 have hlr:=lt_some R.run
 clear hk R hf hK e1
 unfold maxLen at h2
 have hn1:((qs.length:Int)+1-1)=(qs.length:Int):=by omega
 have hw:IntKind.i64.wrap (qs.length:Int)=(qs.length:Int):=by rw [IntKind.wrap_i64];omega
 go_enter Tryz.func203,Tryz.ntmps203
 go_wp2
 have hVb:Hid (Bl w (w.alloc (.cells #[.nilFunc,.nilFunc,.nilFunc] 107))):=(Bl.refl w).alloc _
 have q0:=blk_new w #[.nilFunc,.nilFunc,.nilFunc] 107
 have k3:=hVb.out.cell hr
 have k4:=hVb.out.cell h4
 have k5:=hVb.out.cell h5
 have k6:=hVb.out.cell h6
 obtain ⟨B,hBB⟩:∃B,B=w.heap.size:=⟨_,rfl⟩
 rw [←hBB] at q0
 simp only [←hBB]
 have hB:Hid (w.heap.size≤B):=Nat.le_of_eq hBB.symm
 have hne:B≠g.r:=by omega
 have hne2:B≠gb:=by omega
 have hlt:(qs.length:Int)<(qs.length:Int)+1:=by omega
 have m3:=hid hr
 have m4:=hid h4
 have m5:=hid h5
 have m6:=hid h6
 clear hBB
 generalize w.alloc (.cells #[.nilFunc,.nilFunc,.nilFunc] 107)=V at *
 have v0:V.cell? ⟨B,0,none⟩=some .nilFunc:=by rw [cell_blk q0];rfl
 have v1:V.cell? ⟨B,1,none⟩=some .nilFunc:=by rw [cell_blk q0];rfl
 have v2:V.cell? ⟨B,2,none⟩=some .nilFunc:=by rw [cell_blk q0];rfl
 have fz:=free_blk q0
 replace q0:=hid q0
 clear hr h4 h5 h6
 refine wp_region_held_drew (S:=fun w'=>w'.cell? ⟨g.r,3,none⟩=some (.slice (some ⟨gb,0,none⟩) (qs.length+1) cap)∧w'.cell? ⟨gb,qs.length*3,none⟩=some (.func (.func 67) #[.pointer (some ⟨q.q,0,none⟩)] #[])∧w'.cell? ⟨gb,qs.length*3+1,none⟩=some (.func (.func 66) #[] #[.pointer (some ⟨q.bx,0,none⟩)])∧w'.cell? ⟨gb,qs.length*3+2,none⟩=some (.func (.func 68) #[.pointer (some ⟨q.q,0,none⟩)] #[])) (by kernel_rfl) ?_ (fun hHeld0=>?_)
 ·exact ⟨k3,k4,k5,k6⟩
 refine tk (i:=0) (d:=some 3) rfl rfl (by kernel_rfl) (fun _ _ _ h=>h) (by rfl) (by intro _ h;(try dsimp only at h);go_split_ands;go_simp<;>with_reducible rfl) hHeld0 ?_
 try simp only [aS,aN,aT,a0,a1]
 refine tk (i:=1) (d:=some 4) rfl rfl (by kernel_rfl) (fun _ _ _ h=>h) (by rfl) (by intro _ h;(try dsimp only at h);go_split_ands;go_simp<;>with_reducible rfl) hHeld0 ?_
 try simp only [aS,aN,aT,a0,a1]
 refine tk (i:=2) (d:=some 5) rfl rfl (by kernel_rfl) (fun _ _ _ h=>h) (by rfl) (by intro _ h;(try dsimp only at h);go_split_ands;go_simp<;>with_reducible rfl) hHeld0 ?_
 try simp only [aS,aN,aT,a0,a1]
 refine tk (i:=3) (d:=some 6) rfl rfl (by kernel_rfl) (fun _ _ _ h=>h) (by rfl) (by intro _ h;(try dsimp only at h);go_split_ands;go_simp<;>with_reducible rfl) hHeld0 ?_
 try simp only [aS,aN,aT,a0,a1]
 refine tk (i:=4) (d:=some 7) rfl rfl (by kernel_rfl) (fun _ _ _ h=>h) (by rfl) (by intro _ h;(try dsimp only at h);go_split_ands;go_simp<;>with_reducible rfl) hHeld0 ?_
 try simp only [aS,aN,aT,a0,a1]
 refine tk (i:=5) (d:=some 8) rfl rfl (by kernel_rfl) (fun _ _ _ h=>h) (by rfl) (by intro _ h;(try dsimp only at h);go_split_ands;go_simp<;>with_reducible rfl) hHeld0 ?_
 try simp only [aS,aN,aT,a0,a1]
 refine tk (i:=6) (d:=some 9) rfl rfl (by kernel_rfl) (fun _ _ _ h=>h) (by rfl) (by intro _ h;(try dsimp only at h);go_split_ands;go_simp<;>with_reducible rfl) hHeld0 ?_
 try simp only [aS,aN,aT,a0,a1]
 refine tk (i:=7) (d:=some 10) rfl rfl (by kernel_rfl) (fun _ _ _ h=>h) (by rfl) (by intro _ h;(try dsimp only at h);go_split_ands;go_simp<;>with_reducible rfl) hHeld0 ?_
 try simp only [aS,aN,aT,a0,a1]
 refine tk (i:=8) (d:=some 11) rfl rfl (by kernel_rfl) (fun _ _ _ h=>h) (by rfl) (by intro _ h;(try dsimp only at h);go_split_ands;go_simp<;>with_reducible rfl) hHeld0 ?_
 try simp only [aS,aN,aT,a0,a1]
 refine tk (i:=9) (d:=some 12) rfl rfl (by kernel_rfl) (fun _ _ _ h=>h) (by rfl) (by intro _ h;(try dsimp only at h);go_split_ands;go_simp<;>with_reducible rfl) hHeld0 ?_
 try simp only [aS,aN,aT,a0,a1]
 refine tk (i:=10) (d:=some 13) rfl rfl (by kernel_rfl) (fun _ _ _ h=>h) (by rfl) (by intro _ h;(try dsimp only at h);go_split_ands;go_simp<;>with_reducible rfl) hHeld0 ?_
 try simp only [aS,aN,aT,a0,a1]
 refine tk (i:=11) (d:=some 14) rfl rfl (by kernel_rfl) (fun _ _ _ h=>h) (by rfl) (by intro _ h;(try dsimp only at h);go_split_ands;go_simp<;>with_reducible rfl) hHeld0 ?_
 try simp only [aS,aN,aT,a0,a1]
 refine rd1 (i:=12) (by kernel_rfl) rfl fun K hK=>?_
 go_wp2_with fail
 have hV3:Bl w (((V.setCell ⟨B,0,none⟩ (.func (.func 67) #[.pointer (some ⟨q.q,0,none⟩)] #[])).setCell ⟨B,1,none⟩ (.func (.func 66) #[] #[.pointer (some ⟨q.bx,0,none⟩)])).setCell ⟨B,2,none⟩ (.func (.func 68) #[.pointer (some ⟨q.q,0,none⟩)] #[])):=((hVb.out.setCell (p:=⟨B,0,none⟩) hB.out _).setCell (p:=⟨B,1,none⟩) hB.out _).setCell (p:=⟨B,2,none⟩) hB.out _
 have q3:(((V.setCell ⟨B,0,none⟩ (.func (.func 67) #[.pointer (some ⟨q.q,0,none⟩)] #[])).setCell ⟨B,1,none⟩ (.func (.func 66) #[] #[.pointer (some ⟨q.bx,0,none⟩)])).setCell ⟨B,2,none⟩ (.func (.func 68) #[.pointer (some ⟨q.q,0,none⟩)] #[])).heap[B]?=some (.cells (funs q).toArray 107 (0,0)):=by rw [block_set (block_set (block_set q0.out _) _) _];rfl
 refine hK.out _ _ ⟨hV3.cell m3.out,hV3.cell m4.out,hV3.cell m5.out,hV3.cell m6.out⟩ (fun hHeld1=>?_)
 try simp only [aS,aN,aT,a0,a1]
 refine wpAnyH_done (by kernel_rfl) ?_ _
 replace hV3:=hid hV3
 replace q3:=hid q3
 go_wp2
 refine bodyPost_ret (results_cell_row rfl _ _ B _ _ _ _ rfl q3.out Tryz.underlying107 rfl info_call) rfl ?_
 exact ⟨rfl,hV3.out.drew⟩
end Go.Proofs.YtgiiapenmjollabGreat
