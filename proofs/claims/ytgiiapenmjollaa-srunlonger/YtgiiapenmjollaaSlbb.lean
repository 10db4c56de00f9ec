import Derived.Test.YtgiiapenmjollaaSlba
namespace Go.Proofs.Ytgiiapenmjollaa
set_option linter.all false
set_option maxHeartbeats 40000000
open Go.RowKit
theorem RX.c0910 {s:Nat} {X:Nat→Prop} {wx w0 w:World} {g:Mg} {h:Hp} {qs:List Nat} {a:Mc} {c:Cal} (H:RX s X wx w0 g w h qs a c):w.cell? ⟨a.q,0,none⟩=some (.pointer (some ⟨g.hb,0,none⟩))∧w.cell? ⟨a.q,9,none⟩=some (.slice a.K c.m.hands.length a.k)∧w.cell? ⟨a.q,10,none⟩=some (.int .i64 c.pc):=by
 obtain ⟨vc,vo,vx,vs,l,H⟩:=H
 refine ⟨?_,?_,?_⟩<;>(rw [cell_blk H.ca.blk];rfl)
theorem RXY.clrs {s:Nat} {X Y:Nat→Prop} {wx w0 w:World} {g:Mg} {h:Hp} {qs:List Nat} {a:Mc} {c:Cal} (H:RXY s X Y wx w0 g w h qs a c):RXY s X Y wx w0 g (w.setCell ⟨a.q,12,none⟩ (.slice none 0 0)) h qs a { c with stk:=[] }:=by
 obtain ⟨vc,vo,vx,vs,l,H,F⟩:=H
 refine ⟨vc,vo,vx,.slice none 0 0,l,H.setq (c':={ c with stk:=[] }) rfl rfl rfl ⟨rfl,Or.inl ⟨rfl,rfl⟩⟩ (fun b e=>by simp [Value.ownBlock] at e) (fun v hv=>by cases hv),fun b hy=>?_⟩
 obtain ⟨h1,h2,h3,h4,h5⟩:=F b hy
 exact ⟨by simpa [World.setCell] using h1,h2,h3,h4,h5.q,h5.l,fun e=>by simp [Value.ownBlock] at e⟩
theorem RXY.c12 {s:Nat} {X Y:Nat→Prop} {wx w0 w:World} {g:Mg} {h:Hp} {qs:List Nat} {a:Mc} {c:Cal} (H:RXY s X Y wx w0 g w h qs a c):∃vs,w.cell? ⟨a.q,12,none⟩=some vs∧∀i,w.frozen? ⟨a.q,i,none⟩=false:=by
 obtain ⟨vc,vo,vx,vs,l,H,F⟩:=H
 exact ⟨vs,H.ca.cells.c12,H.ca.free⟩
set_option maxRecDepth 100000 in
theorem catch_no (s:Nat) (X:Nat→Prop) (wx w0:World) (g:Mg) (h:Hp) (qs:List Nat) (a:Mc) (c:Cal) (v:Va) (w:World) (H:RX s X wx w0 g w h qs a c) (F:Fix w0 g h) (hf:h.objs.length≤100) (hv:v.kind=3) (h0:0≤v.n) (hn:v.n<h.objs.length) (ht:h.thrown=v.n) (hok:∀q,q<c.m.hands.length→0≤(nth hd0 c.m.hands q).fr∧(nth hd0 c.m.hands q).til≤1000∧0≤(nth hd0 c.m.hands q).til∧0≤(nth hd0 c.m.hands q).pc) (hpc:0≤c.pc∧c.pc≤1000) (hcl:h.caughtL c.pc c.m.hands<0) :
  Calls Try.prog 68 #[.pointer (some ⟨a.q,0,none⟩),mvV (im v)] w fun e w'=>e=.returned (.bool false)∧RX s X wx w0 g w' h qs a c:=by
 have HH:=hid H
 have HAL:Hid (Bl w (w.alloc (mvO (im v)))):=(Bl.refl w).alloc _
 have HHD:Hid (∀w',Bl w w'→Calls Try.prog 96 #[.pointer (some ⟨g.hb,0,none⟩),.slice a.K c.m.hands.length a.k,.int .i64 c.pc,mvV (im v)] w' fun e w2=>HdQ h c.pc c.m.hands w' e w2):=fun w' hb=>by
  have H':=H.bl hb
  obtain ⟨vc,vo,vx,vs,l,HA⟩:=H'
  exact handler_any g h v c.m.hands a.K a.k c.pc w' (HA.rh.rd F hf) (HA.ca.me.2.2.1.bl HA.rh.bl) hv h0 hn ht hok hpc
 obtain ⟨k0,k9,k10⟩:=H.c0910
 have HT:Hid (∀w',Bl (w.alloc (mvO (im v))) w'→(fun w'=>Hid (Bl (w.alloc (mvO (im v))) w')∧w'.cell? ⟨a.q,0,none⟩=some (.pointer (some ⟨g.hb,0,none⟩))∧w'.cell? ⟨a.q,9,none⟩=some (.slice a.K c.m.hands.length a.k)∧w'.cell? ⟨a.q,10,none⟩=some (.int .i64 c.pc)∧w'.cell? ⟨w.heap.size,0,none⟩=some (.int .i64 (im v).kind)∧w'.cell? ⟨w.heap.size,1,none⟩=some (.int .i64 (im v).n)) w'):=fun w' hb=>by
  have hb2:=HAL.out.trans hb
  exact ⟨hb,hb2.cell k0,hb2.cell k9,hb2.cell k10,hb.cell (cell_of_new rfl),hb.cell (cell_of_new rfl)⟩
 have HCL:=hid hcl
 have HZ:Hid (((w.alloc (mvO (im v))).alloc hdZ).heap[w.heap.size+1]?=some (.cells #[.int .i64 0,.int .i64 0,.int .i64 0,.int .i64 0] 87 (0,0))):=by
  have:=blk_new (w.alloc (mvO (im v))) #[.int .i64 0,.int .i64 0,.int .i64 0,.int .i64 0] 87
  rwa [World.size_alloc] at this
 have hq:=H.qlt
 clear H F hf hv h0 hn ht hok hpc hcl k0 k9 k10
 go_enter Try.func68,Try.ntmps68
 go_wp2
 refine wp_region_held_drew (S:=fun w'=>Hid (Bl (w.alloc (mvO (im v))) w')∧w'.cell? ⟨a.q,0,none⟩=some (.pointer (some ⟨g.hb,0,none⟩))∧w'.cell? ⟨a.q,9,none⟩=some (.slice a.K c.m.hands.length a.k)∧w'.cell? ⟨a.q,10,none⟩=some (.int .i64 c.pc)∧w'.cell? ⟨w.heap.size,0,none⟩=some (.int .i64 (im v).kind)∧w'.cell? ⟨w.heap.size,1,none⟩=some (.int .i64 (im v).n)) (by kernel_rfl) ?_ (fun hHeld0=>?_)
 ·exact HT.out _ (Bl.refl _).drew
 refine tk (i:=0) (d:=some 8) rfl rfl (by kernel_rfl) (fun _ _ _ h=>h) (by rfl) (by intro _ h;(try dsimp only at h);go_split_ands;go_simp<;>with_reducible rfl) hHeld0 ?_
 try simp only [aS,aN,aT,a0,a1]
 refine tk (i:=1) (d:=some 9) rfl rfl (by kernel_rfl) (fun _ _ _ h=>h) (by rfl) (by intro _ h;(try dsimp only at h);go_split_ands;go_simp<;>with_reducible rfl) hHeld0 ?_
 try simp only [aS,aN,aT,a0,a1]
 refine tk (i:=2) (d:=some 10) rfl rfl (by kernel_rfl) (fun _ _ _ h=>h) (by rfl) (by intro _ h;(try dsimp only at h);go_split_ands;go_simp<;>with_reducible rfl) hHeld0 ?_
 try simp only [aS,aN,aT,a0,a1]
 refine tk (i:=3) (d:=some 11) rfl rfl (by kernel_rfl) (fun _ _ _ h=>h) (by rfl) (by intro _ h;(try dsimp only at h);go_split_ands;go_simp<;>with_reducible rfl) hHeld0 ?_
 try simp only [aS,aN,aT,a0,a1]
 refine tk (i:=4) (d:=some 12) rfl rfl (by kernel_rfl) (fun _ _ _ h=>h) (by rfl) (by intro _ h;(try dsimp only at h);go_split_ands;go_simp<;>with_reducible rfl) hHeld0 ?_
 try simp only [aS,aN,aT,a0,a1]
 refine tk (i:=5) (d:=some 13) rfl rfl (by kernel_rfl) (fun _ _ _ h=>h) (by rfl) (by intro _ h;(try dsimp only at h);go_split_ands;go_simp<;>with_reducible rfl) hHeld0 ?_
 try simp only [aS,aN,aT,a0,a1]
 refine tk (i:=6) (d:=some 14) rfl rfl (by kernel_rfl) (fun _ _ _ h=>h) (by rfl) (by intro _ h;(try dsimp only at h);go_split_ands;go_simp<;>with_reducible rfl) hHeld0 ?_
 try simp only [aS,aN,aT,a0,a1]
 refine tk (i:=7) (d:=some 15) rfl rfl (by kernel_rfl) (fun _ _ _ h=>h) (by rfl) (by intro _ h;(try dsimp only at h);go_split_ands;go_simp<;>with_reducible rfl) hHeld0 ?_
 try simp only [aS,aN,aT,a0,a1]
 refine tk (i:=8) (d:=some 16) rfl rfl (by kernel_rfl) (fun _ _ _ h=>h) (by rfl) (by intro _ h;(try dsimp only at h);go_split_ands;go_simp<;>with_reducible rfl) hHeld0 ?_
 try simp only [aS,aN,aT,a0,a1]
 refine tk (i:=9) (d:=some 17) rfl rfl (by kernel_rfl) (fun _ _ _ h=>h) (by rfl) (by intro _ h;(try dsimp only at h);go_split_ands;go_simp<;>with_reducible rfl) hHeld0 ?_
 try simp only [aS,aN,aT,a0,a1]
 refine tk (i:=10) (d:=some 18) rfl rfl (by kernel_rfl) (fun _ _ _ h=>h) (by rfl) (by intro _ h;(try dsimp only at h);go_split_ands;go_simp<;>with_reducible rfl) hHeld0 ?_
 try simp only [aS,aN,aT,a0,a1]
 refine tk (i:=11) (d:=some 19) rfl rfl (by kernel_rfl) (fun _ _ _ h=>h) (by rfl) (by intro _ h;(try dsimp only at h);go_split_ands;go_simp<;>with_reducible rfl) hHeld0 ?_
 try simp only [aS,aN,aT,a0,a1]
 refine tk (i:=12) (d:=some 20) rfl rfl (by kernel_rfl) (fun _ _ _ h=>h) (by rfl) (by intro _ h;(try dsimp only at h);go_split_ands;go_simp<;>with_reducible rfl) hHeld0 ?_
 try simp only [aS,aN,aT,a0,a1]
 refine tk (i:=13) (d:=some 21) rfl rfl (by kernel_rfl) (fun _ _ _ h=>h) (by rfl) (by intro _ h;(try dsimp only at h);go_split_ands;go_simp<;>with_reducible rfl) hHeld0 ?_
 try simp only [aS,aN,aT,a0,a1]
 refine wpAnyH_ready (rs:=[14,18]) (by kernel_rfl) (by simp) ?_
 refine AllReadyH.cons rfl (fun K hK=>?_) (AllReadyH.cons rfl (fun K hK=>?_) (AllReadyH.nil))
 ·go_simp
  go_at_call 96
  refine (HHD.out _ (HAL.out.trans hHeld0.1.out)).mono ?_
  rintro e w1 ⟨b1,x,hx⟩
  have he:∃x:Hd,e=.returned (.tuple #[.agg (hdC x),.bool false]):=by
   rcases hx with ⟨z,-⟩|⟨-,z⟩
   ·exact absurd z (by have:=HCL.out;omega)
   ·exact ⟨x,z⟩
  obtain ⟨y,rfl⟩:=he
  clear hx
  unfold hdC
  have hb1:=hid (hHeld0.1.out.trans b1)
  clear b1
  go_wp2_with fail
  refine hK.out _ _ (HT.out _ hb1.out) (fun hHeld1=>?_)
  try simp only [aS,aN,aT,a0,a1]
  refine tk (i:=15) (d:=some 7) rfl rfl (by kernel_rfl) (fun _ _ _ h=>h) (by rfl) (by intro _ h;(try dsimp only at h);go_split_ands;go_simp<;>with_reducible rfl) hHeld1 ?_
  try simp only [aS,aN,aT,a0,a1]
  refine tk (i:=16) (d:=some 23) rfl rfl (by kernel_rfl) (fun _ _ _ h=>h) (by rfl) (by intro _ h;(try dsimp only at h);go_split_ands;go_simp<;>with_reducible rfl) hHeld1 ?_
  try simp only [aS,aN,aT,a0,a1]
  refine tk (i:=17) (d:=some 24) rfl rfl (by kernel_rfl) (fun _ _ _ h=>h) (by rfl) (by intro _ h;(try dsimp only at h);go_split_ands;go_simp<;>with_reducible rfl) hHeld1 ?_
  try simp only [aS,aN,aT,a0,a1]
  refine rd1 (i:=18) (by kernel_rfl) rfl fun K hK=>?_
  go_simp
  have hbV:=hid (hb1.out.alloc hdZ)
  have hq0:(w1.alloc hdZ).heap[w1.heap.size]?=some (.cells #[.int .i64 0,.int .i64 0,.int .i64 0,.int .i64 0] 87 (0,0)):=blk_new _ _ _
  have hB0:=hb1.out.size
  obtain ⟨B,hBB⟩:∃B,B=w1.heap.size:=⟨_,rfl⟩
  rw [←hBB] at hq0 hB0
  simp only [←hBB]
  have hB:=hid hB0
  clear hBB hB0
  replace hq0:=hid hq0
  generalize w1.alloc hdZ=V at *
  refine hK.out _ _ (HT.out _ hbV.out) (fun hHeld2=>?_)
  try simp only [aS,aN,aT,a0,a1]
  refine rd1 (i:=19) (by kernel_rfl) rfl fun K hK=>?_
  have y0:V.cell? ⟨B,0,none⟩=some (.int .i64 0):=(cell_blk hq0.out).trans rfl
  have y1:V.cell? ⟨B,1,none⟩=some (.int .i64 0):=(cell_blk hq0.out).trans rfl
  have y2:V.cell? ⟨B,2,none⟩=some (.int .i64 0):=(cell_blk hq0.out).trans rfl
  have y3:V.cell? ⟨B,3,none⟩=some (.int .i64 0):=(cell_blk hq0.out).trans rfl
  have fz:=free_blk hq0.out
  have HV0:=hid hHeld2
  clear hHeld2
  go_simp
  have hV4:=hid (bl_four hbV.out hB.out (.int .i64 y.fr) (.int .i64 y.til) (.int .i64 y.pc) (.int .i64 y.cls))
  have hq4:=hid (set_four hq0.out (.int .i64 y.fr) (.int .i64 y.til) (.int .i64 y.pc) (.int .i64 y.cls))
  clear y0 y1 y2 y3 fz
  refine hK.out _ _ (HT.out _ hV4.out) (fun hHeld3=>?_)
  try simp only [aS,aN,aT,a0,a1]
  refine tk (i:=20) (d:=some 6) rfl rfl (by kernel_rfl) (fun _ _ _ h=>h) (by rfl) (by intro _ h;(try dsimp only at h);go_split_ands;go_simp<;>with_reducible rfl) hHeld3 ?_
  try simp only [aS,aN,aT,a0,a1]
  refine wpAnyH_done (by kernel_rfl) ?_ _
  go_wp2
  go_ret
  exact ⟨rfl,HH.out.bl (HAL.out.trans hHeld3.1.out)⟩
 ·go_simp
  refine hK.out _ _ (HT.out _ (hHeld0.1.out.alloc _)) (fun hHeld4=>?_)
  try simp only [aS,aN,aT,a0,a1]
  refine rd1 (i:=14) (by kernel_rfl) rfl fun K hK=>?_
  go_simp
  go_at_call 96
  refine (HHD.out _ (HAL.out.trans hHeld4.1.out)).mono ?_
  rintro e V ⟨b1,x,hx⟩
  have he:∃x:Hd,e=.returned (.tuple #[.agg (hdC x),.bool false]):=by
   rcases hx with ⟨z,-⟩|⟨-,z⟩
   ·exact absurd z (by have:=HCL.out;omega)
   ·exact ⟨x,z⟩
  obtain ⟨y,rfl⟩:=he
  clear hx
  unfold hdC
  have hbV:=hid (hHeld4.1.out.trans b1)
  have hq0:V.heap[w.heap.size+1]?=some (.cells #[.int .i64 0,.int .i64 0,.int .i64 0,.int .i64 0] 87 (0,0)):=bl_blk b1 (show _=_ from HZ.out)
  obtain ⟨B,hBB⟩:∃B,B=w.heap.size+1:=⟨_,rfl⟩
  rw [←hBB] at hq0
  simp only [←hBB]
  have hB:Hid ((w.alloc (mvO (im v))).heap.size≤B):=by show (w.alloc (mvO (im v))).heap.size≤B;rw [hBB,World.size_alloc];exact Nat.le_refl _
  clear hBB b1
  replace hq0:=hid hq0
  go_wp2_with fail
  refine hK.out _ _ (HT.out _ hbV.out) (fun hHeld5=>?_)
  try simp only [aS,aN,aT,a0,a1]
  refine tk (i:=15) (d:=some 7) rfl rfl (by kernel_rfl) (fun _ _ _ h=>h) (by rfl) (by intro _ h;(try dsimp only at h);go_split_ands;go_simp<;>with_reducible rfl) hHeld5 ?_
  try simp only [aS,aN,aT,a0,a1]
  refine tk (i:=16) (d:=some 23) rfl rfl (by kernel_rfl) (fun _ _ _ h=>h) (by rfl) (by intro _ h;(try dsimp only at h);go_split_ands;go_simp<;>with_reducible rfl) hHeld5 ?_
  try simp only [aS,aN,aT,a0,a1]
  refine tk (i:=17) (d:=some 24) rfl rfl (by kernel_rfl) (fun _ _ _ h=>h) (by rfl) (by intro _ h;(try dsimp only at h);go_split_ands;go_simp<;>with_reducible rfl) hHeld5 ?_
  try simp only [aS,aN,aT,a0,a1]
  refine rd1 (i:=19) (by kernel_rfl) rfl fun K hK=>?_
  have y0:V.cell? ⟨B,0,none⟩=some (.int .i64 0):=(cell_blk hq0.out).trans rfl
  have y1:V.cell? ⟨B,1,none⟩=some (.int .i64 0):=(cell_blk hq0.out).trans rfl
  have y2:V.cell? ⟨B,2,none⟩=some (.int .i64 0):=(cell_blk hq0.out).trans rfl
  have y3:V.cell? ⟨B,3,none⟩=some (.int .i64 0):=(cell_blk hq0.out).trans rfl
  have fz:=free_blk hq0.out
  have HV0:=hid hHeld5
  clear hHeld5
  go_simp
  have hV4:=hid (bl_four hbV.out hB.out (.int .i64 y.fr) (.int .i64 y.til) (.int .i64 y.pc) (.int .i64 y.cls))
  have hq4:=hid (set_four hq0.out (.int .i64 y.fr) (.int .i64 y.til) (.int .i64 y.pc) (.int .i64 y.cls))
  clear y0 y1 y2 y3 fz
  refine hK.out _ _ (HT.out _ hV4.out) (fun hHeld6=>?_)
  try simp only [aS,aN,aT,a0,a1]
  refine tk (i:=20) (d:=some 6) rfl rfl (by kernel_rfl) (fun _ _ _ h=>h) (by rfl) (by intro _ h;(try dsimp only at h);go_split_ands;go_simp<;>with_reducible rfl) hHeld6 ?_
  try simp only [aS,aN,aT,a0,a1]
  refine wpAnyH_done (by kernel_rfl) ?_ _
  go_wp2
  go_ret
  exact ⟨rfl,HH.out.bl (HAL.out.trans hHeld6.1.out)⟩
theorem mput_yes (s:Nat) (X:Nat→Prop) (wx w0:World) (g:Mg) (h:Hp) (qs:List Nat) (a:Mc) (c:Cal) (v:Va) (w:World) (H:RX s X wx w0 g w h qs a c) (hv:1≤v.kind∧v.kind≤3) (hs:c.stk.length≤1000) (hr:(sizP (c.stk++[v]):Int)≤c.m.stack) :
  Calls Try.prog 95 #[.pointer (some ⟨a.q,0,none⟩),mvV (im v)] w fun e w'=>e=.returned (.tuple #[])∧RX s X wx w0 g w' h qs a (c.put v) :=
 (mput_any s X wx w0 g h qs a c v w H hv hs).mono fun e w' ⟨he,H'⟩=>⟨by rw [he,if_pos hr],H'⟩
theorem mput_no (s:Nat) (X:Nat→Prop) (wx w0:World) (g:Mg) (h:Hp) (qs:List Nat) (a:Mc) (c:Cal) (v:Va) (w:World) (H:RX s X wx w0 g w h qs a c) (hv:1≤v.kind∧v.kind≤3) (hs:c.stk.length≤1000) (hr:¬(sizP (c.stk++[v]):Int)≤c.m.stack) :
  Calls Try.prog 95 #[.pointer (some ⟨a.q,0,none⟩),mvV (im v)] w fun e w'=>e=stopE 6 0 0∧RS s X wx w0 g w' h qs a c :=
 (mput_any s X wx w0 g h qs a c v w H hv hs).mono fun e w' ⟨he,H'⟩=>⟨by rw [he,if_neg hr],c.put v,rfl,⟨rfl,rfl⟩,H'⟩
set_option maxRecDepth 100000 in
theorem catch_yes (s:Nat) (X:Nat→Prop) (wx w0:World) (g:Mg) (h:Hp) (qs:List Nat) (a:Mc) (c:Cal) (v:Va) (w:World) (H:RX s X wx w0 g w h qs a c) (F:Fix w0 g h) (hf:h.objs.length≤100) (hv:v.kind=3) (h0:0≤v.n) (hn:v.n<h.objs.length) (ht:h.thrown=v.n) (hok:∀q,q<c.m.hands.length→0≤(nth hd0 c.m.hands q).fr∧(nth hd0 c.m.hands q).til≤1000∧0≤(nth hd0 c.m.hands q).til∧0≤(nth hd0 c.m.hands q).pc) (hpc:0≤c.pc∧c.pc≤1000) (hcl:0≤h.caughtL c.pc c.m.hands) (hr:(sizP [v]:Int)≤c.m.stack) :
  Calls Try.prog 68 #[.pointer (some ⟨a.q,0,none⟩),mvV (im v)] w fun e w'=>e=.returned (.bool true)∧RX s X wx w0 g w' h qs a { c with stk:=[v],pc:=h.caughtL c.pc c.m.hands }:=by
 have HH:=hid H
 have HAL:Hid (Bl w (w.alloc (mvO (im v)))):=(Bl.refl w).alloc _
 have HHD:Hid (∀w',Bl w w'→Calls Try.prog 96 #[.pointer (some ⟨g.hb,0,none⟩),.slice a.K c.m.hands.length a.k,.int .i64 c.pc,mvV (im v)] w' fun e w2=>HdQ h c.pc c.m.hands w' e w2):=fun w' hb=>by
  have H':=H.bl hb
  obtain ⟨vc,vo,vx,vs,l,HA⟩:=H'
  exact handler_any g h v c.m.hands a.K a.k c.pc w' (HA.rh.rd F hf) (HA.ca.me.2.2.1.bl HA.rh.bl) hv h0 hn ht hok hpc
 obtain ⟨k0,k9,k10⟩:=H.c0910
 have HT:Hid (∀w',Bl (w.alloc (mvO (im v))) w'→(fun w'=>Hid (Bl (w.alloc (mvO (im v))) w')∧w'.cell? ⟨a.q,0,none⟩=some (.pointer (some ⟨g.hb,0,none⟩))∧w'.cell? ⟨a.q,9,none⟩=some (.slice a.K c.m.hands.length a.k)∧w'.cell? ⟨a.q,10,none⟩=some (.int .i64 c.pc)∧w'.cell? ⟨w.heap.size,0,none⟩=some (.int .i64 (im v).kind)∧w'.cell? ⟨w.heap.size,1,none⟩=some (.int .i64 (im v).n)) w'):=fun w' hb=>by
  have hb2:=HAL.out.trans hb
  exact ⟨hb,hb2.cell k0,hb2.cell k9,hb2.cell k10,hb.cell (cell_of_new rfl),hb.cell (cell_of_new rfl)⟩
 have HCL:=hid hcl
 have HZ:Hid (((w.alloc (mvO (im v))).alloc hdZ).heap[w.heap.size+1]?=some (.cells #[.int .i64 0,.int .i64 0,.int .i64 0,.int .i64 0] 87 (0,0))):=by
  have:=blk_new (w.alloc (mvO (im v))) #[.int .i64 0,.int .i64 0,.int .i64 0,.int .i64 0] 87
  rwa [World.size_alloc] at this
 have hq:=H.qlt
 have HRR:=hid hr
 have HK3:Hid (1≤v.kind∧v.kind≤3):=by show 1≤v.kind∧v.kind≤3;omega
 clear H F hf hv h0 hn ht hok hpc hcl k0 k9 k10 hr
 go_enter Try.func68,Try.ntmps68
 go_wp2
 refine wp_region_held_drew (S:=fun w'=>Hid (Bl (w.alloc (mvO (im v))) w')∧w'.cell? ⟨a.q,0,none⟩=some (.pointer (some ⟨g.hb,0,none⟩))∧w'.cell? ⟨a.q,9,none⟩=some (.slice a.K c.m.hands.length a.k)∧w'.cell? ⟨a.q,10,none⟩=some (.int .i64 c.pc)∧w'.cell? ⟨w.heap.size,0,none⟩=some (.int .i64 (im v).kind)∧w'.cell? ⟨w.heap.size,1,none⟩=some (.int .i64 (im v).n)) (by kernel_rfl) ?_ (fun hHeld0=>?_)
 ·exact HT.out _ (Bl.refl _).drew
 refine tk (i:=0) (d:=some 8) rfl rfl (by kernel_rfl) (fun _ _ _ h=>h) (by rfl) (by intro _ h;(try dsimp only at h);go_split_ands;go_simp<;>with_reducible rfl) hHeld0 ?_
 try simp only [aS,aN,aT,a0,a1]
 refine tk (i:=1) (d:=some 9) rfl rfl (by kernel_rfl) (fun _ _ _ h=>h) (by rfl) (by intro _ h;(try dsimp only at h);go_split_ands;go_simp<;>with_reducible rfl) hHeld0 ?_
 try simp only [aS,aN,aT,a0,a1]
 refine tk (i:=2) (d:=some 10) rfl rfl (by kernel_rfl) (fun _ _ _ h=>h) (by rfl) (by intro _ h;(try dsimp only at h);go_split_ands;go_simp<;>with_reducible rfl) hHeld0 ?_
 try simp only [aS,aN,aT,a0,a1]
 refine tk (i:=3) (d:=some 11) rfl rfl (by kernel_rfl) (fun _ _ _ h=>h) (by rfl) (by intro _ h;(try dsimp only at h);go_split_ands;go_simp<;>with_reducible rfl) hHeld0 ?_
 try simp only [aS,aN,aT,a0,a1]
 refine tk (i:=4) (d:=some 12) rfl rfl (by kernel_rfl) (fun _ _ _ h=>h) (by rfl) (by intro _ h;(try dsimp only at h);go_split_ands;go_simp<;>with_reducible rfl) hHeld0 ?_
 try simp only [aS,aN,aT,a0,a1]
 refine tk (i:=5) (d:=some 13) rfl rfl (by kernel_rfl) (fun _ _ _ h=>h) (by rfl) (by intro _ h;(try dsimp only at h);go_split_ands;go_simp<;>with_reducible rfl) hHeld0 ?_
 try simp only [aS,aN,aT,a0,a1]
 refine tk (i:=6) (d:=some 14) rfl rfl (by kernel_rfl) (fun _ _ _ h=>h) (by rfl) (by intro _ h;(try dsimp only at h);go_split_ands;go_simp<;>with_reducible rfl) hHeld0 ?_
 try simp only [aS,aN,aT,a0,a1]
 refine tk (i:=7) (d:=some 15) rfl rfl (by kernel_rfl) (fun _ _ _ h=>h) (by rfl) (by intro _ h;(try dsimp only at h);go_split_ands;go_simp<;>with_reducible rfl) hHeld0 ?_
 try simp only [aS,aN,aT,a0,a1]
 refine tk (i:=8) (d:=some 16) rfl rfl (by kernel_rfl) (fun _ _ _ h=>h) (by rfl) (by intro _ h;(try dsimp only at h);go_split_ands;go_simp<;>with_reducible rfl) hHeld0 ?_
 try simp only [aS,aN,aT,a0,a1]
 refine tk (i:=9) (d:=some 17) rfl rfl (by kernel_rfl) (fun _ _ _ h=>h) (by rfl) (by intro _ h;(try dsimp only at h);go_split_ands;go_simp<;>with_reducible rfl) hHeld0 ?_
 try simp only [aS,aN,aT,a0,a1]
 refine tk (i:=10) (d:=some 18) rfl rfl (by kernel_rfl) (fun _ _ _ h=>h) (by rfl) (by intro _ h;(try dsimp only at h);go_split_ands;go_simp<;>with_reducible rfl) hHeld0 ?_
 try simp only [aS,aN,aT,a0,a1]
 refine tk (i:=11) (d:=some 19) rfl rfl (by kernel_rfl) (fun _ _ _ h=>h) (by rfl) (by intro _ h;(try dsimp only at h);go_split_ands;go_simp<;>with_reducible rfl) hHeld0 ?_
 try simp only [aS,aN,aT,a0,a1]
 refine tk (i:=12) (d:=some 20) rfl rfl (by kernel_rfl) (fun _ _ _ h=>h) (by rfl) (by intro _ h;(try dsimp only at h);go_split_ands;go_simp<;>with_reducible rfl) hHeld0 ?_
 try simp only [aS,aN,aT,a0,a1]
 refine tk (i:=13) (d:=some 21) rfl rfl (by kernel_rfl) (fun _ _ _ h=>h) (by rfl) (by intro _ h;(try dsimp only at h);go_split_ands;go_simp<;>with_reducible rfl) hHeld0 ?_
 try simp only [aS,aN,aT,a0,a1]
 refine wpAnyH_ready (rs:=[14,18]) (by kernel_rfl) (by simp) ?_
 refine AllReadyH.cons rfl (fun K hK=>?_) (AllReadyH.cons rfl (fun K hK=>?_) (AllReadyH.nil))
 ·go_simp
  go_at_call 96
  refine (HHD.out _ (HAL.out.trans hHeld0.1.out)).mono ?_
  rintro e w1 ⟨b1,x,hx⟩
  have he:∃x:Hd,x.pc=h.caughtL c.pc c.m.hands∧e=.returned (.tuple #[.agg (hdC x),.bool true]):=by
   rcases hx with ⟨-,z,z2⟩|⟨z,-⟩
   ·exact ⟨x,z,z2⟩
   ·exact absurd z (by have:=HCL.out;omega)
  obtain ⟨y,hy,rfl⟩:=he
  replace hy:=hid hy
  clear hx
  unfold hdC
  have hb1:=hid (hHeld0.1.out.trans b1)
  clear b1
  go_wp2_with fail
  refine hK.out _ _ (HT.out _ hb1.out) (fun hHeld1=>?_)
  try simp only [aS,aN,aT,a0,a1]
  refine tk (i:=15) (d:=some 7) rfl rfl (by kernel_rfl) (fun _ _ _ h=>h) (by rfl) (by intro _ h;(try dsimp only at h);go_split_ands;go_simp<;>with_reducible rfl) hHeld1 ?_
  try simp only [aS,aN,aT,a0,a1]
  refine tk (i:=16) (d:=some 23) rfl rfl (by kernel_rfl) (fun _ _ _ h=>h) (by rfl) (by intro _ h;(try dsimp only at h);go_split_ands;go_simp<;>with_reducible rfl) hHeld1 ?_
  try simp only [aS,aN,aT,a0,a1]
  refine tk (i:=17) (d:=some 24) rfl rfl (by kernel_rfl) (fun _ _ _ h=>h) (by rfl) (by intro _ h;(try dsimp only at h);go_split_ands;go_simp<;>with_reducible rfl) hHeld1 ?_
  try simp only [aS,aN,aT,a0,a1]
  refine rd1 (i:=18) (by kernel_rfl) rfl fun K hK=>?_
  go_simp
  have hbV:=hid (hb1.out.alloc hdZ)
  have hq0:(w1.alloc hdZ).heap[w1.heap.size]?=some (.cells #[.int .i64 0,.int .i64 0,.int .i64 0,.int .i64 0] 87 (0,0)):=blk_new _ _ _
  have hB0:=hb1.out.size
  obtain ⟨B,hBB⟩:∃B,B=w1.heap.size:=⟨_,rfl⟩
  rw [←hBB] at hq0 hB0
  simp only [←hBB]
  have hB:=hid hB0
  clear hBB hB0
  replace hq0:=hid hq0
  generalize w1.alloc hdZ=V at *
  refine hK.out _ _ (HT.out _ hbV.out) (fun hHeld2=>?_)
  try simp only [aS,aN,aT,a0,a1]
  refine rd1 (i:=19) (by kernel_rfl) rfl fun K hK=>?_
  have y0:V.cell? ⟨B,0,none⟩=some (.int .i64 0):=(cell_blk hq0.out).trans rfl
  have y1:V.cell? ⟨B,1,none⟩=some (.int .i64 0):=(cell_blk hq0.out).trans rfl
  have y2:V.cell? ⟨B,2,none⟩=some (.int .i64 0):=(cell_blk hq0.out).trans rfl
  have y3:V.cell? ⟨B,3,none⟩=some (.int .i64 0):=(cell_blk hq0.out).trans rfl
  have fz:=free_blk hq0.out
  have HV0:=hid hHeld2
  clear hHeld2
  go_simp
  have hV4:=hid (bl_four hbV.out hB.out (.int .i64 y.fr) (.int .i64 y.til) (.int .i64 y.pc) (.int .i64 y.cls))
  have hq4:=hid (set_four hq0.out (.int .i64 y.fr) (.int .i64 y.til) (.int .i64 y.pc) (.int .i64 y.cls))
  clear y0 y1 y2 y3 fz
  refine hK.out _ _ (HT.out _ hV4.out) (fun hHeld3=>?_)
  try simp only [aS,aN,aT,a0,a1]
  refine tk (i:=20) (d:=some 6) rfl rfl (by kernel_rfl) (fun _ _ _ h=>h) (by rfl) (by intro _ h;(try dsimp only at h);go_split_ands;go_simp<;>with_reducible rfl) hHeld3 ?_
  try simp only [aS,aN,aT,a0,a1]
  refine wpAnyH_done (by kernel_rfl) ?_ _
  obtain ⟨W4,hW4⟩:∃W4,W4=(((V.setCell ⟨B,0,none⟩ (.int .i64 y.fr)).setCell ⟨B,1,none⟩ (.int .i64 y.til)).setCell ⟨B,2,none⟩ (.int .i64 y.pc)).setCell ⟨B,3,none⟩ (.int .i64 y.cls):=⟨_,rfl⟩
  have hbw:Bl w W4:=by rw [hW4];exact HAL.out.trans hV4.out
  have hq4':W4.heap[B]?=some (.cells #[.int .i64 y.fr,.int .i64 y.til,.int .i64 y.pc,.int .i64 y.cls] 87 (0,0)):=by rw [hW4];exact hq4.out
  have hv4:W4.heap[w.heap.size]?=some (.cells #[.int .i64 (im v).kind,.int .i64 (im v).n] 109 (0,0)):=bl_blk (by rw [hW4];exact hV4.out) (blk_new w _ _)
  have hBw:Hid (w.heap.size≤B):=Nat.le_trans HAL.out.size hB.out
  rw [←hW4]
  clear hW4 hHeld3 hV4 hq4 HV0 hbV hq0
  clear V
  have HY:=HH.out.y.bl hbw
  obtain ⟨vs,c12,fz⟩:=HY.c12
  have HY5:=hid HY.clrs
  have e0:=c0_of hv4
  have e1:=c1_of hv4
  have hBl:=lt_some hq4'
  have hvl:=lt_some hv4
  have hneB:B≠a.q:=by have:=hBw.out;omega
  have hnev:w.heap.size≠a.q:=by omega
  have HQ4:=hid hq4'
  have HV4:=hid hv4
  have HBL:=hid hBl
  have HVL:=hid hvl
  clear HY hq4' hv4 hBl hvl hbw
  go_wp2_with fail
  go_at_call 95
  refine (HY5.out.useY (Bl.refl _) (fun X wx w H=>mput_yes s X wx w0 g h qs a { c with stk:=[] } v w H HK3.out (Nat.zero_le _) HRR.out)).mono ?_
  rintro e w6 ⟨rfl,H6,K6⟩
  have q6:=K6.at (Xp.old (Xp.new hBw.out HBL.out)) ((block_far hneB _).trans HQ4.out)
  have p2:w6.cell? ⟨B,2,none⟩=some (.int .i64 y.pc):=(cell_blk q6).trans rfl
  have HX6:=H6.x
  obtain ⟨p10,fz6,-⟩:=HX6.c10
  have HS6:=hid (HX6.setpc y.pc)
  clear H6 K6 q6 HX6
  go_wp2
  go_ret
  have hs6:=HS6.out
  rw [hy.out] at hs6 ⊢
  exact ⟨rfl,hs6⟩
 ·go_simp
  refine hK.out _ _ (HT.out _ (hHeld0.1.out.alloc _)) (fun hHeld4=>?_)
  try simp only [aS,aN,aT,a0,a1]
  refine rd1 (i:=14) (by kernel_rfl) rfl fun K hK=>?_
  go_simp
  go_at_call 96
  refine (HHD.out _ (HAL.out.trans hHeld4.1.out)).mono ?_
  rintro e V ⟨b1,x,hx⟩
  have he:∃x:Hd,x.pc=h.caughtL c.pc c.m.hands∧e=.returned (.tuple #[.agg (hdC x),.bool true]):=by
   rcases hx with ⟨-,z,z2⟩|⟨z,-⟩
   ·exact ⟨x,z,z2⟩
   ·exact absurd z (by have:=HCL.out;omega)
  obtain ⟨y,hy,rfl⟩:=he
  replace hy:=hid hy
  clear hx
  unfold hdC
  have hbV:=hid (hHeld4.1.out.trans b1)
  have hq0:V.heap[w.heap.size+1]?=some (.cells #[.int .i64 0,.int .i64 0,.int .i64 0,.int .i64 0] 87 (0,0)):=bl_blk b1 (show _=_ from HZ.out)
  obtain ⟨B,hBB⟩:∃B,B=w.heap.size+1:=⟨_,rfl⟩
  rw [←hBB] at hq0
  simp only [←hBB]
  have hB:Hid ((w.alloc (mvO (im v))).heap.size≤B):=by show (w.alloc (mvO (im v))).heap.size≤B;rw [hBB,World.size_alloc];exact Nat.le_refl _
  clear hBB b1
  replace hq0:=hid hq0
  go_wp2_with fail
  refine hK.out _ _ (HT.out _ hbV.out) (fun hHeld5=>?_)
  try simp only [aS,aN,aT,a0,a1]
  refine tk (i:=15) (d:=some 7) rfl rfl (by kernel_rfl) (fun _ _ _ h=>h) (by rfl) (by intro _ h;(try dsimp only at h);go_split_ands;go_simp<;>with_reducible rfl) hHeld5 ?_
  try simp only [aS,aN,aT,a0,a1]
  refine tk (i:=16) (d:=some 23) rfl rfl (by kernel_rfl) (fun _ _ _ h=>h) (by rfl) (by intro _ h;(try dsimp only at h);go_split_ands;go_simp<;>with_reducible rfl) hHeld5 ?_
  try simp only [aS,aN,aT,a0,a1]
  refine tk (i:=17) (d:=some 24) rfl rfl (by kernel_rfl) (fun _ _ _ h=>h) (by rfl) (by intro _ h;(try dsimp only at h);go_split_ands;go_simp<;>with_reducible rfl) hHeld5 ?_
  try simp only [aS,aN,aT,a0,a1]
  refine rd1 (i:=19) (by kernel_rfl) rfl fun K hK=>?_
  have y0:V.cell? ⟨B,0,none⟩=some (.int .i64 0):=(cell_blk hq0.out).trans rfl
  have y1:V.cell? ⟨B,1,none⟩=some (.int .i64 0):=(cell_blk hq0.out).trans rfl
  have y2:V.cell? ⟨B,2,none⟩=some (.int .i64 0):=(cell_blk hq0.out).trans rfl
  have y3:V.cell? ⟨B,3,none⟩=some (.int .i64 0):=(cell_blk hq0.out).trans rfl
  have fz:=free_blk hq0.out
  have HV0:=hid hHeld5
  clear hHeld5
  go_simp
  have hV4:=hid (bl_four hbV.out hB.out (.int .i64 y.fr) (.int .i64 y.til) (.int .i64 y.pc) (.int .i64 y.cls))
  have hq4:=hid (set_four hq0.out (.int .i64 y.fr) (.int .i64 y.til) (.int .i64 y.pc) (.int .i64 y.cls))
  clear y0 y1 y2 y3 fz
  refine hK.out _ _ (HT.out _ hV4.out) (fun hHeld6=>?_)
  try simp only [aS,aN,aT,a0,a1]
  refine tk (i:=20) (d:=some 6) rfl rfl (by kernel_rfl) (fun _ _ _ h=>h) (by rfl) (by intro _ h;(try dsimp only at h);go_split_ands;go_simp<;>with_reducible rfl) hHeld6 ?_
  try simp only [aS,aN,aT,a0,a1]
  refine wpAnyH_done (by kernel_rfl) ?_ _
  obtain ⟨W4,hW4⟩:∃W4,W4=(((V.setCell ⟨B,0,none⟩ (.int .i64 y.fr)).setCell ⟨B,1,none⟩ (.int .i64 y.til)).setCell ⟨B,2,none⟩ (.int .i64 y.pc)).setCell ⟨B,3,none⟩ (.int .i64 y.cls):=⟨_,rfl⟩
  have hbw:Bl w W4:=by rw [hW4];exact HAL.out.trans hV4.out
  have hq4':W4.heap[B]?=some (.cells #[.int .i64 y.fr,.int .i64 y.til,.int .i64 y.pc,.int .i64 y.cls] 87 (0,0)):=by rw [hW4];exact hq4.out
  have hv4:W4.heap[w.heap.size]?=some (.cells #[.int .i64 (im v).kind,.int .i64 (im v).n] 109 (0,0)):=bl_blk (by rw [hW4];exact hV4.out) (blk_new w _ _)
  have hBw:Hid (w.heap.size≤B):=Nat.le_trans HAL.out.size hB.out
  rw [←hW4]
  clear hW4 hHeld6 hV4 hq4 HV0 hbV hq0
  clear V
  have HY:=HH.out.y.bl hbw
  obtain ⟨vs,c12,fz⟩:=HY.c12
  have HY5:=hid HY.clrs
  have e0:=c0_of hv4
  have e1:=c1_of hv4
  have hBl:=lt_some hq4'
  have hvl:=lt_some hv4
  have hneB:B≠a.q:=by have:=hBw.out;omega
  have hnev:w.heap.size≠a.q:=by omega
  have HQ4:=hid hq4'
  have HV4:=hid hv4
  have HBL:=hid hBl
  have HVL:=hid hvl
  clear HY hq4' hv4 hBl hvl hbw
  go_wp2_with fail
  go_at_call 95
  refine (HY5.out.useY (Bl.refl _) (fun X wx w H=>mput_yes s X wx w0 g h qs a { c with stk:=[] } v w H HK3.out (Nat.zero_le _) HRR.out)).mono ?_
  rintro e w6 ⟨rfl,H6,K6⟩
  have q6:=K6.at (Xp.old (Xp.new hBw.out HBL.out)) ((block_far hneB _).trans HQ4.out)
  have p2:w6.cell? ⟨B,2,none⟩=some (.int .i64 y.pc):=(cell_blk q6).trans rfl
  have HX6:=H6.x
  obtain ⟨p10,fz6,-⟩:=HX6.c10
  have HS6:=hid (HX6.setpc y.pc)
  clear H6 K6 q6 HX6
  go_wp2
  go_ret
  have hs6:=HS6.out
  rw [hy.out] at hs6 ⊢
  exact ⟨rfl,hs6⟩
set_option maxRecDepth 100000 in
theorem catch_full (s:Nat) (X:Nat→Prop) (wx w0:World) (g:Mg) (h:Hp) (qs:List Nat) (a:Mc) (c:Cal) (v:Va) (w:World) (H:RX s X wx w0 g w h qs a c) (F:Fix w0 g h) (hf:h.objs.length≤100) (hv:v.kind=3) (h0:0≤v.n) (hn:v.n<h.objs.length) (ht:h.thrown=v.n) (hok:∀q,q<c.m.hands.length→0≤(nth hd0 c.m.hands q).fr∧(nth hd0 c.m.hands q).til≤1000∧0≤(nth hd0 c.m.hands q).til∧0≤(nth hd0 c.m.hands q).pc) (hpc:0≤c.pc∧c.pc≤1000) (hcl:0≤h.caughtL c.pc c.m.hands) (hr:¬(sizP [v]:Int)≤c.m.stack) :
  Calls Try.prog 68 #[.pointer (some ⟨a.q,0,none⟩),mvV (im v)] w fun e w'=>e=stopE 6 0 0∧RS s X wx w0 g w' h qs a c:=by
 have HH:=hid H
 have HAL:Hid (Bl w (w.alloc (mvO (im v)))):=(Bl.refl w).alloc _
 have HHD:Hid (∀w',Bl w w'→Calls Try.prog 96 #[.pointer (some ⟨g.hb,0,none⟩),.slice a.K c.m.hands.length a.k,.int .i64 c.pc,mvV (im v)] w' fun e w2=>HdQ h c.pc c.m.hands w' e w2):=fun w' hb=>by
  have H':=H.bl hb
  obtain ⟨vc,vo,vx,vs,l,HA⟩:=H'
  exact handler_any g h v c.m.hands a.K a.k c.pc w' (HA.rh.rd F hf) (HA.ca.me.2.2.1.bl HA.rh.bl) hv h0 hn ht hok hpc
 obtain ⟨k0,k9,k10⟩:=H.c0910
 have HT:Hid (∀w',Bl (w.alloc (mvO (im v))) w'→(fun w'=>Hid (Bl (w.alloc (mvO (im v))) w')∧w'.cell? ⟨a.q,0,none⟩=some (.pointer (some ⟨g.hb,0,none⟩))∧w'.cell? ⟨a.q,9,none⟩=some (.slice a.K c.m.hands.length a.k)∧w'.cell? ⟨a.q,10,none⟩=some (.int .i64 c.pc)∧w'.cell? ⟨w.heap.size,0,none⟩=some (.int .i64 (im v).kind)∧w'.cell? ⟨w.heap.size,1,none⟩=some (.int .i64 (im v).n)) w'):=fun w' hb=>by
  have hb2:=HAL.out.trans hb
  exact ⟨hb,hb2.cell k0,hb2.cell k9,hb2.cell k10,hb.cell (cell_of_new rfl),hb.cell (cell_of_new rfl)⟩
 have HCL:=hid hcl
 have HZ:Hid (((w.alloc (mvO (im v))).alloc hdZ).heap[w.heap.size+1]?=some (.cells #[.int .i64 0,.int .i64 0,.int .i64 0,.int .i64 0] 87 (0,0))):=by
  have:=blk_new (w.alloc (mvO (im v))) #[.int .i64 0,.int .i64 0,.int .i64 0,.int .i64 0] 87
  rwa [World.size_alloc] at this
 have hq:=H.qlt
 have HRR:=hid hr
 have HK3:Hid (1≤v.kind∧v.kind≤3):=by show 1≤v.kind∧v.kind≤3;omega
 clear H F hf hv h0 hn ht hok hpc hcl k0 k9 k10 hr
 go_enter Try.func68,Try.ntmps68
 go_wp2
 refine wp_region_held_drew (S:=fun w'=>Hid (Bl (w.alloc (mvO (im v))) w')∧w'.cell? ⟨a.q,0,none⟩=some (.pointer (some ⟨g.hb,0,none⟩))∧w'.cell? ⟨a.q,9,none⟩=some (.slice a.K c.m.hands.length a.k)∧w'.cell? ⟨a.q,10,none⟩=some (.int .i64 c.pc)∧w'.cell? ⟨w.heap.size,0,none⟩=some (.int .i64 (im v).kind)∧w'.cell? ⟨w.heap.size,1,none⟩=some (.int .i64 (im v).n)) (by kernel_rfl) ?_ (fun hHeld0=>?_)
 ·exact HT.out _ (Bl.refl _).drew
 refine tk (i:=0) (d:=some 8) rfl rfl (by kernel_rfl) (fun _ _ _ h=>h) (by rfl) (by intro _ h;(try dsimp only at h);go_split_ands;go_simp<;>with_reducible rfl) hHeld0 ?_
 try simp only [aS,aN,aT,a0,a1]
 refine tk (i:=1) (d:=some 9) rfl rfl (by kernel_rfl) (fun _ _ _ h=>h) (by rfl) (by intro _ h;(try dsimp only at h);go_split_ands;go_simp<;>with_reducible rfl) hHeld0 ?_
 try simp only [aS,aN,aT,a0,a1]
 refine tk (i:=2) (d:=some 10) rfl rfl (by kernel_rfl) (fun _ _ _ h=>h) (by rfl) (by intro _ h;(try dsimp only at h);go_split_ands;go_simp<;>with_reducible rfl) hHeld0 ?_
 try simp only [aS,aN,aT,a0,a1]
 refine tk (i:=3) (d:=some 11) rfl rfl (by kernel_rfl) (fun _ _ _ h=>h) (by rfl) (by intro _ h;(try dsimp only at h);go_split_ands;go_simp<;>with_reducible rfl) hHeld0 ?_
 try simp only [aS,aN,aT,a0,a1]
 refine tk (i:=4) (d:=some 12) rfl rfl (by kernel_rfl) (fun _ _ _ h=>h) (by rfl) (by intro _ h;(try dsimp only at h);go_split_ands;go_simp<;>with_reducible rfl) hHeld0 ?_
 try simp only [aS,aN,aT,a0,a1]
 refine tk (i:=5) (d:=some 13) rfl rfl (by kernel_rfl) (fun _ _ _ h=>h) (by rfl) (by intro _ h;(try dsimp only at h);go_split_ands;go_simp<;>with_reducible rfl) hHeld0 ?_
 try simp only [aS,aN,aT,a0,a1]
 refine tk (i:=6) (d:=some 14) rfl rfl (by kernel_rfl) (fun _ _ _ h=>h) (by rfl) (by intro _ h;(try dsimp only at h);go_split_ands;go_simp<;>with_reducible rfl) hHeld0 ?_
 try simp only [aS,aN,aT,a0,a1]
 refine tk (i:=7) (d:=some 15) rfl rfl (by kernel_rfl) (fun _ _ _ h=>h) (by rfl) (by intro _ h;(try dsimp only at h);go_split_ands;go_simp<;>with_reducible rfl) hHeld0 ?_
 try simp only [aS,aN,aT,a0,a1]
 refine tk (i:=8) (d:=some 16) rfl rfl (by kernel_rfl) (fun _ _ _ h=>h) (by rfl) (by intro _ h;(try dsimp only at h);go_split_ands;go_simp<;>with_reducible rfl) hHeld0 ?_
 try simp only [aS,aN,aT,a0,a1]
 refine tk (i:=9) (d:=some 17) rfl rfl (by kernel_rfl) (fun _ _ _ h=>h) (by rfl) (by intro _ h;(try dsimp only at h);go_split_ands;go_simp<;>with_reducible rfl) hHeld0 ?_
 try simp only [aS,aN,aT,a0,a1]
 refine tk (i:=10) (d:=some 18) rfl rfl (by kernel_rfl) (fun _ _ _ h=>h) (by rfl) (by intro _ h;(try dsimp only at h);go_split_ands;go_simp<;>with_reducible rfl) hHeld0 ?_
 try simp only [aS,aN,aT,a0,a1]
 refine tk (i:=11) (d:=some 19) rfl rfl (by kernel_rfl) (fun _ _ _ h=>h) (by rfl) (by intro _ h;(try dsimp only at h);go_split_ands;go_simp<;>with_reducible rfl) hHeld0 ?_
 try simp only [aS,aN,aT,a0,a1]
 refine tk (i:=12) (d:=some 20) rfl rfl (by kernel_rfl) (fun _ _ _ h=>h) (by rfl) (by intro _ h;(try dsimp only at h);go_split_ands;go_simp<;>with_reducible rfl) hHeld0 ?_
 try simp only [aS,aN,aT,a0,a1]
 refine tk (i:=13) (d:=some 21) rfl rfl (by kernel_rfl) (fun _ _ _ h=>h) (by rfl) (by intro _ h;(try dsimp only at h);go_split_ands;go_simp<;>with_reducible rfl) hHeld0 ?_
 try simp only [aS,aN,aT,a0,a1]
 refine wpAnyH_ready (rs:=[14,18]) (by kernel_rfl) (by simp) ?_
 refine AllReadyH.cons rfl (fun K hK=>?_) (AllReadyH.cons rfl (fun K hK=>?_) (AllReadyH.nil))
 ·go_simp
  go_at_call 96
  refine (HHD.out _ (HAL.out.trans hHeld0.1.out)).mono ?_
  rintro e w1 ⟨b1,x,hx⟩
  have he:∃x:Hd,x.pc=h.caughtL c.pc c.m.hands∧e=.returned (.tuple #[.agg (hdC x),.bool true]):=by
   rcases hx with ⟨-,z,z2⟩|⟨z,-⟩
   ·exact ⟨x,z,z2⟩
   ·exact absurd z (by have:=HCL.out;omega)
  obtain ⟨y,hy,rfl⟩:=he
  replace hy:=hid hy
  clear hx
  unfold hdC
  have hb1:=hid (hHeld0.1.out.trans b1)
  clear b1
  go_wp2_with fail
  refine hK.out _ _ (HT.out _ hb1.out) (fun hHeld1=>?_)
  try simp only [aS,aN,aT,a0,a1]
  refine tk (i:=15) (d:=some 7) rfl rfl (by kernel_rfl) (fun _ _ _ h=>h) (by rfl) (by intro _ h;(try dsimp only at h);go_split_ands;go_simp<;>with_reducible rfl) hHeld1 ?_
  try simp only [aS,aN,aT,a0,a1]
  refine tk (i:=16) (d:=some 23) rfl rfl (by kernel_rfl) (fun _ _ _ h=>h) (by rfl) (by intro _ h;(try dsimp only at h);go_split_ands;go_simp<;>with_reducible rfl) hHeld1 ?_
  try simp only [aS,aN,aT,a0,a1]
  refine tk (i:=17) (d:=some 24) rfl rfl (by kernel_rfl) (fun _ _ _ h=>h) (by rfl) (by intro _ h;(try dsimp only at h);go_split_ands;go_simp<;>with_reducible rfl) hHeld1 ?_
  try simp only [aS,aN,aT,a0,a1]
  refine rd1 (i:=18) (by kernel_rfl) rfl fun K hK=>?_
  go_simp
  have hbV:=hid (hb1.out.alloc hdZ)
  have hq0:(w1.alloc hdZ).heap[w1.heap.size]?=some (.cells #[.int .i64 0,.int .i64 0,.int .i64 0,.int .i64 0] 87 (0,0)):=blk_new _ _ _
  have hB0:=hb1.out.size
  obtain ⟨B,hBB⟩:∃B,B=w1.heap.size:=⟨_,rfl⟩
  rw [←hBB] at hq0 hB0
  simp only [←hBB]
  have hB:=hid hB0
  clear hBB hB0
  replace hq0:=hid hq0
  generalize w1.alloc hdZ=V at *
  refine hK.out _ _ (HT.out _ hbV.out) (fun hHeld2=>?_)
  try simp only [aS,aN,aT,a0,a1]
  refine rd1 (i:=19) (by kernel_rfl) rfl fun K hK=>?_
  have y0:V.cell? ⟨B,0,none⟩=some (.int .i64 0):=(cell_blk hq0.out).trans rfl
  have y1:V.cell? ⟨B,1,none⟩=some (.int .i64 0):=(cell_blk hq0.out).trans rfl
  have y2:V.cell? ⟨B,2,none⟩=some (.int .i64 0):=(cell_blk hq0.out).trans rfl
  have y3:V.cell? ⟨B,3,none⟩=some (.int .i64 0):=(cell_blk hq0.out).trans rfl
  have fz:=free_blk hq0.out
  have HV0:=hid hHeld2
  clear hHeld2
  go_simp
  have hV4:=hid (bl_four hbV.out hB.out (.int .i64 y.fr) (.int .i64 y.til) (.int .i64 y.pc) (.int .i64 y.cls))
  have hq4:=hid (set_four hq0.out (.int .i64 y.fr) (.int .i64 y.til) (.int .i64 y.pc) (.int .i64 y.cls))
  clear y0 y1 y2 y3 fz
  refine hK.out _ _ (HT.out _ hV4.out) (fun hHeld3=>?_)
  try simp only [aS,aN,aT,a0,a1]
  refine tk (i:=20) (d:=some 6) rfl rfl (by kernel_rfl) (fun _ _ _ h=>h) (by rfl) (by intro _ h;(try dsimp only at h);go_split_ands;go_simp<;>with_reducible rfl) hHeld3 ?_
  try simp only [aS,aN,aT,a0,a1]
  refine wpAnyH_done (by kernel_rfl) ?_ _
  obtain ⟨W4,hW4⟩:∃W4,W4=(((V.setCell ⟨B,0,none⟩ (.int .i64 y.fr)).setCell ⟨B,1,none⟩ (.int .i64 y.til)).setCell ⟨B,2,none⟩ (.int .i64 y.pc)).setCell ⟨B,3,none⟩ (.int .i64 y.cls):=⟨_,rfl⟩
  have hbw:Bl w W4:=by rw [hW4];exact HAL.out.trans hV4.out
  have hq4':W4.heap[B]?=some (.cells #[.int .i64 y.fr,.int .i64 y.til,.int .i64 y.pc,.int .i64 y.cls] 87 (0,0)):=by rw [hW4];exact hq4.out
  have hv4:W4.heap[w.heap.size]?=some (.cells #[.int .i64 (im v).kind,.int .i64 (im v).n] 109 (0,0)):=bl_blk (by rw [hW4];exact hV4.out) (blk_new w _ _)
  have hBw:Hid (w.heap.size≤B):=Nat.le_trans HAL.out.size hB.out
  rw [←hW4]
  clear hW4 hHeld3 hV4 hq4 HV0 hbV hq0
  clear V
  have HY:=HH.out.y.bl hbw
  obtain ⟨vs,c12,fz⟩:=HY.c12
  have HY5:=hid HY.clrs
  have e0:=c0_of hv4
  have e1:=c1_of hv4
  have hBl:=lt_some hq4'
  have hvl:=lt_some hv4
  have hneB:B≠a.q:=by have:=hBw.out;omega
  have hnev:w.heap.size≠a.q:=by omega
  have HQ4:=hid hq4'
  have HV4:=hid hv4
  have HBL:=hid hBl
  have HVL:=hid hvl
  clear HY hq4' hv4 hBl hvl hbw
  go_wp2_with fail
  go_at_call 95
  refine (HY5.out.useN (Bl.refl _) (fun X wx w H=>mput_no s X wx w0 g h qs a { c with stk:=[] } v w H HK3.out (Nat.zero_le _) (by have:=HRR.out;show ¬(sizP [v]:Int)≤c.m.stack;omega))).mono ?_
  rintro e w6 ⟨rfl,H6⟩
  exact ⟨rfl,rfl,H6.of rfl ⟨rfl,rfl⟩⟩
 ·go_simp
  refine hK.out _ _ (HT.out _ (hHeld0.1.out.alloc _)) (fun hHeld4=>?_)
  try simp only [aS,aN,aT,a0,a1]
  refine rd1 (i:=14) (by kernel_rfl) rfl fun K hK=>?_
  go_simp
  go_at_call 96
  refine (HHD.out _ (HAL.out.trans hHeld4.1.out)).mono ?_
  rintro e V ⟨b1,x,hx⟩
  have he:∃x:Hd,x.pc=h.caughtL c.pc c.m.hands∧e=.returned (.tuple #[.agg (hdC x),.bool true]):=by
   rcases hx with ⟨-,z,z2⟩|⟨z,-⟩
   ·exact ⟨x,z,z2⟩
   ·exact absurd z (by have:=HCL.out;omega)
  obtain ⟨y,hy,rfl⟩:=he
  replace hy:=hid hy
  clear hx
  unfold hdC
  have hbV:=hid (hHeld4.1.out.trans b1)
  have hq0:V.heap[w.heap.size+1]?=some (.cells #[.int .i64 0,.int .i64 0,.int .i64 0,.int .i64 0] 87 (0,0)):=bl_blk b1 (show _=_ from HZ.out)
  obtain ⟨B,hBB⟩:∃B,B=w.heap.size+1:=⟨_,rfl⟩
  rw [←hBB] at hq0
  simp only [←hBB]
  have hB:Hid ((w.alloc (mvO (im v))).heap.size≤B):=by show (w.alloc (mvO (im v))).heap.size≤B;rw [hBB,World.size_alloc];exact Nat.le_refl _
  clear hBB b1
  replace hq0:=hid hq0
  go_wp2_with fail
  refine hK.out _ _ (HT.out _ hbV.out) (fun hHeld5=>?_)
  try simp only [aS,aN,aT,a0,a1]
  refine tk (i:=15) (d:=some 7) rfl rfl (by kernel_rfl) (fun _ _ _ h=>h) (by rfl) (by intro _ h;(try dsimp only at h);go_split_ands;go_simp<;>with_reducible rfl) hHeld5 ?_
  try simp only [aS,aN,aT,a0,a1]
  refine tk (i:=16) (d:=some 23) rfl rfl (by kernel_rfl) (fun _ _ _ h=>h) (by rfl) (by intro _ h;(try dsimp only at h);go_split_ands;go_simp<;>with_reducible rfl) hHeld5 ?_
  try simp only [aS,aN,aT,a0,a1]
  refine tk (i:=17) (d:=some 24) rfl rfl (by kernel_rfl) (fun _ _ _ h=>h) (by rfl) (by intro _ h;(try dsimp only at h);go_split_ands;go_simp<;>with_reducible rfl) hHeld5 ?_
  try simp only [aS,aN,aT,a0,a1]
  refine rd1 (i:=19) (by kernel_rfl) rfl fun K hK=>?_
  have y0:V.cell? ⟨B,0,none⟩=some (.int .i64 0):=(cell_blk hq0.out).trans rfl
  have y1:V.cell? ⟨B,1,none⟩=some (.int .i64 0):=(cell_blk hq0.out).trans rfl
  have y2:V.cell? ⟨B,2,none⟩=some (.int .i64 0):=(cell_blk hq0.out).trans rfl
  have y3:V.cell? ⟨B,3,none⟩=some (.int .i64 0):=(cell_blk hq0.out).trans rfl
  have fz:=free_blk hq0.out
  have HV0:=hid hHeld5
  clear hHeld5
  go_simp
  have hV4:=hid (bl_four hbV.out hB.out (.int .i64 y.fr) (.int .i64 y.til) (.int .i64 y.pc) (.int .i64 y.cls))
  have hq4:=hid (set_four hq0.out (.int .i64 y.fr) (.int .i64 y.til) (.int .i64 y.pc) (.int .i64 y.cls))
  clear y0 y1 y2 y3 fz
  refine hK.out _ _ (HT.out _ hV4.out) (fun hHeld6=>?_)
  try simp only [aS,aN,aT,a0,a1]
  refine tk (i:=20) (d:=some 6) rfl rfl (by kernel_rfl) (fun _ _ _ h=>h) (by rfl) (by intro _ h;(try dsimp only at h);go_split_ands;go_simp<;>with_reducible rfl) hHeld6 ?_
  try simp only [aS,aN,aT,a0,a1]
  refine wpAnyH_done (by kernel_rfl) ?_ _
  obtain ⟨W4,hW4⟩:∃W4,W4=(((V.setCell ⟨B,0,none⟩ (.int .i64 y.fr)).setCell ⟨B,1,none⟩ (.int .i64 y.til)).setCell ⟨B,2,none⟩ (.int .i64 y.pc)).setCell ⟨B,3,none⟩ (.int .i64 y.cls):=⟨_,rfl⟩
  have hbw:Bl w W4:=by rw [hW4];exact HAL.out.trans hV4.out
  have hq4':W4.heap[B]?=some (.cells #[.int .i64 y.fr,.int .i64 y.til,.int .i64 y.pc,.int .i64 y.cls] 87 (0,0)):=by rw [hW4];exact hq4.out
  have hv4:W4.heap[w.heap.size]?=some (.cells #[.int .i64 (im v).kind,.int .i64 (im v).n] 109 (0,0)):=bl_blk (by rw [hW4];exact hV4.out) (blk_new w _ _)
  have hBw:Hid (w.heap.size≤B):=Nat.le_trans HAL.out.size hB.out
  rw [←hW4]
  clear hW4 hHeld6 hV4 hq4 HV0 hbV hq0
  clear V
  have HY:=HH.out.y.bl hbw
  obtain ⟨vs,c12,fz⟩:=HY.c12
  have HY5:=hid HY.clrs
  have e0:=c0_of hv4
  have e1:=c1_of hv4
  have hBl:=lt_some hq4'
  have hvl:=lt_some hv4
  have hneB:B≠a.q:=by have:=hBw.out;omega
  have hnev:w.heap.size≠a.q:=by omega
  have HQ4:=hid hq4'
  have HV4:=hid hv4
  have HBL:=hid hBl
  have HVL:=hid hvl
  clear HY hq4' hv4 hBl hvl hbw
  go_wp2_with fail
  go_at_call 95
  refine (HY5.out.useN (Bl.refl _) (fun X wx w H=>mput_no s X wx w0 g h qs a { c with stk:=[] } v w H HK3.out (Nat.zero_le _) (by have:=HRR.out;show ¬(sizP [v]:Int)≤c.m.stack;omega))).mono ?_
  rintro e w6 ⟨rfl,H6⟩
  exact ⟨rfl,rfl,H6.of rfl ⟨rfl,rfl⟩⟩
end Go.Proofs.Ytgiiapenmjollaa
