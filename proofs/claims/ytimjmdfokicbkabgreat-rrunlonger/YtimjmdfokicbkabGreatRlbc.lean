import Derived.Test.YtimjmdfokicbkabGreatRlaj
import Derived.Test.YtimjmdfokicbkabGreatRlbb
namespace Go.Proofs.YtimjmdfokicbkabGreat
set_option linter.unusedVariables false
set_option linter.unusedSimpArgs false
set_option maxHeartbeats 40000000
open Go.RowKit
set_option maxRecDepth 100000 in
theorem shown_thr (n:Nat) (CL:Int) (g:Mg) (h:Hp) (Ax:Option Addr) (nx cx:Nat) (w:World) (R:HRd w g h) (hn:n<h.objs.length) (hC:(nth ob0 h.objs n).cls=CL) (r0:w.cell? ⟨g.r,0,none⟩=some (.pointer (some ⟨g.hb,0,none⟩))) (r6:w.cell? ⟨g.r,6,none⟩=some (.int .i64 h.sh.steps)) (r7:w.cell? ⟨g.r,7,none⟩=some (.int .i64 h.sh.used)) (r8:w.cell? ⟨g.r,8,none⟩=some (.slice Ax nx cx)) :
  Calls Tryz.prog 21 #[.pointer (some ⟨g.r,0,none⟩),.agg #[.int .i64 2,.int .i64 3,.int .i64 ((n:Int)+1)]] w fun e w'=>e=.returned (.agg #[.int .i64 2,.int .i64 0,.int .i64 CL,.slice Ax nx cx,.int .i64 h.sh.used,.int .i64 h.sh.steps])∧Bl w w':=by
 have HAL:Hid (Bl w ((w.alloc (stO 2 3 ((n:Int)+1))).alloc shMZ)):=((Bl.refl w).alloc _).alloc _
 have HT:Hid (∀w',Bl ((w.alloc (stO 2 3 ((n:Int)+1))).alloc shMZ) w'→(fun w'=>Hid (Bl ((w.alloc (stO 2 3 ((n:Int)+1))).alloc shMZ) w')∧w'.cell? ⟨w.heap.size,0,none⟩=some (.int .i64 2)∧w'.cell? ⟨w.heap.size,1,none⟩=some (.int .i64 3)∧w'.cell? ⟨w.heap.size,2,none⟩=some (.int .i64 ((n:Int)+1))∧w'.cell? ⟨g.r,0,none⟩=some (.pointer (some ⟨g.hb,0,none⟩))∧w'.cell? ⟨g.r,6,none⟩=some (.int .i64 h.sh.steps)∧w'.cell? ⟨g.r,7,none⟩=some (.int .i64 h.sh.used)∧w'.cell? ⟨g.r,8,none⟩=some (.slice Ax nx cx)) w'):=fun w' hb=>by
  have hb2:=HAL.out.trans hb
  have hb3:Bl (w.alloc (stO 2 3 ((n:Int)+1))) w':=((Bl.refl _).alloc _).trans hb
  exact ⟨hb,hb3.cell (cell_of_new rfl),hb3.cell (cell_of_new rfl),hb3.cell (cell_of_new rfl),hb2.cell r0,hb2.cell r6,hb2.cell r7,hb2.cell r8⟩
 have HT3:Hid (∀w',Bl (w.alloc (stO 2 3 ((n:Int)+1))) w'→(fun w'=>Hid (Bl (w.alloc (stO 2 3 ((n:Int)+1))) w')∧w'.cell? ⟨w.heap.size,1,none⟩=some (.int .i64 3)∧w'.cell? ⟨w.heap.size,2,none⟩=some (.int .i64 ((n:Int)+1))∧w'.cell? ⟨g.r,0,none⟩=some (.pointer (some ⟨g.hb,0,none⟩))) w'):=fun w' hb =>
  ⟨hb,hb.cell (cell_of_new rfl),hb.cell (cell_of_new rfl),(((Bl.refl w).alloc _).trans hb).cell r0⟩
 have HCL:Hid (∀w',Bl (w.alloc (stO 2 3 ((n:Int)+1))) w'→Calls Tryz.prog 46 #[.pointer (some ⟨g.hb,0,none⟩),mvV ⟨3,(n:Int)+1⟩] w' fun e w2=>e=.returned (.int .i64 CL)∧Bl w' w2):=fun w' hb=>by
  have:=classOf_any g h n w' (R.bl (((Bl.refl w).alloc _).trans hb)) hn
  rw [hC] at this
  exact this
 clear r0 r6 r7 r8 R hC hn
 go_enter Tryz.func21,Tryz.ntmps21
 go_wp2
 refine wp_region_held_drew (S:=fun w'=>Hid (Bl ((w.alloc (stO 2 3 ((n:Int)+1))).alloc shMZ) w')∧w'.cell? ⟨w.heap.size,0,none⟩=some (.int .i64 2)∧w'.cell? ⟨w.heap.size,1,none⟩=some (.int .i64 3)∧w'.cell? ⟨w.heap.size,2,none⟩=some (.int .i64 ((n:Int)+1))∧w'.cell? ⟨g.r,0,none⟩=some (.pointer (some ⟨g.hb,0,none⟩))∧w'.cell? ⟨g.r,6,none⟩=some (.int .i64 h.sh.steps)∧w'.cell? ⟨g.r,7,none⟩=some (.int .i64 h.sh.used)∧w'.cell? ⟨g.r,8,none⟩=some (.slice Ax nx cx)) (by kernel_rfl) ?_ (fun hHeld0=>?_)
 ·exact HT.out _ (Bl.refl _).drew
 refine tk (i:=0) (d:=some 6) rfl rfl (by kernel_rfl) (fun _ _ _ h=>h) (by rfl) (by intro _ h;(try dsimp only at h);go_split_ands;go_simp<;>with_reducible rfl) hHeld0 ?_
 try simp only [aS,aN,aT,a0,a1]
 refine tk (i:=1) (d:=some 7) rfl rfl (by kernel_rfl) (fun _ _ _ h=>h) (by rfl) (by intro _ h;(try dsimp only at h);go_split_ands;go_simp<;>with_reducible rfl) hHeld0 ?_
 try simp only [aS,aN,aT,a0,a1]
 refine tk (i:=2) (d:=some 8) rfl rfl (by kernel_rfl) (fun _ _ _ h=>h) (by rfl) (by intro _ h;(try dsimp only at h);go_split_ands;go_simp<;>with_reducible rfl) hHeld0 ?_
 try simp only [aS,aN,aT,a0,a1]
 refine tk (i:=3) (d:=some 9) rfl rfl (by kernel_rfl) (fun _ _ _ h=>h) (by rfl) (by intro _ h;(try dsimp only at h);go_split_ands;go_simp<;>with_reducible rfl) hHeld0 ?_
 try simp only [aS,aN,aT,a0,a1]
 refine tk (i:=4) (d:=some 10) rfl rfl (by kernel_rfl) (fun _ _ _ h=>h) (by rfl) (by intro _ h;(try dsimp only at h);go_split_ands;go_simp<;>with_reducible rfl) hHeld0 ?_
 try simp only [aS,aN,aT,a0,a1]
 refine tk (i:=5) (d:=some 11) rfl rfl (by kernel_rfl) (fun _ _ _ h=>h) (by rfl) (by intro _ h;(try dsimp only at h);go_split_ands;go_simp<;>with_reducible rfl) hHeld0 ?_
 try simp only [aS,aN,aT,a0,a1]
 refine tk (i:=6) (d:=some 12) rfl rfl (by kernel_rfl) (fun _ _ _ h=>h) (by rfl) (by intro _ h;(try dsimp only at h);go_split_ands;go_simp<;>with_reducible rfl) hHeld0 ?_
 try simp only [aS,aN,aT,a0,a1]
 refine tk (i:=7) (d:=some 13) rfl rfl (by kernel_rfl) (fun _ _ _ h=>h) (by rfl) (by intro _ h;(try dsimp only at h);go_split_ands;go_simp<;>with_reducible rfl) hHeld0 ?_
 try simp only [aS,aN,aT,a0,a1]
 refine tk (i:=8) (d:=some 14) rfl rfl (by kernel_rfl) (fun _ _ _ h=>h) (by rfl) (by intro _ h;(try dsimp only at h);go_split_ands;go_simp<;>with_reducible rfl) hHeld0 ?_
 try simp only [aS,aN,aT,a0,a1]
 refine tk (i:=9) (d:=some 15) rfl rfl (by kernel_rfl) (fun _ _ _ h=>h) (by rfl) (by intro _ h;(try dsimp only at h);go_split_ands;go_simp<;>with_reducible rfl) hHeld0 ?_
 try simp only [aS,aN,aT,a0,a1]
 refine tk (i:=10) (d:=some 16) rfl rfl (by kernel_rfl) (fun _ _ _ h=>h) (by rfl) (by intro _ h;(try dsimp only at h);go_split_ands;go_simp<;>with_reducible rfl) hHeld0 ?_
 try simp only [aS,aN,aT,a0,a1]
 refine tk (i:=11) (d:=some 17) rfl rfl (by kernel_rfl) (fun _ _ _ h=>h) (by rfl) (by intro _ h;(try dsimp only at h);go_split_ands;go_simp<;>with_reducible rfl) hHeld0 ?_
 try simp only [aS,aN,aT,a0,a1]
 refine tk (i:=12) (d:=some 18) rfl rfl (by kernel_rfl) (fun _ _ _ h=>h) (by rfl) (by intro _ h;(try dsimp only at h);go_split_ands;go_simp<;>with_reducible rfl) hHeld0 ?_
 try simp only [aS,aN,aT,a0,a1]
 refine tk (i:=13) (d:=some 19) rfl rfl (by kernel_rfl) (fun _ _ _ h=>h) (by rfl) (by intro _ h;(try dsimp only at h);go_split_ands;go_simp<;>with_reducible rfl) hHeld0 ?_
 try simp only [aS,aN,aT,a0,a1]
 refine tk (i:=14) (d:=some 20) rfl rfl (by kernel_rfl) (fun _ _ _ h=>h) (by rfl) (by intro _ h;(try dsimp only at h);go_split_ands;go_simp<;>with_reducible rfl) hHeld0 ?_
 try simp only [aS,aN,aT,a0,a1]
 refine rd1 (i:=15) (by kernel_rfl) rfl fun K hK=>?_
 go_simp
 refine hK.out _ _ (HT.out _ (hHeld0.1.out.alloc _)) (fun hHeld1=>?_)
 try simp only [aS,aN,aT,a0,a1]
 refine rd1 (i:=16) (by kernel_rfl) rfl fun K hK=>?_
 go_simp
 refine hK.out _ _ (HT.out _ ((Bl.refl _).alloc _).drew) (fun hHeld2=>?_)
 try simp only [aS,aN,aT,a0,a1]
 refine wpAnyH_done (by kernel_rfl) ?_ _
 obtain ⟨V,hV⟩:∃V,V=(((w.alloc (stO 2 3 ((n:Int)+1))).alloc shMZ).alloc (.cells #[.int .i64 2,.int .i64 0,.int .i64 0,.slice Ax nx cx,.int .i64 h.sh.used,.int .i64 h.sh.steps] 28)).drew:=⟨_,rfl⟩
 have hbV:Bl w V:=by rw [hV];exact (HAL.out.alloc _).drew
 obtain ⟨L0,L1⟩:=two_lie (w.alloc (stO 2 3 ((n:Int)+1))) #[.int .i64 0,.int .i64 0,.int .i64 0,.slice none 0 0,.int .i64 0,.int .i64 0] #[.int .i64 2,.int .i64 0,.int .i64 0,.slice Ax nx cx,.int .i64 h.sh.used,.int .i64 h.sh.steps] 28 28
 rw [World.size_alloc] at L0 L1
 have qz:V.heap[w.heap.size+1]?=some (.cells #[.int .i64 0,.int .i64 0,.int .i64 0,.slice none 0 0,.int .i64 0,.int .i64 0] 28 (0,0)):=by rw [hV];exact L0
 have qv:V.heap[w.heap.size+1+1]?=some (.cells #[.int .i64 2,.int .i64 0,.int .i64 0,.slice Ax nx cx,.int .i64 h.sh.used,.int .i64 h.sh.steps] 28 (0,0)):=by rw [hV];exact L1
 have qs:V.heap[w.heap.size]?=some (.cells #[.int .i64 2,.int .i64 3,.int .i64 ((n:Int)+1)] 76 (0,0)):=by rw [hV];exact bl_blk ((((Bl.refl _).alloc _).alloc _).drew) (blk_new w _ _)
 have hb1V:Bl (w.alloc (stO 2 3 ((n:Int)+1))) V:=by rw [hV];exact (((Bl.refl _).alloc _).alloc _).drew
 rw [←hV]
 clear hV L0 L1 hHeld2 hHeld0 hHeld1
 have s0:V.cell? ⟨w.heap.size,0,none⟩=some (.int .i64 2):=(cell_blk qs).trans rfl
 have s1:V.cell? ⟨w.heap.size,1,none⟩=some (.int .i64 3):=(cell_blk qs).trans rfl
 have s2:V.cell? ⟨w.heap.size,2,none⟩=some (.int .i64 ((n:Int)+1)):=(cell_blk qs).trans rfl
 have HB1V:Hid (Bl (w.alloc (stO 2 3 ((n:Int)+1))) V):=hb1V
 replace qz:=hid qz
 replace qv:=hid qv
 replace qs:=hid qs
 replace hbV:=hid hbV
 clear hb1V
 go_wp2
 refine wp_region_held_drew (S:=fun w'=>Hid (Bl (w.alloc (stO 2 3 ((n:Int)+1))) w')∧w'.cell? ⟨w.heap.size,1,none⟩=some (.int .i64 3)∧w'.cell? ⟨w.heap.size,2,none⟩=some (.int .i64 ((n:Int)+1))∧w'.cell? ⟨g.r,0,none⟩=some (.pointer (some ⟨g.hb,0,none⟩))) (by kernel_rfl) ?_ (fun hHeld0=>?_)
 ·exact HT3.out _ HB1V.out.drew
 refine tk (i:=0) (d:=some 25) rfl rfl (by kernel_rfl) (fun _ _ _ h=>h) (by rfl) (by intro _ h;(try dsimp only at h);go_split_ands;go_simp<;>with_reducible rfl) hHeld0 ?_
 try simp only [aS,aN,aT,a0,a1]
 refine tk (i:=1) (d:=some 26) rfl rfl (by kernel_rfl) (fun _ _ _ h=>h) (by rfl) (by intro _ h;(try dsimp only at h);go_split_ands;go_simp<;>with_reducible rfl) hHeld0 ?_
 try simp only [aS,aN,aT,a0,a1]
 refine tk (i:=2) (d:=some 27) rfl rfl (by kernel_rfl) (fun _ _ _ h=>h) (by rfl) (by intro _ h;(try dsimp only at h);go_split_ands;go_simp<;>with_reducible rfl) hHeld0 ?_
 try simp only [aS,aN,aT,a0,a1]
 refine tk (i:=3) (d:=some 28) rfl rfl (by kernel_rfl) (fun _ _ _ h=>h) (by rfl) (by intro _ h;(try dsimp only at h);go_split_ands;go_simp<;>with_reducible rfl) hHeld0 ?_
 try simp only [aS,aN,aT,a0,a1]
 refine tk (i:=4) (d:=some 29) rfl rfl (by kernel_rfl) (fun _ _ _ h=>h) (by rfl) (by intro _ h;(try dsimp only at h);go_split_ands;go_simp<;>with_reducible rfl) hHeld0 ?_
 try simp only [aS,aN,aT,a0,a1]
 refine tk (i:=5) (d:=some 30) rfl rfl (by kernel_rfl) (fun _ _ _ h=>h) (by rfl) (by intro _ h;(try dsimp only at h);go_split_ands;go_simp<;>with_reducible rfl) hHeld0 ?_
 try simp only [aS,aN,aT,a0,a1]
 refine rd1 (i:=6) (by kernel_rfl) rfl fun K hK=>?_
 go_simp
 go_at_call 46
 refine (HCL.out _ HB1V.out.drew).mono ?_
 rintro e w3 ⟨rfl,b3⟩
 have B3:Hid (Bl V w3):=(Bl.refl V).drew.trans b3
 have hv3:=bl_blk B3.out qv.out
 have fv3:=free_blk hv3
 have yy2:w3.cell? ⟨w.heap.size+1+1,2,none⟩=some (.int .i64 0):=(cell_blk hv3).trans rfl
 replace hv3:=hid hv3
 clear b3
 go_wp2_with fail
 refine hK.out _ _ (HT3.out _ (HB1V.out.trans B3.out)) (fun hHeld1=>?_)
 try simp only [aS,aN,aT,a0,a1]
 refine tk (i:=7) (d:=some 32) rfl rfl (by kernel_rfl) (fun _ _ _ h=>h) (by rfl) (by intro _ h;(try dsimp only at h);go_split_ands;go_simp<;>with_reducible rfl) hHeld1 ?_
 try simp only [aS,aN,aT,a0,a1]
 refine rd1 (i:=8) (by kernel_rfl) rfl fun K hK=>?_
 go_simp
 refine hK.out _ _ (HT3.out _ ((HB1V.out.trans B3.out).setCell (p:=⟨w.heap.size+1+1,2,none⟩) (by simp) _)) (fun hHeld2=>?_)
 try simp only [aS,aN,aT,a0,a1]
 refine wpAnyH_done (by kernel_rfl) ?_ _
 obtain ⟨V2,hV2⟩:∃V2,V2=w3.setCell ⟨w.heap.size+1+1,2,none⟩ (.int .i64 CL):=⟨_,rfl⟩
 have qv2:V2.heap[w.heap.size+1+1]?=some (.cells #[.int .i64 2,.int .i64 0,.int .i64 CL,.slice Ax nx cx,.int .i64 h.sh.used,.int .i64 h.sh.steps] 28 (0,0)):=by rw [hV2,block_set hv3.out];rfl
 have qz2:V2.heap[w.heap.size+1]?=some (.cells #[.int .i64 0,.int .i64 0,.int .i64 0,.slice none 0 0,.int .i64 0,.int .i64 0] 28 (0,0)):=by rw [hV2,block_far (by omega)];exact bl_blk B3.out qz.out
 have hb2:Bl w V2:=by rw [hV2];exact (hbV.out.trans B3.out).setCell (p:=⟨w.heap.size+1+1,2,none⟩) (by show w.heap.size≤w.heap.size+1+1;omega) _
 rw [←hV2]
 clear hV2 hHeld0 hHeld1 hHeld2
 have y0:V2.cell? ⟨w.heap.size+1+1,0,none⟩=some (.int .i64 2):=(cell_blk qv2).trans rfl
 have y1:V2.cell? ⟨w.heap.size+1+1,1,none⟩=some (.int .i64 0):=(cell_blk qv2).trans rfl
 have y2:V2.cell? ⟨w.heap.size+1+1,2,none⟩=some (.int .i64 CL):=(cell_blk qv2).trans rfl
 have y3:V2.cell? ⟨w.heap.size+1+1,3,none⟩=some (.slice Ax nx cx):=(cell_blk qv2).trans rfl
 have y4:V2.cell? ⟨w.heap.size+1+1,4,none⟩=some (.int .i64 h.sh.used):=(cell_blk qv2).trans rfl
 have y5:V2.cell? ⟨w.heap.size+1+1,5,none⟩=some (.int .i64 h.sh.steps):=(cell_blk qv2).trans rfl
 have z0:V2.cell? ⟨w.heap.size+1,0,none⟩=some (.int .i64 0):=(cell_blk qz2).trans rfl
 have z1:V2.cell? ⟨w.heap.size+1,1,none⟩=some (.int .i64 0):=(cell_blk qz2).trans rfl
 have z2:V2.cell? ⟨w.heap.size+1,2,none⟩=some (.int .i64 0):=(cell_blk qz2).trans rfl
 have z3:V2.cell? ⟨w.heap.size+1,3,none⟩=some (.slice none 0 0):=(cell_blk qz2).trans rfl
 have z4:V2.cell? ⟨w.heap.size+1,4,none⟩=some (.int .i64 0):=(cell_blk qz2).trans rfl
 have z5:V2.cell? ⟨w.heap.size+1,5,none⟩=some (.int .i64 0):=(cell_blk qz2).trans rfl
 have fv:=free_blk qv2
 have fr:=free_blk qz2
 have n1:w.heap.size+1+1≠w.heap.size+1:=by omega
 have n2:w.heap.size+1≠w.heap.size+1+1:=by omega
 replace qz2:=hid qz2
 replace qv2:=hid qv2
 replace hb2:=hid hb2
 go_wp2
 refine bodyPost_ret (results_cell_row rfl _ _ (w.heap.size+1) _ _ _ _ rfl (set_six6 qz2.out _ _ _ _ _ _) Tryz.underlying28 rfl info_shm) rfl ?_
 exact ⟨rfl,bl_six6 hb2.out (Nat.le_succ _) _ _ _ _ _ _⟩
theorem RX.c0910 {s:Nat} {X:Nat→Prop} {wx w0 w:World} {g:Mg} {h:Hp} {qs:List Qb} {a:Mc} {c:Cal} (H:RX s X wx w0 g w h qs a c):w.cell? ⟨a.q,0,none⟩=some (.pointer (some ⟨g.hb,0,none⟩))∧w.cell? ⟨a.q,9,none⟩=some (.slice a.K c.m.hands.length a.k)∧w.cell? ⟨a.q,11,none⟩=some (.int .i64 c.pc):=by
 obtain ⟨vc,vo,vx,vs,l,H⟩:=H
 refine ⟨?_,?_,?_⟩<;>(rw [cell_blk H.ca.blk];rfl)
set_option maxRecDepth 100000 in
theorem catch_no (s:Nat) (X:Nat→Prop) (wx w0:World) (g:Mg) (h:Hp) (qs:List Qb) (a:Mc) (c:Cal) (v:Va) (w:World) (H:RX s X wx w0 g w h qs a c) (F:Fix w0 g h) (hf:h.objs.length≤100) (hv:v.kind=3) (h0:0≤v.n) (hn:v.n<h.objs.length) (ht:h.thrown=v.n) (hok:∀q,q<c.m.hands.length→0≤(nth hd0 c.m.hands q).fr∧(nth hd0 c.m.hands q).til≤3000∧0≤(nth hd0 c.m.hands q).til∧0≤(nth hd0 c.m.hands q).pc) (hpc:0≤c.pc∧c.pc≤3000) (hcl:h.caughtL c.pc c.m.hands<0) :
  Calls Tryz.prog 16 #[.pointer (some ⟨a.q,0,none⟩),mvV (im v)] w fun e w'=>e=.returned (.bool false)∧RX s X wx w0 g w' h qs a c:=by
 have HH:=hid H
 have HAL:Hid (Bl w (w.alloc (mvO (im v)))):=(Bl.refl w).alloc _
 have HHD:Hid (∀w',Bl w w'→Calls Tryz.prog 39 #[.pointer (some ⟨g.hb,0,none⟩),.slice a.K c.m.hands.length a.k,.int .i64 c.pc,mvV (im v)] w' fun e w2=>HdQ h c.pc c.m.hands w' e w2):=fun w' hb=>by
  have H':=H.bl hb
  obtain ⟨vc,vo,vx,vs,l,HA⟩:=H'
  exact handler_any g h v c.m.hands a.K a.k c.pc w' (HA.rh.rd F hf) (HA.ca.me.2.2.1.bl HA.rh.bl) hv h0 hn ht hok hpc
 obtain ⟨k0,k9,k10⟩:=H.c0910
 have HT:Hid (∀w',Bl (w.alloc (mvO (im v))) w'→(fun w'=>Hid (Bl (w.alloc (mvO (im v))) w')∧w'.cell? ⟨a.q,0,none⟩=some (.pointer (some ⟨g.hb,0,none⟩))∧w'.cell? ⟨a.q,9,none⟩=some (.slice a.K c.m.hands.length a.k)∧w'.cell? ⟨a.q,11,none⟩=some (.int .i64 c.pc)∧w'.cell? ⟨w.heap.size,0,none⟩=some (.int .i64 (im v).kind)∧w'.cell? ⟨w.heap.size,1,none⟩=some (.int .i64 (im v).n)) w'):=fun w' hb=>by
  have hb2:=HAL.out.trans hb
  exact ⟨hb,hb2.cell k0,hb2.cell k9,hb2.cell k10,hb.cell (cell_of_new rfl),hb.cell (cell_of_new rfl)⟩
 have HCL:=hid hcl
 have HZ:Hid (((w.alloc (mvO (im v))).alloc hdZ).heap[w.heap.size+1]?=some (.cells #[.int .i64 0,.int .i64 0,.int .i64 0,.int .i64 0] 97 (0,0))):=by
  have:=blk_new (w.alloc (mvO (im v))) #[.int .i64 0,.int .i64 0,.int .i64 0,.int .i64 0] 97
  rwa [World.size_alloc] at this
 have hq:=H.qlt
 clear H F hf hv h0 hn ht hok hpc hcl k0 k9 k10
 go_enter Tryz.func16,Tryz.ntmps16
 go_wp2
 refine wp_region_held_drew (S:=fun w'=>Hid (Bl (w.alloc (mvO (im v))) w')∧w'.cell? ⟨a.q,0,none⟩=some (.pointer (some ⟨g.hb,0,none⟩))∧w'.cell? ⟨a.q,9,none⟩=some (.slice a.K c.m.hands.length a.k)∧w'.cell? ⟨a.q,11,none⟩=some (.int .i64 c.pc)∧w'.cell? ⟨w.heap.size,0,none⟩=some (.int .i64 (im v).kind)∧w'.cell? ⟨w.heap.size,1,none⟩=some (.int .i64 (im v).n)) (by kernel_rfl) ?_ (fun hHeld0=>?_)
 ·exact HT.out _ (Bl.refl _).drew
 refine tk (i:=0) (d:=some 8) rfl rfl (by kernel_rfl) (fun _ _ _ h=>h) (by rfl) (by intro _ h;(try dsimp only at h);go_split_ands;go_simp<;>with_reducible rfl) hHeld0 ?_
 try simp only [aS,aN,aT,a0,a1]
 refine tk (i:=1) (d:=some 9) rfl rfl (by kernel_rfl) (fun _ _ _ h=>h) (by rfl) (by intro _ h;(try dsimp only at h);go_split_ands;go_simp<;>with_reducible rfl) hHeld0 ?_
 try simp only [aS,aN,aT,a0,a1]
 refine tk (i:=2) (d:=some 10) rfl rfl (by kernel_rfl) (fun _ _ _ h=>h) (by rfl) (by intro _ h;(try dsimp only at h);go_split_ands;go_simp<;>with_reducible rfl) hHeld0 ?_
 try simp only [aS,aN,aT,a0,a1]
 refine tk (i:=3) (d:=some 11) rfl rfl (by kernel_rfl) (fun _ _ _ h=>h) (by rfl) (by intro _ h;(try dsimp only at h);go_split_ands;go_simp<;>with_reducible rfl) hHeld0 ?_
 try simp only [aS,aN,aT,a0,a1]
 refine tk (i:=4) (d:=some 12) rfl rfl (by kernel_rfl) (fun _ _ _ h=>h) (by rfl) (by intro _ h;(try dsimp only at h);go_split_ands;go_simp<;>with_reducible rfl) hHeld0 ?_
 try simp only [aS,aN,aT,a0,a1]
 refine tk (i:=5) (d:=some 13) rfl rfl (by kernel_rfl) (fun _ _ _ h=>h) (by rfl) (by intro _ h;(try dsimp only at h);go_split_ands;go_simp<;>with_reducible rfl) hHeld0 ?_
 try simp only [aS,aN,aT,a0,a1]
 refine tk (i:=6) (d:=some 14) rfl rfl (by kernel_rfl) (fun _ _ _ h=>h) (by rfl) (by intro _ h;(try dsimp only at h);go_split_ands;go_simp<;>with_reducible rfl) hHeld0 ?_
 try simp only [aS,aN,aT,a0,a1]
 refine tk (i:=7) (d:=some 15) rfl rfl (by kernel_rfl) (fun _ _ _ h=>h) (by rfl) (by intro _ h;(try dsimp only at h);go_split_ands;go_simp<;>with_reducible rfl) hHeld0 ?_
 try simp only [aS,aN,aT,a0,a1]
 refine tk (i:=8) (d:=some 16) rfl rfl (by kernel_rfl) (fun _ _ _ h=>h) (by rfl) (by intro _ h;(try dsimp only at h);go_split_ands;go_simp<;>with_reducible rfl) hHeld0 ?_
 try simp only [aS,aN,aT,a0,a1]
 refine tk (i:=9) (d:=some 17) rfl rfl (by kernel_rfl) (fun _ _ _ h=>h) (by rfl) (by intro _ h;(try dsimp only at h);go_split_ands;go_simp<;>with_reducible rfl) hHeld0 ?_
 try simp only [aS,aN,aT,a0,a1]
 refine tk (i:=10) (d:=some 18) rfl rfl (by kernel_rfl) (fun _ _ _ h=>h) (by rfl) (by intro _ h;(try dsimp only at h);go_split_ands;go_simp<;>with_reducible rfl) hHeld0 ?_
 try simp only [aS,aN,aT,a0,a1]
 refine tk (i:=11) (d:=some 19) rfl rfl (by kernel_rfl) (fun _ _ _ h=>h) (by rfl) (by intro _ h;(try dsimp only at h);go_split_ands;go_simp<;>with_reducible rfl) hHeld0 ?_
 try simp only [aS,aN,aT,a0,a1]
 refine tk (i:=12) (d:=some 20) rfl rfl (by kernel_rfl) (fun _ _ _ h=>h) (by rfl) (by intro _ h;(try dsimp only at h);go_split_ands;go_simp<;>with_reducible rfl) hHeld0 ?_
 try simp only [aS,aN,aT,a0,a1]
 refine tk (i:=13) (d:=some 21) rfl rfl (by kernel_rfl) (fun _ _ _ h=>h) (by rfl) (by intro _ h;(try dsimp only at h);go_split_ands;go_simp<;>with_reducible rfl) hHeld0 ?_
 try simp only [aS,aN,aT,a0,a1]
 refine tk (i:=14) (d:=some 22) rfl rfl (by kernel_rfl) (fun _ _ _ h=>h) (by rfl) (by intro _ h;(try dsimp only at h);go_split_ands;go_simp<;>with_reducible rfl) hHeld0 ?_
 try simp only [aS,aN,aT,a0,a1]
 refine wpAnyH_ready (rs:=[15,19]) (by kernel_rfl) (by simp) ?_
 refine AllReadyH.cons rfl (fun K hK=>?_) (AllReadyH.cons rfl (fun K hK=>?_) (AllReadyH.nil))
 ·go_simp
  go_at_call 39
  refine (HHD.out _ (HAL.out.trans hHeld0.1.out)).mono ?_
  rintro e w1 ⟨b1,x,hx⟩
  have he:∃x:Hd,e=.returned (.tuple #[.agg (hdC x),.bool false]):=by
   rcases hx with ⟨z,-⟩|⟨-,z⟩
   ·exact absurd z (by have:=HCL.out;omega)
   ·exact ⟨x,z⟩
  obtain ⟨y,rfl⟩:=he
  clear hx
  unfold hdC
  have hb1:=hid (hHeld0.1.out.trans b1)
  clear b1
  go_wp2_with fail
  refine hK.out _ _ (HT.out _ hb1.out) (fun hHeld1=>?_)
  try simp only [aS,aN,aT,a0,a1]
  refine tk (i:=16) (d:=some 7) rfl rfl (by kernel_rfl) (fun _ _ _ h=>h) (by rfl) (by intro _ h;(try dsimp only at h);go_split_ands;go_simp<;>with_reducible rfl) hHeld1 ?_
  try simp only [aS,aN,aT,a0,a1]
  refine tk (i:=17) (d:=some 24) rfl rfl (by kernel_rfl) (fun _ _ _ h=>h) (by rfl) (by intro _ h;(try dsimp only at h);go_split_ands;go_simp<;>with_reducible rfl) hHeld1 ?_
  try simp only [aS,aN,aT,a0,a1]
  refine tk (i:=18) (d:=some 25) rfl rfl (by kernel_rfl) (fun _ _ _ h=>h) (by rfl) (by intro _ h;(try dsimp only at h);go_split_ands;go_simp<;>with_reducible rfl) hHeld1 ?_
  try simp only [aS,aN,aT,a0,a1]
  refine rd1 (i:=19) (by kernel_rfl) rfl fun K hK=>?_
  go_simp
  have hbV:=hid (hb1.out.alloc hdZ)
  have hq0:(w1.alloc hdZ).heap[w1.heap.size]?=some (.cells #[.int .i64 0,.int .i64 0,.int .i64 0,.int .i64 0] 97 (0,0)):=blk_new _ _ _
  have hB0:=hb1.out.size
  obtain ⟨B,hBB⟩:∃B,B=w1.heap.size:=⟨_,rfl⟩
  rw [←hBB] at hq0 hB0
  simp only [←hBB]
  have hB:=hid hB0
  clear hBB hB0
  replace hq0:=hid hq0
  generalize w1.alloc hdZ=V at *
  refine hK.out _ _ (HT.out _ hbV.out) (fun hHeld2=>?_)
  try simp only [aS,aN,aT,a0,a1]
  refine rd1 (i:=20) (by kernel_rfl) rfl fun K hK=>?_
  have y0:V.cell? ⟨B,0,none⟩=some (.int .i64 0):=(cell_blk hq0.out).trans rfl
  have y1:V.cell? ⟨B,1,none⟩=some (.int .i64 0):=(cell_blk hq0.out).trans rfl
  have y2:V.cell? ⟨B,2,none⟩=some (.int .i64 0):=(cell_blk hq0.out).trans rfl
  have y3:V.cell? ⟨B,3,none⟩=some (.int .i64 0):=(cell_blk hq0.out).trans rfl
  have fz:=free_blk hq0.out
  have HV0:=hid hHeld2
  clear hHeld2
  go_simp
  have hV4:=hid (bl_four hbV.out hB.out (.int .i64 y.fr) (.int .i64 y.til) (.int .i64 y.pc) (.int .i64 y.cls))
  have hq4:=hid (set_four hq0.out (.int .i64 y.fr) (.int .i64 y.til) (.int .i64 y.pc) (.int .i64 y.cls))
  clear y0 y1 y2 y3 fz
  refine hK.out _ _ (HT.out _ hV4.out) (fun hHeld3=>?_)
  try simp only [aS,aN,aT,a0,a1]
  refine tk (i:=21) (d:=some 6) rfl rfl (by kernel_rfl) (fun _ _ _ h=>h) (by rfl) (by intro _ h;(try dsimp only at h);go_split_ands;go_simp<;>with_reducible rfl) hHeld3 ?_
  try simp only [aS,aN,aT,a0,a1]
  refine wpAnyH_done (by kernel_rfl) ?_ _
  go_wp2
  go_ret
  exact ⟨rfl,HH.out.bl (HAL.out.trans hHeld3.1.out)⟩
 ·go_simp
  refine hK.out _ _ (HT.out _ (hHeld0.1.out.alloc _)) (fun hHeld4=>?_)
  try simp only [aS,aN,aT,a0,a1]
  refine rd1 (i:=15) (by kernel_rfl) rfl fun K hK=>?_
  go_simp
  go_at_call 39
  refine (HHD.out _ (HAL.out.trans hHeld4.1.out)).mono ?_
  rintro e V ⟨b1,x,hx⟩
  have he:∃x:Hd,e=.returned (.tuple #[.agg (hdC x),.bool false]):=by
   rcases hx with ⟨z,-⟩|⟨-,z⟩
   ·exact absurd z (by have:=HCL.out;omega)
   ·exact ⟨x,z⟩
  obtain ⟨y,rfl⟩:=he
  clear hx
  unfold hdC
  have hbV:=hid (hHeld4.1.out.trans b1)
  have hq0:V.heap[w.heap.size+1]?=some (.cells #[.int .i64 0,.int .i64 0,.int .i64 0,.int .i64 0] 97 (0,0)):=bl_blk b1 (show _=_ from HZ.out)
  obtain ⟨B,hBB⟩:∃B,B=w.heap.size+1:=⟨_,rfl⟩
  rw [←hBB] at hq0
  simp only [←hBB]
  have hB:Hid ((w.alloc (mvO (im v))).heap.size≤B):=by show (w.alloc (mvO (im v))).heap.size≤B;rw [hBB,World.size_alloc];exact Nat.le_refl _
  clear hBB b1
  replace hq0:=hid hq0
  go_wp2_with fail
  refine hK.out _ _ (HT.out _ hbV.out) (fun hHeld5=>?_)
  try simp only [aS,aN,aT,a0,a1]
  refine tk (i:=16) (d:=some 7) rfl rfl (by kernel_rfl) (fun _ _ _ h=>h) (by rfl) (by intro _ h;(try dsimp only at h);go_split_ands;go_simp<;>with_reducible rfl) hHeld5 ?_
  try simp only [aS,aN,aT,a0,a1]
  refine tk (i:=17) (d:=some 24) rfl rfl (by kernel_rfl) (fun _ _ _ h=>h) (by rfl) (by intro _ h;(try dsimp only at h);go_split_ands;go_simp<;>with_reducible rfl) hHeld5 ?_
  try simp only [aS,aN,aT,a0,a1]
  refine tk (i:=18) (d:=some 25) rfl rfl (by kernel_rfl) (fun _ _ _ h=>h) (by rfl) (by intro _ h;(try dsimp only at h);go_split_ands;go_simp<;>with_reducible rfl) hHeld5 ?_
  try simp only [aS,aN,aT,a0,a1]
  refine rd1 (i:=20) (by kernel_rfl) rfl fun K hK=>?_
  have y0:V.cell? ⟨B,0,none⟩=some (.int .i64 0):=(cell_blk hq0.out).trans rfl
  have y1:V.cell? ⟨B,1,none⟩=some (.int .i64 0):=(cell_blk hq0.out).trans rfl
  have y2:V.cell? ⟨B,2,none⟩=some (.int .i64 0):=(cell_blk hq0.out).trans rfl
  have y3:V.cell? ⟨B,3,none⟩=some (.int .i64 0):=(cell_blk hq0.out).trans rfl
  have fz:=free_blk hq0.out
  have HV0:=hid hHeld5
  clear hHeld5
  go_simp
  have hV4:=hid (bl_four hbV.out hB.out (.int .i64 y.fr) (.int .i64 y.til) (.int .i64 y.pc) (.int .i64 y.cls))
  have hq4:=hid (set_four hq0.out (.int .i64 y.fr) (.int .i64 y.til) (.int .i64 y.pc) (.int .i64 y.cls))
  clear y0 y1 y2 y3 fz
  refine hK.out _ _ (HT.out _ hV4.out) (fun hHeld6=>?_)
  try simp only [aS,aN,aT,a0,a1]
  refine tk (i:=21) (d:=some 6) rfl rfl (by kernel_rfl) (fun _ _ _ h=>h) (by rfl) (by intro _ h;(try dsimp only at h);go_split_ands;go_simp<;>with_reducible rfl) hHeld6 ?_
  try simp only [aS,aN,aT,a0,a1]
  refine wpAnyH_done (by kernel_rfl) ?_ _
  go_wp2
  go_ret
  exact ⟨rfl,HH.out.bl (HAL.out.trans hHeld6.1.out)⟩
set_option maxRecDepth 100000 in
theorem catch_yes (s:Nat) (X:Nat→Prop) (wx w0:World) (g:Mg) (h:Hp) (qs:List Qb) (a:Mc) (c:Cal) (v:Va) (w:World) (H:RX s X wx w0 g w h qs a c) (F:Fix w0 g h) (hf:h.objs.length≤100) (hv:v.kind=3) (h0:0≤v.n) (hn:v.n<h.objs.length) (ht:h.thrown=v.n) (hok:∀q,q<c.m.hands.length→0≤(nth hd0 c.m.hands q).fr∧(nth hd0 c.m.hands q).til≤3000∧0≤(nth hd0 c.m.hands q).til∧0≤(nth hd0 c.m.hands q).pc) (hpc:0≤c.pc∧c.pc≤3000) (hcl:0≤h.caughtL c.pc c.m.hands) :
  Calls Tryz.prog 16 #[.pointer (some ⟨a.q,0,none⟩),mvV (im v)] w fun e w'=>e=.returned (.bool true)∧RX s X wx w0 g w' h qs a { c with giv:=va0,cau:=v,pc:=h.caughtL c.pc c.m.hands }:=by
 have HH:=hid H
 have HAL:Hid (Bl w (w.alloc (mvO (im v)))):=(Bl.refl w).alloc _
 have HHD:Hid (∀w',Bl w w'→Calls Tryz.prog 39 #[.pointer (some ⟨g.hb,0,none⟩),.slice a.K c.m.hands.length a.k,.int .i64 c.pc,mvV (im v)] w' fun e w2=>HdQ h c.pc c.m.hands w' e w2):=fun w' hb=>by
  have H':=H.bl hb
  obtain ⟨vc,vo,vx,vs,l,HA⟩:=H'
  exact handler_any g h v c.m.hands a.K a.k c.pc w' (HA.rh.rd F hf) (HA.ca.me.2.2.1.bl HA.rh.bl) hv h0 hn ht hok hpc
 obtain ⟨k0,k9,k10⟩:=H.c0910
 have HT:Hid (∀w',Bl (w.alloc (mvO (im v))) w'→(fun w'=>Hid (Bl (w.alloc (mvO (im v))) w')∧w'.cell? ⟨a.q,0,none⟩=some (.pointer (some ⟨g.hb,0,none⟩))∧w'.cell? ⟨a.q,9,none⟩=some (.slice a.K c.m.hands.length a.k)∧w'.cell? ⟨a.q,11,none⟩=some (.int .i64 c.pc)∧w'.cell? ⟨w.heap.size,0,none⟩=some (.int .i64 (im v).kind)∧w'.cell? ⟨w.heap.size,1,none⟩=some (.int .i64 (im v).n)) w'):=fun w' hb=>by
  have hb2:=HAL.out.trans hb
  exact ⟨hb,hb2.cell k0,hb2.cell k9,hb2.cell k10,hb.cell (cell_of_new rfl),hb.cell (cell_of_new rfl)⟩
 have HCL:=hid hcl
 have HZ:Hid (((w.alloc (mvO (im v))).alloc hdZ).heap[w.heap.size+1]?=some (.cells #[.int .i64 0,.int .i64 0,.int .i64 0,.int .i64 0] 97 (0,0))):=by
  have:=blk_new (w.alloc (mvO (im v))) #[.int .i64 0,.int .i64 0,.int .i64 0,.int .i64 0] 97
  rwa [World.size_alloc] at this
 have hq:=H.qlt
 have HK3:Hid (0≤v.kind∧v.kind≤3):=by show 0≤v.kind∧v.kind≤3;omega
 clear H F hf hv h0 hn ht hok hpc hcl k0 k9 k10
 go_enter Tryz.func16,Tryz.ntmps16
 go_wp2
 refine wp_region_held_drew (S:=fun w'=>Hid (Bl (w.alloc (mvO (im v))) w')∧w'.cell? ⟨a.q,0,none⟩=some (.pointer (some ⟨g.hb,0,none⟩))∧w'.cell? ⟨a.q,9,none⟩=some (.slice a.K c.m.hands.length a.k)∧w'.cell? ⟨a.q,11,none⟩=some (.int .i64 c.pc)∧w'.cell? ⟨w.heap.size,0,none⟩=some (.int .i64 (im v).kind)∧w'.cell? ⟨w.heap.size,1,none⟩=some (.int .i64 (im v).n)) (by kernel_rfl) ?_ (fun hHeld0=>?_)
 ·exact HT.out _ (Bl.refl _).drew
 refine tk (i:=0) (d:=some 8) rfl rfl (by kernel_rfl) (fun _ _ _ h=>h) (by rfl) (by intro _ h;(try dsimp only at h);go_split_ands;go_simp<;>with_reducible rfl) hHeld0 ?_
 try simp only [aS,aN,aT,a0,a1]
 refine tk (i:=1) (d:=some 9) rfl rfl (by kernel_rfl) (fun _ _ _ h=>h) (by rfl) (by intro _ h;(try dsimp only at h);go_split_ands;go_simp<;>with_reducible rfl) hHeld0 ?_
 try simp only [aS,aN,aT,a0,a1]
 refine tk (i:=2) (d:=some 10) rfl rfl (by kernel_rfl) (fun _ _ _ h=>h) (by rfl) (by intro _ h;(try dsimp only at h);go_split_ands;go_simp<;>with_reducible rfl) hHeld0 ?_
 try simp only [aS,aN,aT,a0,a1]
 refine tk (i:=3) (d:=some 11) rfl rfl (by kernel_rfl) (fun _ _ _ h=>h) (by rfl) (by intro _ h;(try dsimp only at h);go_split_ands;go_simp<;>with_reducible rfl) hHeld0 ?_
 try simp only [aS,aN,aT,a0,a1]
 refine tk (i:=4) (d:=some 12) rfl rfl (by kernel_rfl) (fun _ _ _ h=>h) (by rfl) (by intro _ h;(try dsimp only at h);go_split_ands;go_simp<;>with_reducible rfl) hHeld0 ?_
 try simp only [aS,aN,aT,a0,a1]
 refine tk (i:=5) (d:=some 13) rfl rfl (by kernel_rfl) (fun _ _ _ h=>h) (by rfl) (by intro _ h;(try dsimp only at h);go_split_ands;go_simp<;>with_reducible rfl) hHeld0 ?_
 try simp only [aS,aN,aT,a0,a1]
 refine tk (i:=6) (d:=some 14) rfl rfl (by kernel_rfl) (fun _ _ _ h=>h) (by rfl) (by intro _ h;(try dsimp only at h);go_split_ands;go_simp<;>with_reducible rfl) hHeld0 ?_
 try simp only [aS,aN,aT,a0,a1]
 refine tk (i:=7) (d:=some 15) rfl rfl (by kernel_rfl) (fun _ _ _ h=>h) (by rfl) (by intro _ h;(try dsimp only at h);go_split_ands;go_simp<;>with_reducible rfl) hHeld0 ?_
 try simp only [aS,aN,aT,a0,a1]
 refine tk (i:=8) (d:=some 16) rfl rfl (by kernel_rfl) (fun _ _ _ h=>h) (by rfl) (by intro _ h;(try dsimp only at h);go_split_ands;go_simp<;>with_reducible rfl) hHeld0 ?_
 try simp only [aS,aN,aT,a0,a1]
 refine tk (i:=9) (d:=some 17) rfl rfl (by kernel_rfl) (fun _ _ _ h=>h) (by rfl) (by intro _ h;(try dsimp only at h);go_split_ands;go_simp<;>with_reducible rfl) hHeld0 ?_
 try simp only [aS,aN,aT,a0,a1]
 refine tk (i:=10) (d:=some 18) rfl rfl (by kernel_rfl) (fun _ _ _ h=>h) (by rfl) (by intro _ h;(try dsimp only at h);go_split_ands;go_simp<;>with_reducible rfl) hHeld0 ?_
 try simp only [aS,aN,aT,a0,a1]
 refine tk (i:=11) (d:=some 19) rfl rfl (by kernel_rfl) (fun _ _ _ h=>h) (by rfl) (by intro _ h;(try dsimp only at h);go_split_ands;go_simp<;>with_reducible rfl) hHeld0 ?_
 try simp only [aS,aN,aT,a0,a1]
 refine tk (i:=12) (d:=some 20) rfl rfl (by kernel_rfl) (fun _ _ _ h=>h) (by rfl) (by intro _ h;(try dsimp only at h);go_split_ands;go_simp<;>with_reducible rfl) hHeld0 ?_
 try simp only [aS,aN,aT,a0,a1]
 refine tk (i:=13) (d:=some 21) rfl rfl (by kernel_rfl) (fun _ _ _ h=>h) (by rfl) (by intro _ h;(try dsimp only at h);go_split_ands;go_simp<;>with_reducible rfl) hHeld0 ?_
 try simp only [aS,aN,aT,a0,a1]
 refine tk (i:=14) (d:=some 22) rfl rfl (by kernel_rfl) (fun _ _ _ h=>h) (by rfl) (by intro _ h;(try dsimp only at h);go_split_ands;go_simp<;>with_reducible rfl) hHeld0 ?_
 try simp only [aS,aN,aT,a0,a1]
 refine wpAnyH_ready (rs:=[15,19]) (by kernel_rfl) (by simp) ?_
 refine AllReadyH.cons rfl (fun K hK=>?_) (AllReadyH.cons rfl (fun K hK=>?_) (AllReadyH.nil))
 ·go_simp
  go_at_call 39
  refine (HHD.out _ (HAL.out.trans hHeld0.1.out)).mono ?_
  rintro e w1 ⟨b1,x,hx⟩
  have he:∃x:Hd,x.pc=h.caughtL c.pc c.m.hands∧e=.returned (.tuple #[.agg (hdC x),.bool true]):=by
   rcases hx with ⟨-,z,z2⟩|⟨z,-⟩
   ·exact ⟨x,z,z2⟩
   ·exact absurd z (by have:=HCL.out;omega)
  obtain ⟨y,hy,rfl⟩:=he
  replace hy:=hid hy
  clear hx
  unfold hdC
  have hb1:=hid (hHeld0.1.out.trans b1)
  clear b1
  go_wp2_with fail
  refine hK.out _ _ (HT.out _ hb1.out) (fun hHeld1=>?_)
  try simp only [aS,aN,aT,a0,a1]
  refine tk (i:=16) (d:=some 7) rfl rfl (by kernel_rfl) (fun _ _ _ h=>h) (by rfl) (by intro _ h;(try dsimp only at h);go_split_ands;go_simp<;>with_reducible rfl) hHeld1 ?_
  try simp only [aS,aN,aT,a0,a1]
  refine tk (i:=17) (d:=some 24) rfl rfl (by kernel_rfl) (fun _ _ _ h=>h) (by rfl) (by intro _ h;(try dsimp only at h);go_split_ands;go_simp<;>with_reducible rfl) hHeld1 ?_
  try simp only [aS,aN,aT,a0,a1]
  refine tk (i:=18) (d:=some 25) rfl rfl (by kernel_rfl) (fun _ _ _ h=>h) (by rfl) (by intro _ h;(try dsimp only at h);go_split_ands;go_simp<;>with_reducible rfl) hHeld1 ?_
  try simp only [aS,aN,aT,a0,a1]
  refine rd1 (i:=19) (by kernel_rfl) rfl fun K hK=>?_
  go_simp
  have hbV:=hid (hb1.out.alloc hdZ)
  have hq0:(w1.alloc hdZ).heap[w1.heap.size]?=some (.cells #[.int .i64 0,.int .i64 0,.int .i64 0,.int .i64 0] 97 (0,0)):=blk_new _ _ _
  have hB0:=hb1.out.size
  obtain ⟨B,hBB⟩:∃B,B=w1.heap.size:=⟨_,rfl⟩
  rw [←hBB] at hq0 hB0
  simp only [←hBB]
  have hB:=hid hB0
  clear hBB hB0
  replace hq0:=hid hq0
  generalize w1.alloc hdZ=V at *
  refine hK.out _ _ (HT.out _ hbV.out) (fun hHeld2=>?_)
  try simp only [aS,aN,aT,a0,a1]
  refine rd1 (i:=20) (by kernel_rfl) rfl fun K hK=>?_
  have y0:V.cell? ⟨B,0,none⟩=some (.int .i64 0):=(cell_blk hq0.out).trans rfl
  have y1:V.cell? ⟨B,1,none⟩=some (.int .i64 0):=(cell_blk hq0.out).trans rfl
  have y2:V.cell? ⟨B,2,none⟩=some (.int .i64 0):=(cell_blk hq0.out).trans rfl
  have y3:V.cell? ⟨B,3,none⟩=some (.int .i64 0):=(cell_blk hq0.out).trans rfl
  have fz:=free_blk hq0.out
  have HV0:=hid hHeld2
  clear hHeld2
  go_simp
  have hV4:=hid (bl_four hbV.out hB.out (.int .i64 y.fr) (.int .i64 y.til) (.int .i64 y.pc) (.int .i64 y.cls))
  have hq4:=hid (set_four hq0.out (.int .i64 y.fr) (.int .i64 y.til) (.int .i64 y.pc) (.int .i64 y.cls))
  clear y0 y1 y2 y3 fz
  refine hK.out _ _ (HT.out _ hV4.out) (fun hHeld3=>?_)
  try simp only [aS,aN,aT,a0,a1]
  refine tk (i:=21) (d:=some 6) rfl rfl (by kernel_rfl) (fun _ _ _ h=>h) (by rfl) (by intro _ h;(try dsimp only at h);go_split_ands;go_simp<;>with_reducible rfl) hHeld3 ?_
  try simp only [aS,aN,aT,a0,a1]
  refine wpAnyH_done (by kernel_rfl) ?_ _
  obtain ⟨W4,hW4⟩:∃W4,W4=(((V.setCell ⟨B,0,none⟩ (.int .i64 y.fr)).setCell ⟨B,1,none⟩ (.int .i64 y.til)).setCell ⟨B,2,none⟩ (.int .i64 y.pc)).setCell ⟨B,3,none⟩ (.int .i64 y.cls):=⟨_,rfl⟩
  have hbw:Bl w W4:=by rw [hW4];exact HAL.out.trans hV4.out
  have hq4':W4.heap[B]?=some (.cells #[.int .i64 y.fr,.int .i64 y.til,.int .i64 y.pc,.int .i64 y.cls] 97 (0,0)):=by rw [hW4];exact hq4.out
  have hv4:W4.heap[w.heap.size]?=some (.cells #[.int .i64 (im v).kind,.int .i64 (im v).n] 65 (0,0)):=bl_blk (by rw [hW4];exact hV4.out) (blk_new w _ _)
  have hBw:Hid (w.heap.size≤B):=Nat.le_trans HAL.out.size hB.out
  rw [←hW4]
  clear hW4 hHeld3 hV4 hq4 HV0 hbV hq0
  clear V
  have HY:=HH.out.bl hbw
  obtain ⟨k11,fz,k12,k13,k14,k15⟩:=HY.cp
  have e0:=c0_of hv4
  have e1:=c1_of hv4
  have p2:W4.cell? ⟨B,2,none⟩=some (.int .i64 y.pc):=(cell_blk hq4').trans rfl
  have HS6:=hid (HY.setP y.pc va0 v (by decide) HK3.out)
  have hneB:B≠a.q:=by have:=hBw.out;omega
  have hnev:w.heap.size≠a.q:=by omega
  clear HY hq4' hv4 hbw
  go_wp2
  go_ret
  have hs6:=HS6.out
  rw [hy.out] at hs6 ⊢
  exact ⟨rfl,hs6⟩
 ·go_simp
  refine hK.out _ _ (HT.out _ (hHeld0.1.out.alloc _)) (fun hHeld4=>?_)
  try simp only [aS,aN,aT,a0,a1]
  refine rd1 (i:=15) (by kernel_rfl) rfl fun K hK=>?_
  go_simp
  go_at_call 39
  refine (HHD.out _ (HAL.out.trans hHeld4.1.out)).mono ?_
  rintro e V ⟨b1,x,hx⟩
  have he:∃x:Hd,x.pc=h.caughtL c.pc c.m.hands∧e=.returned (.tuple #[.agg (hdC x),.bool true]):=by
   rcases hx with ⟨-,z,z2⟩|⟨z,-⟩
   ·exact ⟨x,z,z2⟩
   ·exact absurd z (by have:=HCL.out;omega)
  obtain ⟨y,hy,rfl⟩:=he
  replace hy:=hid hy
  clear hx
  unfold hdC
  have hbV:=hid (hHeld4.1.out.trans b1)
  have hq0:V.heap[w.heap.size+1]?=some (.cells #[.int .i64 0,.int .i64 0,.int .i64 0,.int .i64 0] 97 (0,0)):=bl_blk b1 (show _=_ from HZ.out)
  obtain ⟨B,hBB⟩:∃B,B=w.heap.size+1:=⟨_,rfl⟩
  rw [←hBB] at hq0
  simp only [←hBB]
  have hB:Hid ((w.alloc (mvO (im v))).heap.size≤B):=by show (w.alloc (mvO (im v))).heap.size≤B;rw [hBB,World.size_alloc];exact Nat.le_refl _
  clear hBB b1
  replace hq0:=hid hq0
  go_wp2_with fail
  refine hK.out _ _ (HT.out _ hbV.out) (fun hHeld5=>?_)
  try simp only [aS,aN,aT,a0,a1]
  refine tk (i:=16) (d:=some 7) rfl rfl (by kernel_rfl) (fun _ _ _ h=>h) (by rfl) (by intro _ h;(try dsimp only at h);go_split_ands;go_simp<;>with_reducible rfl) hHeld5 ?_
  try simp only [aS,aN,aT,a0,a1]
  refine tk (i:=17) (d:=some 24) rfl rfl (by kernel_rfl) (fun _ _ _ h=>h) (by rfl) (by intro _ h;(try dsimp only at h);go_split_ands;go_simp<;>with_reducible rfl) hHeld5 ?_
  try simp only [aS,aN,aT,a0,a1]
  refine tk (i:=18) (d:=some 25) rfl rfl (by kernel_rfl) (fun _ _ _ h=>h) (by rfl) (by intro _ h;(try dsimp only at h);go_split_ands;go_simp<;>with_reducible rfl) hHeld5 ?_
  try simp only [aS,aN,aT,a0,a1]
  refine rd1 (i:=20) (by kernel_rfl) rfl fun K hK=>?_
  have y0:V.cell? ⟨B,0,none⟩=some (.int .i64 0):=(cell_blk hq0.out).trans rfl
  have y1:V.cell? ⟨B,1,none⟩=some (.int .i64 0):=(cell_blk hq0.out).trans rfl
  have y2:V.cell? ⟨B,2,none⟩=some (.int .i64 0):=(cell_blk hq0.out).trans rfl
  have y3:V.cell? ⟨B,3,none⟩=some (.int .i64 0):=(cell_blk hq0.out).trans rfl
  have fz:=free_blk hq0.out
  have HV0:=hid hHeld5
  clear hHeld5
  go_simp
  have hV4:=hid (bl_four hbV.out hB.out (.int .i64 y.fr) (.int .i64 y.til) (.int .i64 y.pc) (.int .i64 y.cls))
  have hq4:=hid (set_four hq0.out (.int .i64 y.fr) (.int .i64 y.til) (.int .i64 y.pc) (.int .i64 y.cls))
  clear y0 y1 y2 y3 fz
  refine hK.out _ _ (HT.out _ hV4.out) (fun hHeld6=>?_)
  try simp only [aS,aN,aT,a0,a1]
  refine tk (i:=21) (d:=some 6) rfl rfl (by kernel_rfl) (fun _ _ _ h=>h) (by rfl) (by intro _ h;(try dsimp only at h);go_split_ands;go_simp<;>with_reducible rfl) hHeld6 ?_
  try simp only [aS,aN,aT,a0,a1]
  refine wpAnyH_done (by kernel_rfl) ?_ _
  obtain ⟨W4,hW4⟩:∃W4,W4=(((V.setCell ⟨B,0,none⟩ (.int .i64 y.fr)).setCell ⟨B,1,none⟩ (.int .i64 y.til)).setCell ⟨B,2,none⟩ (.int .i64 y.pc)).setCell ⟨B,3,none⟩ (.int .i64 y.cls):=⟨_,rfl⟩
  have hbw:Bl w W4:=by rw [hW4];exact HAL.out.trans hV4.out
  have hq4':W4.heap[B]?=some (.cells #[.int .i64 y.fr,.int .i64 y.til,.int .i64 y.pc,.int .i64 y.cls] 97 (0,0)):=by rw [hW4];exact hq4.out
  have hv4:W4.heap[w.heap.size]?=some (.cells #[.int .i64 (im v).kind,.int .i64 (im v).n] 65 (0,0)):=bl_blk (by rw [hW4];exact hV4.out) (blk_new w _ _)
  have hBw:Hid (w.heap.size≤B):=Nat.le_trans HAL.out.size hB.out
  rw [←hW4]
  clear hW4 hHeld6 hV4 hq4 HV0 hbV hq0
  clear V
  have HY:=HH.out.bl hbw
  obtain ⟨k11,fz,k12,k13,k14,k15⟩:=HY.cp
  have e0:=c0_of hv4
  have e1:=c1_of hv4
  have p2:W4.cell? ⟨B,2,none⟩=some (.int .i64 y.pc):=(cell_blk hq4').trans rfl
  have HS6:=hid (HY.setP y.pc va0 v (by decide) HK3.out)
  have hneB:B≠a.q:=by have:=hBw.out;omega
  have hnev:w.heap.size≠a.q:=by omega
  clear HY hq4' hv4 hbw
  go_wp2
  go_ret
  have hs6:=HS6.out
  rw [hy.out] at hs6 ⊢
  exact ⟨rfl,hs6⟩
end Go.Proofs.YtimjmdfokicbkabGreat
