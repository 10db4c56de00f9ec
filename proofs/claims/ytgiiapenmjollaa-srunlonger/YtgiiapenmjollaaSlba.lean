import Derived.Test.YtgiiapenmjollaaSlaz
namespace Go.Proofs.Ytgiiapenmjollaa
set_option linter.all false
set_option maxHeartbeats 40000000
open Go.RowKit
set_option maxRecDepth 100000 in
theorem shown_thr (n:Nat) (CL:Int) (g:Mg) (h:Hp) (Ax:Option Addr) (nx cx:Nat) (w:World) (R:HRd w g h) (hn:n<h.objs.length) (hC:(nth ob0 h.objs n).cls=CL) (r0:w.cell? ⟨g.r,0,none⟩=some (.pointer (some ⟨g.hb,0,none⟩))) (r6:w.cell? ⟨g.r,6,none⟩=some (.int .i64 h.sh.steps)) (r7:w.cell? ⟨g.r,7,none⟩=some (.int .i64 h.sh.used)) (r8:w.cell? ⟨g.r,8,none⟩=some (.slice Ax nx cx)) :
  Calls Try.prog 73 #[.pointer (some ⟨g.r,0,none⟩),.agg #[.int .i64 2,.int .i64 3,.int .i64 ((n:Int)+1)]] w fun e w'=>e=.returned (.agg #[.int .i64 2,.int .i64 0,.int .i64 CL,.slice Ax nx cx,.int .i64 h.sh.used,.int .i64 h.sh.steps])∧Bl w w':=by
 have HAL:Hid (Bl w ((w.alloc (stO 2 3 ((n:Int)+1))).alloc shMZ)):=((Bl.refl w).alloc _).alloc _
 have HT:Hid (∀w',Bl ((w.alloc (stO 2 3 ((n:Int)+1))).alloc shMZ) w'→(fun w'=>Hid (Bl ((w.alloc (stO 2 3 ((n:Int)+1))).alloc shMZ) w')∧w'.cell? ⟨w.heap.size,0,none⟩=some (.int .i64 2)∧w'.cell? ⟨w.heap.size,1,none⟩=some (.int .i64 3)∧w'.cell? ⟨w.heap.size,2,none⟩=some (.int .i64 ((n:Int)+1))∧w'.cell? ⟨g.r,0,none⟩=some (.pointer (some ⟨g.hb,0,none⟩))∧w'.cell? ⟨g.r,6,none⟩=some (.int .i64 h.sh.steps)∧w'.cell? ⟨g.r,7,none⟩=some (.int .i64 h.sh.used)∧w'.cell? ⟨g.r,8,none⟩=some (.slice Ax nx cx)) w'):=fun w' hb=>by
  have hb2:=HAL.out.trans hb
  have hb3:Bl (w.alloc (stO 2 3 ((n:Int)+1))) w':=((Bl.refl _).alloc _).trans hb
  exact ⟨hb,hb3.cell (cell_of_new rfl),hb3.cell (cell_of_new rfl),hb3.cell (cell_of_new rfl),hb2.cell r0,hb2.cell r6,hb2.cell r7,hb2.cell r8⟩
 have HT3:Hid (∀w',Bl (w.alloc (stO 2 3 ((n:Int)+1))) w'→(fun w'=>Hid (Bl (w.alloc (stO 2 3 ((n:Int)+1))) w')∧w'.cell? ⟨w.heap.size,1,none⟩=some (.int .i64 3)∧w'.cell? ⟨w.heap.size,2,none⟩=some (.int .i64 ((n:Int)+1))∧w'.cell? ⟨g.r,0,none⟩=some (.pointer (some ⟨g.hb,0,none⟩))) w'):=fun w' hb =>
  ⟨hb,hb.cell (cell_of_new rfl),hb.cell (cell_of_new rfl),(((Bl.refl w).alloc _).trans hb).cell r0⟩
 have HCL:Hid (∀w',Bl (w.alloc (stO 2 3 ((n:Int)+1))) w'→Calls Try.prog 101 #[.pointer (some ⟨g.hb,0,none⟩),mvV ⟨3,(n:Int)+1⟩] w' fun e w2=>e=.returned (.int .i64 CL)∧Bl w' w2):=fun w' hb=>by
  have:=classOf_any g h n w' (R.bl (((Bl.refl w).alloc _).trans hb)) hn
  rw [hC] at this
  exact this
 clear r0 r6 r7 r8 R hC hn
 go_enter Try.func73,Try.ntmps73
 go_wp2
 refine wp_region_held_drew (S:=fun w'=>Hid (Bl ((w.alloc (stO 2 3 ((n:Int)+1))).alloc shMZ) w')∧w'.cell? ⟨w.heap.size,0,none⟩=some (.int .i64 2)∧w'.cell? ⟨w.heap.size,1,none⟩=some (.int .i64 3)∧w'.cell? ⟨w.heap.size,2,none⟩=some (.int .i64 ((n:Int)+1))∧w'.cell? ⟨g.r,0,none⟩=some (.pointer (some ⟨g.hb,0,none⟩))∧w'.cell? ⟨g.r,6,none⟩=some (.int .i64 h.sh.steps)∧w'.cell? ⟨g.r,7,none⟩=some (.int .i64 h.sh.used)∧w'.cell? ⟨g.r,8,none⟩=some (.slice Ax nx cx)) (by kernel_rfl) ?_ (fun hHeld0=>?_)
 ·exact HT.out _ (Bl.refl _).drew
 refine tk (i:=0) (d:=some 6) rfl rfl (by kernel_rfl) (fun _ _ _ h=>h) (by rfl) (by intro _ h;(try dsimp only at h);go_split_ands;go_simp<;>with_reducible rfl) hHeld0 ?_
 try simp only [aS,aN,aT,a0,a1]
 refine tk (i:=1) (d:=some 7) rfl rfl (by kernel_rfl) (fun _ _ _ h=>h) (by rfl) (by intro _ h;(try dsimp only at h);go_split_ands;go_simp<;>with_reducible rfl) hHeld0 ?_
 try simp only [aS,aN,aT,a0,a1]
 refine tk (i:=2) (d:=some 8) rfl rfl (by kernel_rfl) (fun _ _ _ h=>h) (by rfl) (by intro _ h;(try dsimp only at h);go_split_ands;go_simp<;>with_reducible rfl) hHeld0 ?_
 try simp only [aS,aN,aT,a0,a1]
 refine tk (i:=3) (d:=some 9) rfl rfl (by kernel_rfl) (fun _ _ _ h=>h) (by rfl) (by intro _ h;(try dsimp only at h);go_split_ands;go_simp<;>with_reducible rfl) hHeld0 ?_
 try simp only [aS,aN,aT,a0,a1]
 refine tk (i:=4) (d:=some 10) rfl rfl (by kernel_rfl) (fun _ _ _ h=>h) (by rfl) (by intro _ h;(try dsimp only at h);go_split_ands;go_simp<;>with_reducible rfl) hHeld0 ?_
 try simp only [aS,aN,aT,a0,a1]
 refine tk (i:=5) (d:=some 11) rfl rfl (by kernel_rfl) (fun _ _ _ h=>h) (by rfl) (by intro _ h;(try dsimp only at h);go_split_ands;go_simp<;>with_reducible rfl) hHeld0 ?_
 try simp only [aS,aN,aT,a0,a1]
 refine tk (i:=6) (d:=some 12) rfl rfl (by kernel_rfl) (fun _ _ _ h=>h) (by rfl) (by intro _ h;(try dsimp only at h);go_split_ands;go_simp<;>with_reducible rfl) hHeld0 ?_
 try simp only [aS,aN,aT,a0,a1]
 refine tk (i:=7) (d:=some 13) rfl rfl (by kernel_rfl) (fun _ _ _ h=>h) (by rfl) (by intro _ h;(try dsimp only at h);go_split_ands;go_simp<;>with_reducible rfl) hHeld0 ?_
 try simp only [aS,aN,aT,a0,a1]
 refine tk (i:=8) (d:=some 14) rfl rfl (by kernel_rfl) (fun _ _ _ h=>h) (by rfl) (by intro _ h;(try dsimp only at h);go_split_ands;go_simp<;>with_reducible rfl) hHeld0 ?_
 try simp only [aS,aN,aT,a0,a1]
 refine tk (i:=9) (d:=some 15) rfl rfl (by kernel_rfl) (fun _ _ _ h=>h) (by rfl) (by intro _ h;(try dsimp only at h);go_split_ands;go_simp<;>with_reducible rfl) hHeld0 ?_
 try simp only [aS,aN,aT,a0,a1]
 refine tk (i:=10) (d:=some 16) rfl rfl (by kernel_rfl) (fun _ _ _ h=>h) (by rfl) (by intro _ h;(try dsimp only at h);go_split_ands;go_simp<;>with_reducible rfl) hHeld0 ?_
 try simp only [aS,aN,aT,a0,a1]
 refine tk (i:=11) (d:=some 17) rfl rfl (by kernel_rfl) (fun _ _ _ h=>h) (by rfl) (by intro _ h;(try dsimp only at h);go_split_ands;go_simp<;>with_reducible rfl) hHeld0 ?_
 try simp only [aS,aN,aT,a0,a1]
 refine tk (i:=12) (d:=some 18) rfl rfl (by kernel_rfl) (fun _ _ _ h=>h) (by rfl) (by intro _ h;(try dsimp only at h);go_split_ands;go_simp<;>with_reducible rfl) hHeld0 ?_
 try simp only [aS,aN,aT,a0,a1]
 refine tk (i:=13) (d:=some 19) rfl rfl (by kernel_rfl) (fun _ _ _ h=>h) (by rfl) (by intro _ h;(try dsimp only at h);go_split_ands;go_simp<;>with_reducible rfl) hHeld0 ?_
 try simp only [aS,aN,aT,a0,a1]
 refine tk (i:=14) (d:=some 20) rfl rfl (by kernel_rfl) (fun _ _ _ h=>h) (by rfl) (by intro _ h;(try dsimp only at h);go_split_ands;go_simp<;>with_reducible rfl) hHeld0 ?_
 try simp only [aS,aN,aT,a0,a1]
 refine rd1 (i:=15) (by kernel_rfl) rfl fun K hK=>?_
 go_simp
 refine hK.out _ _ (HT.out _ (hHeld0.1.out.alloc _)) (fun hHeld1=>?_)
 try simp only [aS,aN,aT,a0,a1]
 refine rd1 (i:=16) (by kernel_rfl) rfl fun K hK=>?_
 go_simp
 refine hK.out _ _ (HT.out _ ((Bl.refl _).alloc _).drew) (fun hHeld2=>?_)
 try simp only [aS,aN,aT,a0,a1]
 refine wpAnyH_done (by kernel_rfl) ?_ _
 obtain ⟨V,hV⟩:∃V,V=(((w.alloc (stO 2 3 ((n:Int)+1))).alloc shMZ).alloc (.cells #[.int .i64 2,.int .i64 0,.int .i64 0,.slice Ax nx cx,.int .i64 h.sh.used,.int .i64 h.sh.steps] 40)).drew:=⟨_,rfl⟩
 have hbV:Bl w V:=by rw [hV];exact (HAL.out.alloc _).drew
 obtain ⟨L0,L1⟩:=two_lie (w.alloc (stO 2 3 ((n:Int)+1))) #[.int .i64 0,.int .i64 0,.int .i64 0,.slice none 0 0,.int .i64 0,.int .i64 0] #[.int .i64 2,.int .i64 0,.int .i64 0,.slice Ax nx cx,.int .i64 h.sh.used,.int .i64 h.sh.steps] 40 40
 rw [World.size_alloc] at L0 L1
 have qz:V.heap[w.heap.size+1]?=some (.cells #[.int .i64 0,.int .i64 0,.int .i64 0,.slice none 0 0,.int .i64 0,.int .i64 0] 40 (0,0)):=by rw [hV];exact L0
 have qv:V.heap[w.heap.size+1+1]?=some (.cells #[.int .i64 2,.int .i64 0,.int .i64 0,.slice Ax nx cx,.int .i64 h.sh.used,.int .i64 h.sh.steps] 40 (0,0)):=by rw [hV];exact L1
 have qs:V.heap[w.heap.size]?=some (.cells #[.int .i64 2,.int .i64 3,.int .i64 ((n:Int)+1)] 111 (0,0)):=by rw [hV];exact bl_blk ((((Bl.refl _).alloc _).alloc _).drew) (blk_new w _ _)
 have hb1V:Bl (w.alloc (stO 2 3 ((n:Int)+1))) V:=by rw [hV];exact (((Bl.refl _).alloc _).alloc _).drew
 rw [←hV]
 clear hV L0 L1 hHeld2 hHeld0 hHeld1
 have s0:V.cell? ⟨w.heap.size,0,none⟩=some (.int .i64 2):=(cell_blk qs).trans rfl
 have s1:V.cell? ⟨w.heap.size,1,none⟩=some (.int .i64 3):=(cell_blk qs).trans rfl
 have s2:V.cell? ⟨w.heap.size,2,none⟩=some (.int .i64 ((n:Int)+1)):=(cell_blk qs).trans rfl
 have HB1V:Hid (Bl (w.alloc (stO 2 3 ((n:Int)+1))) V):=hb1V
 replace qz:=hid qz
 replace qv:=hid qv
 replace qs:=hid qs
 replace hbV:=hid hbV
 clear hb1V
 go_wp2
 refine wp_region_held_drew (S:=fun w'=>Hid (Bl (w.alloc (stO 2 3 ((n:Int)+1))) w')∧w'.cell? ⟨w.heap.size,1,none⟩=some (.int .i64 3)∧w'.cell? ⟨w.heap.size,2,none⟩=some (.int .i64 ((n:Int)+1))∧w'.cell? ⟨g.r,0,none⟩=some (.pointer (some ⟨g.hb,0,none⟩))) (by kernel_rfl) ?_ (fun hHeld0=>?_)
 ·exact HT3.out _ HB1V.out.drew
 refine tk (i:=0) (d:=some 25) rfl rfl (by kernel_rfl) (fun _ _ _ h=>h) (by rfl) (by intro _ h;(try dsimp only at h);go_split_ands;go_simp<;>with_reducible rfl) hHeld0 ?_
 try simp only [aS,aN,aT,a0,a1]
 refine tk (i:=1) (d:=some 26) rfl rfl (by kernel_rfl) (fun _ _ _ h=>h) (by rfl) (by intro _ h;(try dsimp only at h);go_split_ands;go_simp<;>with_reducible rfl) hHeld0 ?_
 try simp only [aS,aN,aT,a0,a1]
 refine tk (i:=2) (d:=some 27) rfl rfl (by kernel_rfl) (fun _ _ _ h=>h) (by rfl) (by intro _ h;(try dsimp only at h);go_split_ands;go_simp<;>with_reducible rfl) hHeld0 ?_
 try simp only [aS,aN,aT,a0,a1]
 refine tk (i:=3) (d:=some 28) rfl rfl (by kernel_rfl) (fun _ _ _ h=>h) (by rfl) (by intro _ h;(try dsimp only at h);go_split_ands;go_simp<;>with_reducible rfl) hHeld0 ?_
 try simp only [aS,aN,aT,a0,a1]
 refine tk (i:=4) (d:=some 29) rfl rfl (by kernel_rfl) (fun _ _ _ h=>h) (by rfl) (by intro _ h;(try dsimp only at h);go_split_ands;go_simp<;>with_reducible rfl) hHeld0 ?_
 try simp only [aS,aN,aT,a0,a1]
 refine tk (i:=5) (d:=some 30) rfl rfl (by kernel_rfl) (fun _ _ _ h=>h) (by rfl) (by intro _ h;(try dsimp only at h);go_split_ands;go_simp<;>with_reducible rfl) hHeld0 ?_
 try simp only [aS,aN,aT,a0,a1]
 refine rd1 (i:=6) (by kernel_rfl) rfl fun K hK=>?_
 go_simp
 go_at_call 101
 refine (HCL.out _ HB1V.out.drew).mono ?_
 rintro e w3 ⟨rfl,b3⟩
 have B3:Hid (Bl V w3):=(Bl.refl V).drew.trans b3
 have hv3:=bl_blk B3.out qv.out
 have fv3:=free_blk hv3
 have yy2:w3.cell? ⟨w.heap.size+1+1,2,none⟩=some (.int .i64 0):=(cell_blk hv3).trans rfl
 replace hv3:=hid hv3
 clear b3
 go_wp2_with fail
 refine hK.out _ _ (HT3.out _ (HB1V.out.trans B3.out)) (fun hHeld1=>?_)
 try simp only [aS,aN,aT,a0,a1]
 refine tk (i:=7) (d:=some 32) rfl rfl (by kernel_rfl) (fun _ _ _ h=>h) (by rfl) (by intro _ h;(try dsimp only at h);go_split_ands;go_simp<;>with_reducible rfl) hHeld1 ?_
 try simp only [aS,aN,aT,a0,a1]
 refine rd1 (i:=8) (by kernel_rfl) rfl fun K hK=>?_
 go_simp
 refine hK.out _ _ (HT3.out _ ((HB1V.out.trans B3.out).setCell (p:=⟨w.heap.size+1+1,2,none⟩) (by simp) _)) (fun hHeld2=>?_)
 try simp only [aS,aN,aT,a0,a1]
 refine wpAnyH_done (by kernel_rfl) ?_ _
 obtain ⟨V2,hV2⟩:∃V2,V2=w3.setCell ⟨w.heap.size+1+1,2,none⟩ (.int .i64 CL):=⟨_,rfl⟩
 have qv2:V2.heap[w.heap.size+1+1]?=some (.cells #[.int .i64 2,.int .i64 0,.int .i64 CL,.slice Ax nx cx,.int .i64 h.sh.used,.int .i64 h.sh.steps] 40 (0,0)):=by rw [hV2,block_set hv3.out];rfl
 have qz2:V2.heap[w.heap.size+1]?=some (.cells #[.int .i64 0,.int .i64 0,.int .i64 0,.slice none 0 0,.int .i64 0,.int .i64 0] 40 (0,0)):=by rw [hV2,block_far (by omega)];exact bl_blk B3.out qz.out
 have hb2:Bl w V2:=by rw [hV2];exact (hbV.out.trans B3.out).setCell (p:=⟨w.heap.size+1+1,2,none⟩) (by show w.heap.size≤w.heap.size+1+1;omega) _
 rw [←hV2]
 clear hV2 hHeld0 hHeld1 hHeld2
 have y0:V2.cell? ⟨w.heap.size+1+1,0,none⟩=some (.int .i64 2):=(cell_blk qv2).trans rfl
 have y1:V2.cell? ⟨w.heap.size+1+1,1,none⟩=some (.int .i64 0):=(cell_blk qv2).trans rfl
 have y2:V2.cell? ⟨w.heap.size+1+1,2,none⟩=some (.int .i64 CL):=(cell_blk qv2).trans rfl
 have y3:V2.cell? ⟨w.heap.size+1+1,3,none⟩=some (.slice Ax nx cx):=(cell_blk qv2).trans rfl
 have y4:V2.cell? ⟨w.heap.size+1+1,4,none⟩=some (.int .i64 h.sh.used):=(cell_blk qv2).trans rfl
 have y5:V2.cell? ⟨w.heap.size+1+1,5,none⟩=some (.int .i64 h.sh.steps):=(cell_blk qv2).trans rfl
 have z0:V2.cell? ⟨w.heap.size+1,0,none⟩=some (.int .i64 0):=(cell_blk qz2).trans rfl
 have z1:V2.cell? ⟨w.heap.size+1,1,none⟩=some (.int .i64 0):=(cell_blk qz2).trans rfl
 have z2:V2.cell? ⟨w.heap.size+1,2,none⟩=some (.int .i64 0):=(cell_blk qz2).trans rfl
 have z3:V2.cell? ⟨w.heap.size+1,3,none⟩=some (.slice none 0 0):=(cell_blk qz2).trans rfl
 have z4:V2.cell? ⟨w.heap.size+1,4,none⟩=some (.int .i64 0):=(cell_blk qz2).trans rfl
 have z5:V2.cell? ⟨w.heap.size+1,5,none⟩=some (.int .i64 0):=(cell_blk qz2).trans rfl
 have fv:=free_blk qv2
 have fr:=free_blk qz2
 have n1:w.heap.size+1+1≠w.heap.size+1:=by omega
 have n2:w.heap.size+1≠w.heap.size+1+1:=by omega
 replace qz2:=hid qz2
 replace qv2:=hid qv2
 replace hb2:=hid hb2
 go_wp2
 refine bodyPost_ret (results_cell_row rfl _ _ (w.heap.size+1) _ _ _ _ rfl (set_six6 qz2.out _ _ _ _ _ _) Try.underlying40 rfl info_shm) rfl ?_
 exact ⟨rfl,bl_six6 hb2.out (Nat.le_succ _) _ _ _ _ _ _⟩
theorem results_cell_tmpm {P:Program} {fn:Func} {p q:Tmp} {ty:TypeId} (h:fn.results=#[.cell p ty,.tmp q]) (tmps:Array Value) (w:World) (b:Nat) (t:TypeId) (cs:Array Value) (v:Value) (fr:Nat×Nat) (d:TypeDesc)
  (hp:tmps.getD p undef=.pointer (some ⟨b,0,none⟩)) (hq:tmps.getD q undef=v) (hb:w.heap[b]?=some (.cells cs t fr))
  (hu:P.underlying ty=some d) (hd:(match d with | .struct _ | .array _ _=>true|_=>false)=true) (hi:(P.info? ty).map (·.size)=some cs.size) :
  (results fn tmps).run P w=.ok (.tuple #[.agg cs,v]) w:=by
 have hp':tmps[p]?.getD undef=.pointer (some ⟨b,0,none⟩):=by simpa using hp
 have hq':tmps[q]?.getD undef=v:=by simpa using hq
 simp [results,h,hp',hq',asAddr,run_loadVar_row w b t ty cs fr d hb hu hd hi]
theorem info_hd:(Try.prog.info? 87).map (·.size)=some 4:=by kernel_rfl
abbrev hdC (x:Hd):Array Value:=#[.int .i64 x.fr,.int .i64 x.til,.int .i64 x.pc,.int .i64 x.cls]
def HdQ (h:Hp) (pc:Int) (l:List Hd) (w:World) (e:Ending) (w':World):Prop :=
 Bl w w'∧∃x:Hd,(0≤h.caughtL pc l∧x.pc=h.caughtL pc l∧e=.returned (.tuple #[.agg (hdC x),.bool true]))∨(h.caughtL pc l<0∧e=.returned (.tuple #[.agg (hdC x),.bool false]))
theorem set_four {w:World} {b:Nat} {u0 u1 u2 u3:Value} {t:TypeId} (h:w.heap[b]?=some (.cells #[u0,u1,u2,u3] t (0,0))) (v0 v1 v2 v3:Value):((((w.setCell ⟨b,0,none⟩ v0).setCell ⟨b,1,none⟩ v1).setCell ⟨b,2,none⟩ v2).setCell ⟨b,3,none⟩ v3).heap[b]?=some (.cells #[v0,v1,v2,v3] t (0,0)):=by
 rw [block_set (block_set (block_set (block_set h _) _) _)];rfl
theorem bl_four {w v:World} (h:Bl w v) {b:Nat} (hb:w.heap.size≤b) (y0 y1 y2 y3:Value):Bl w ((((v.setCell ⟨b,0,none⟩ y0).setCell ⟨b,1,none⟩ y1).setCell ⟨b,2,none⟩ y2).setCell ⟨b,3,none⟩ y3) :=
 (((h.setCell (p:=⟨b,0,none⟩) hb _).setCell (p:=⟨b,1,none⟩) hb _).setCell (p:=⟨b,2,none⟩) hb _).setCell (p:=⟨b,3,none⟩) hb _
abbrev hdZ:Obj:=.cells #[.int .i64 0,.int .i64 0,.int .i64 0,.int .i64 0] 87
set_option maxRecDepth 100000 in
theorem handler_any (g:Mg) (h:Hp) (v:Va) (l:List Hd) (A:Option Addr) (cap:Nat) (pc:Int) (w:World) (R:HRd w g h) (hA:HdsAt w A l) (hv:v.kind=3) (h0:0≤v.n) (hn:v.n<h.objs.length) (ht:h.thrown=v.n)
  (hok:∀q,q<l.length→0≤(nth hd0 l q).fr∧(nth hd0 l q).til≤1000∧0≤(nth hd0 l q).til∧0≤(nth hd0 l q).pc) (hpc:0≤pc∧pc≤1000) :
  Calls Try.prog 96 #[.pointer (some ⟨g.hb,0,none⟩),.slice A l.length cap,.int .i64 pc,mvV (im v)] w fun e w'=>HdQ h pc l w e w':=by
 have HR:=hid R
 have HA:=hid hA
 have HV:Hid (v.kind=3∧0≤v.n∧v.n<h.objs.length∧h.thrown=v.n):=⟨hv,h0,hn,ht⟩
 have HOK:=hid hok
 have hlm:=hA.1
 unfold maxLen at hlm
 have HAL:Hid (Bl w ((w.alloc (mvO (im v))).alloc hdZ)):=((Bl.refl w).alloc _).alloc _
 obtain ⟨L0,L1⟩:=two_lie w #[.int .i64 (im v).kind,.int .i64 (im v).n] #[.int .i64 0,.int .i64 0,.int .i64 0,.int .i64 0] 109 87
 have HL:Hid (((w.alloc (mvO (im v))).alloc hdZ).heap[w.heap.size]?=some (.cells #[.int .i64 (im v).kind,.int .i64 (im v).n] 109 (0,0))∧((w.alloc (mvO (im v))).alloc hdZ).heap[w.heap.size+1]?=some (.cells #[.int .i64 0,.int .i64 0,.int .i64 0,.int .i64 0] 87 (0,0))):=⟨L0,L1⟩
 clear R hA hv h0 hn ht hok L0 L1
 go_enter Try.func96,Try.ntmps96
 go_wp2
 go_loopw [14] (fun i wr=>∃q:Nat,q≤l.length∧i=.int .i64 q∧Hid (h.caughtL pc l=h.caughtL pc (l.drop q))∧Hid (Bl w wr)∧Hid (wr.heap[w.heap.size]?=some (.cells #[.int .i64 (im v).kind,.int .i64 (im v).n] 109 (0,0))∧wr.heap[w.heap.size+1]?=some (.cells #[.int .i64 0,.int .i64 0,.int .i64 0,.int .i64 0] 87 (0,0)))) (fun i _=>l.length-(intOf i).toNat)
 case atStart=>exact ⟨0,Nat.zero_le _,rfl,(show h.caughtL pc l=h.caughtL pc (l.drop 0) from rfl),HAL.out,HL.out⟩
 case round =>
  clear HL HAL
  obtain ⟨q,hq,rfl,hc,hg,HL⟩:=hrel
  by_cases hql:q<l.length
  ·rcases (HA.out.bl hg.out).2 with z0|⟨b,off,rfl,hcell⟩
   ·omega
   obtain ⟨x0,x1,x2,x3,-⟩:=hcell q hql
   obtain ⟨o1,o2,o3,o4⟩:=HOK.out q hql
   have HSK:Hid (h.fits (nth hd0 l q) pc=false→h.caughtL pc (l.drop q)=h.caughtL pc (l.drop (q+1))):=fun e=>caught_skip hql e
   have HHT:Hid (h.fits (nth hd0 l q) pc=true→h.caughtL pc (l.drop q)=(nth hd0 l q).pc):=fun e=>caught_hit hql e
   generalize hX:nth hd0 l q=x at *
   have HB:Hid (∀w',Bl wr w'→Calls Try.prog 122 #[.pointer (some ⟨g.hb,0,none⟩),mvV (im v),.int .i64 x.cls] w' fun e w2=>e=.returned (.bool (belI h.file.classes (h.obj v.n).cls x.cls))∧Bl w' w2):=fun w' hb=>by
    have:=mbelow_any g h v x.cls w' ((HR.out.bl hg.out).bl hb) HV.out.1 (by have:=HV.out.2.1;omega) HV.out.2.2.1
    rwa [decide_eq_true HV.out.2.1,Bool.true_and] at this
   have HFT:Hid (h.fits x pc=(decide (x.fr≤pc∧pc≤x.til-1)&&belI h.file.classes (h.obj v.n).cls x.cls)):=by
    show h.fits x pc=_
    unfold Hp.fits
    rw [HV.out.2.2.2,Bool.eq_iff_iff]
    simp only [Bool.and_eq_true,decide_eq_true_eq]
    constructor
    ·rintro ⟨a,b,c⟩;exact ⟨by omega,c⟩
    ·rintro ⟨a,c⟩;exact ⟨by omega,by omega,c⟩
   have k0:=c0_of HL.out.1
   have k1:=c1_of HL.out.1
   have hlt:=lt_some HL.out.2
   clear hcell hX
   have K0:∀o,(wr.alloc o).cell? ⟨w.heap.size,0,none⟩=some (.int .i64 (im v).kind):=fun o=>((Bl.refl wr).alloc o).cell k0
   have K1:∀o,(wr.alloc o).cell? ⟨w.heap.size,1,none⟩=some (.int .i64 (im v).n):=fun o=>((Bl.refl wr).alloc o).cell k1
   obtain ⟨T,hT⟩:∃T,decide (x.fr≤pc∧pc≤x.til-1)=T:=⟨_,rfl⟩
   obtain ⟨U,hU⟩:∃U,belI h.file.classes (h.obj v.n).cls x.cls=U:=⟨_,rfl⟩
   have HT:=hid hT
   have HU:=hid hU
   rw [hT,hU] at HFT
   have bn:=blk_new wr #[.int .i64 x.fr,.int .i64 x.til,.int .i64 x.pc,.int .i64 x.cls] 87
   have HBN:=hid bn
   clear hT hU bn
   cases T with
   | false =>
    have HNO:=hid (HSK.out (HFT.out.trans rfl))
    go_wp2_with (go_at_call 37;refine (span_any _ _ _ _).mono ?_;rintro e w0 ⟨he,hw0⟩;rw [HT.out] at he;subst he;rw [hw0];clear hw0 w0)
    go_roundw
    case rel=>exact ⟨q+1,by omega,by go_num,hc.out.trans HNO.out,hg.out.alloc _,bl_blk ((Bl.refl wr).alloc _) HL.out.1,bl_blk ((Bl.refl wr).alloc _) HL.out.2⟩
    case measure=>simp [intOf];omega
   | true =>
    cases U with
    | false =>
     have HNO:=hid (HSK.out (HFT.out.trans rfl))
     go_wp2_with (first
      | (go_at_call 37;refine (span_any _ _ _ _).mono ?_;rintro e w0 ⟨he,hw0⟩;rw [HT.out] at he;subst he;rw [hw0];clear hw0 w0)
      | (go_at_call 122;refine (HB.out _ ((Bl.refl wr).alloc _)).mono ?_;rintro e w2 ⟨he,b2⟩;rw [HU.out] at he;subst he;replace b2:=hid b2))
     go_roundw
     case rel=>exact ⟨q+1,by omega,by go_num,hc.out.trans HNO.out,(hg.out.alloc _).trans b2.out,bl_blk (((Bl.refl wr).alloc _).trans b2.out) HL.out.1,bl_blk (((Bl.refl wr).alloc _).trans b2.out) HL.out.2⟩
     case measure=>simp [intOf];omega
    | true =>
     have HYES:=hid (hc.out.trans (HHT.out (HFT.out.trans rfl)))
     go_wp2_with (first
      | (go_at_call 37;refine (span_any _ _ _ _).mono ?_;rintro e w0 ⟨he,hw0⟩;rw [HT.out] at he;subst he;rw [hw0];clear hw0 w0)
      | (go_at_call 122;refine (HB.out _ ((Bl.refl wr).alloc _)).mono ?_;rintro e w2 ⟨he,b2⟩;rw [HU.out] at he;subst he;have q2:=bl_blk (((Bl.refl wr).alloc _).trans b2) HL.out.2;have fz:=free_blk q2;have y0:w2.cell? ⟨w.heap.size+1,0,none⟩=some (.int .i64 0):=(cell_blk q2).trans rfl;have y1:w2.cell? ⟨w.heap.size+1,1,none⟩=some (.int .i64 0):=(cell_blk q2).trans rfl;have y2:w2.cell? ⟨w.heap.size+1,2,none⟩=some (.int .i64 0):=(cell_blk q2).trans rfl;have y3:w2.cell? ⟨w.heap.size+1,3,none⟩=some (.int .i64 0):=(cell_blk q2).trans rfl;have q5:=bl_blk b2 HBN.out;have p0:w2.cell? ⟨wr.heap.size,0,none⟩=some (.int .i64 x.fr):=(cell_blk q5).trans rfl;have p1:w2.cell? ⟨wr.heap.size,1,none⟩=some (.int .i64 x.til):=(cell_blk q5).trans rfl;have p2:w2.cell? ⟨wr.heap.size,2,none⟩=some (.int .i64 x.pc):=(cell_blk q5).trans rfl;have p3:w2.cell? ⟨wr.heap.size,3,none⟩=some (.int .i64 x.cls):=(cell_blk q5).trans rfl;replace q2:=hid q2;replace q5:=hid q5;replace b2:=hid b2))
     refine bodyPost_ret (results_cell_tmpm rfl _ _ (w.heap.size+1) _ _ _ _ _ rfl rfl (set_four q2.out _ _ _ _) Try.underlying87 rfl info_hd) rfl ?_
     exact ⟨bl_four ((hg.out.alloc _).trans b2.out) (Nat.le_succ _) _ _ _ _,x,Or.inl ⟨by rw [HYES.out];exact o4,HYES.out.symm,rfl⟩⟩
  ·obtain rfl:q=l.length:=by omega
   have q2:=HL.out.2
   have fz:=free_blk q2
   have y0:wr.cell? ⟨w.heap.size+1,0,none⟩=some (.int .i64 0):=(cell_blk q2).trans rfl
   have y1:wr.cell? ⟨w.heap.size+1,1,none⟩=some (.int .i64 0):=(cell_blk q2).trans rfl
   have y2:wr.cell? ⟨w.heap.size+1,2,none⟩=some (.int .i64 0):=(cell_blk q2).trans rfl
   have y3:wr.cell? ⟨w.heap.size+1,3,none⟩=some (.int .i64 0):=(cell_blk q2).trans rfl
   replace q2:=hid q2
   go_wp2
   refine bodyPost_ret (results_cell_tmpm rfl _ _ (w.heap.size+1) _ _ _ _ _ rfl rfl (set_four q2.out _ _ _ _) Try.underlying87 rfl info_hd) rfl ?_
   have hc':=hc.out
   rw [List.drop_length] at hc'
   exact ⟨bl_four hg.out (Nat.le_succ _) _ _ _ _,hd0,Or.inr ⟨by rw [hc'];show (-1:Int)<0;decide,rfl⟩⟩
end Go.Proofs.Ytgiiapenmjollaa
