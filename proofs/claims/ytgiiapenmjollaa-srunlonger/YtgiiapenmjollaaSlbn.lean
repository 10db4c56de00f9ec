import Derived.Test.YtgiiapenmjollaaSlbm
namespace Go.Proofs.Ytgiiapenmjollaa
set_option linter.all false
set_option maxHeartbeats 40000000
open Go.RowKit
section
open Go.Maps (Keyed has)
theorem RXY.blw {s:Nat} {X Y:Nat→Prop} {wx w0 w:World} {g:Mg} {h:Hp} {qs:List Nat} {a:Mc} {c:Cal} (H:RXY s X Y wx w0 g w h qs a c):Bl w0 w:=by
 obtain ⟨vc,vo,vx,vs,l,H,-⟩:=H
 exact H.rh.bl
theorem RXY.hc0 {s:Nat} {X Y:Nat→Prop} {wx w0 w:World} {g:Mg} {h:Hp} {qs:List Nat} {a:Mc} {c:Cal} (H:RXY s X Y wx w0 g w h qs a c) {A:Option Addr} (hA:g.A=A):w.cell? ⟨g.hb,0,none⟩=some (.slice A h.file.classes.length g.a):=by
 obtain ⟨vc,vo,vx,vs,l,H,-⟩:=H
 rw [←hA]
 exact H.rh.heapCells.1
theorem set2_cellE {w:World} {b b' i:Nat} {k n x:Value} (h:w.cell? ⟨b,i,none⟩=some x) (hb:b≠b'):((w.setCell ⟨b',0,none⟩ k).setCell ⟨b',1,none⟩ n).cell? ⟨b,i,none⟩=some x:=set2_cellD h hb
theorem pq1 {X Y1:Nat→Prop} {wx w0 w2:World} {g:Mg} {h:Hp} {qs:List Nat} {a:Mc} {c:Cal} {n:Nat} {o:Obj} (H1:Hid (RXY 1 X Y1 wx w0 g w2 h qs a c)) (bx:Hid (w2.heap[n]?=some o)) (hy:Y1 n) (v:Va) :
  ∃W b4 Y,RXY 1 X Y wx w0 g W h qs a c∧Y n∧Y b4∧W.heap[n]?=some o∧W.heap[b4]?=some (.cells #[.int .i64 v.kind,.int .i64 v.n] 109 (0,0))∧W=w2.alloc (mvO v)∧b4=w2.heap.size :=
 ⟨_,_,_,H1.out.bl ((Bl.refl w2).alloc (mvO v)),Xp.old hy,Xp.new (Nat.le_refl _) (lt_w1 w2 _),(Below.heap_alloc _ _ _ (lt_some bx.out)).trans bx.out,blk_new _ _ _,rfl,rfl⟩
theorem pq2 {X Y1:Nat→Prop} {wx w0 w2:World} {g:Mg} {h:Hp} {qs:List Nat} {a:Mc} {c:Cal} {n b:Nat} {cs:Array Value} {t:TypeId} {k0 n0:Value} (H1:Hid (RXY 1 X Y1 wx w0 g w2 h qs a c)) (bx:Hid (w2.heap[n]?=some (.cells cs t (0,0)))) (hy:Y1 n) (hz:Y1 b) (q9:Hid (w2.heap[b]?=some (.cells #[k0,n0] 109 (0,0)))) (hne:n≠b) (v:Va) :
  ∃W b4 Y,RXY 1 X Y wx w0 g W h qs a c∧Y n∧Y b4∧W.heap[n]?=some (.cells cs t (0,0))∧W.heap[b4]?=some (.cells #[.int .i64 v.kind,.int .i64 v.n] 109 (0,0))∧W=((w2.setCell ⟨b,0,none⟩ (.int .i64 v.kind)).setCell ⟨b,1,none⟩ (.int .i64 v.n))∧b4=b :=
 ⟨_,_,_,RXY.set (b:=b) (RXY.set (b:=b) H1.out hz 0 (.int .i64 v.kind)) hz 1 (.int .i64 v.n),hy,hz,set_two_far bx.out hne _ _,set_two q9.out,rfl,rfl⟩
set_option maxRecDepth 100000 in
theorem handle_op16b (X:Nat→Prop) (wx w0:World) (g:Mg) (h:Hp) (qs:List Nat) (a:Mc) (c:Cal) (ia ib ic ii:Int) (args:List Int) (Q:Option Addr) (nl q:Nat) (w:World) (H:RX 1 X wx w0 g w h qs a c) (hs:h.stops=false) (hl:c.stk.length≤1000) (F:Fix w0 g h) (hob:h.objs.length≤100) (hst:∀v∈c.stk,v.kind=3→-1≤v.n∧v.n<h.objs.length) (hfl:0≤ia∧ia<h.file.classes.length∧0≤ib∧ib<(nth cl0 h.file.classes ia.toNat).fields.length) (l1:List Va) (v:Va) (h0:c.stk=l1++[v]) (hof:h.of v (fieldT h.file.classes ia ib)=true) (hn:l1=[]∨∃(l:List Va) (u:Va),l1=l++[u]∧(u.kind=3→-1≤u.n∧u.n<h.objs.length)∧h.of u ⟨3,ia⟩=false) :
  Calls Try.prog 121 #[.pointer (some ⟨a.q,0,none⟩),.agg #[.int .i64 16,.int .i64 ia,.int .i64 ib,.int .i64 ic,.int .i64 ii,.slice Q nl q]] w fun e w'=>DidQ X wx w0 g qs a c ⟨h.fin 6,c,0⟩ e w':=by
 obtain ⟨cc,rfl⟩:∃cc:Nat,ia=cc:=⟨ia.toNat,by omega⟩
 obtain ⟨k,rfl⟩:∃k:Nat,ib=k:=⟨ib.toNat,by omega⟩
 rw [Int.toNat_natCast] at hfl
 have hc:cc<h.file.classes.length:=by omega
 have hkf:k<(nth cl0 h.file.classes cc).fields.length:=by omega
 have hof':=hof
 rw [fieldT_nat] at hof
 have ho:=hs_over hs
 have HH:=hid H
 have HS:=hid hs
 have HB:Hid (Bl w (w.alloc (.cells #[.int .i64 16,.int .i64 (cc:Int),.int .i64 (k:Int),.int .i64 ic,.int .i64 ii,.slice Q nl q] 51))):=(Bl.refl w).alloc _
 have HL:=hid (blk_new w #[.int .i64 16,.int .i64 (cc:Int),.int .i64 (k:Int),.int .i64 ic,.int .i64 ii,.slice Q nl q] 51)
 have z0:=hid ((H.y.bl HB.out).hb)
 have z1:=hid (ins_of HL.out).1
 have z2:=hid (ins_of HL.out).2
 obtain ⟨fb,fo,FB,ff,uc,hA,y0,m1,m2,y1,y2⟩:=fld_cells F.cls hc hkf
 have HBW:Bl w0 w:=by
  obtain ⟨vc,vo,vx,vs,l,H⟩:=H
  exact H.rh.bl
 have HA:=hid hA
 have z3:Hid ((w.alloc (.cells #[.int .i64 16,.int .i64 (cc:Int),.int .i64 (k:Int),.int .i64 ic,.int .i64 ii,.slice Q nl q] 51)).cell? ⟨g.hb,0,none⟩=some (.slice (some ⟨fb,fo,none⟩) h.file.classes.length g.a)):=by
  obtain ⟨vc,vo,vx,vs,l,H⟩:=H
  rw [←hA]
  exact Bl.cell HB.out H.rh.heapCells.1
 have hhb:g.hb<w.heap.size:=by
  obtain ⟨vc,vo,vx,vs,l,H⟩:=H
  exact lt_some H.rh.hp
 have hqq:=H.qlt
 have hf1:=cell_lt (Bl.cell HBW y0)
 have hf2:=cell_lt (Bl.cell HBW y1)
 have z4:=hid (Bl.cell HB.out (Bl.cell HBW y0))
 have z5:=hid (Bl.cell HB.out (Bl.cell HBW y1))
 have z6:=hid (Bl.cell HB.out (Bl.cell HBW y2))
 have HT1':Hid (∀X wx w,RX 1 X wx w0 g w h qs a c→Calls Try.prog 114 #[.pointer (some ⟨a.q,0,none⟩),tyMV (nth ty0 (nth cl0 h.file.classes cc).fields k)] w fun e w'=>e=.returned (mvV (im v))∧RX 1 X wx w0 g w' h qs a { c with stk:=l1 }):=fun X wx w H=>takeType_yes 1 X wx w0 g h qs a c l1 v _ w H F hob h0 (hst v (by rw [h0];simp)) hof
 obtain ⟨t,ht⟩:∃t,nth ty0 (nth cl0 h.file.classes cc).fields k=t:=⟨_,rfl⟩
 rw [ht] at HT1' z5 z6 y1 y2
 have HT1:=HT1'
 have HY0:=hid y0
 have HY1:=hid y1
 have HY2:=hid y2
 have hc0:(0:Int)≤(cc:Int):=by omega
 have hc1:(cc:Int)<(h.file.classes.length:Int):=by omega
 have hk0:(0:Int)≤(k:Int):=by omega
 have hk1:(k:Int)<((nth cl0 h.file.classes cc).fields.length:Int):=by omega
 have HN2:Hid (∀X wx w,RX 1 X wx w0 g w h qs a { c with stk:=l1 }→Calls Try.prog 114 #[.pointer (some ⟨a.q,0,none⟩),tyMV ⟨3,(cc:Int)⟩] w fun e w'=>e=stopE 6 0 0∧RS 1 X wx w0 g w' h qs a { c with stk:=l1 }):=fun X wx w H=>takeType_no 1 X wx w0 g h qs a { c with stk:=l1 } ⟨3,(cc:Int)⟩ w H F hob hn
 clear H hs F hst hfl hA y0 y1 y2 m1 m2 HBW hof hof' HT1' ht h0 hn
 go_enter Try.func121,Try.ntmps121
 go_wp2
 refine wp_region_held_drew (S:=fun w'=>w'.cell? ⟨a.q,0,none⟩=some (.pointer (some ⟨g.hb,0,none⟩))∧w'.cell? ⟨w.heap.size,1,none⟩=some (.int .i64 (cc:Int))∧w'.cell? ⟨w.heap.size,2,none⟩=some (.int .i64 (k:Int))∧w'.cell? ⟨g.hb,0,none⟩=some (.slice (some ⟨fb,fo,none⟩) h.file.classes.length g.a)∧w'.cell? ⟨fb,fo+cc*2+1,none⟩=some (.slice (some ⟨FB,ff,none⟩) (nth cl0 h.file.classes cc).fields.length uc)∧w'.cell? ⟨FB,ff+k*2,none⟩=some (.int .i64 t.kind)∧w'.cell? ⟨FB,ff+k*2+1,none⟩=some (.int .i64 t.cls)) (by kernel_rfl) ?_ (fun hHeld0=>?_)
 ·exact ⟨z0.out,z1.out,z2.out,z3.out,z4.out,z5.out,z6.out⟩
 refine tk (i:=0) (d:=some 38) rfl rfl (by kernel_rfl) (fun _ _ _ h=>h) (by rfl) (by intro _ h;(try dsimp only at h);go_split_ands;go_simp<;>with_reducible rfl) hHeld0 ?_
 try simp only [aS,aN,aT,a0,a1]
 refine tk (i:=1) (d:=some 39) rfl rfl (by kernel_rfl) (fun _ _ _ h=>h) (by rfl) (by intro _ h;(try dsimp only at h);go_split_ands;go_simp<;>with_reducible rfl) hHeld0 ?_
 try simp only [aS,aN,aT,a0,a1]
 refine tk (i:=2) (d:=some 40) rfl rfl (by kernel_rfl) (fun _ _ _ h=>h) (by rfl) (by intro _ h;(try dsimp only at h);go_split_ands;go_simp<;>with_reducible rfl) hHeld0 ?_
 try simp only [aS,aN,aT,a0,a1]
 refine tk (i:=3) (d:=some 41) rfl rfl (by kernel_rfl) (fun _ _ _ h=>h) (by rfl) (by intro _ h;(try dsimp only at h);go_split_ands;go_simp<;>with_reducible rfl) hHeld0 ?_
 try simp only [aS,aN,aT,a0,a1]
 refine tk (i:=4) (d:=some 42) rfl rfl (by kernel_rfl) (fun _ _ _ h=>h) (by rfl) (by intro _ h;(try dsimp only at h);go_split_ands;go_simp<;>with_reducible rfl) hHeld0 ?_
 try simp only [aS,aN,aT,a0,a1]
 refine tk (i:=5) (d:=some 43) rfl rfl (by kernel_rfl) (fun _ _ _ h=>h) (by rfl) (by intro _ h;(try dsimp only at h);go_split_ands;go_simp<;>with_reducible rfl) hHeld0 ?_
 try simp only [aS,aN,aT,a0,a1]
 refine tk (i:=6) (d:=some 44) rfl rfl (by kernel_rfl) (fun _ _ _ h=>h) (by rfl) (by intro _ h;(try dsimp only at h);go_split_ands;go_simp<;>with_reducible rfl) hHeld0 ?_
 try simp only [aS,aN,aT,a0,a1]
 refine tk (i:=7) (d:=some 45) rfl rfl (by kernel_rfl) (fun _ _ _ h=>h) (by rfl) (by intro _ h;(try dsimp only at h);go_split_ands;go_simp<;>with_reducible rfl) hHeld0 ?_
 try simp only [aS,aN,aT,a0,a1]
 refine tk (i:=8) (d:=some 46) rfl rfl (by kernel_rfl) (fun _ _ _ h=>h) (by rfl) (by intro _ h;(try dsimp only at h);go_split_ands;go_simp<;>with_reducible rfl) hHeld0 ?_
 try simp only [aS,aN,aT,a0,a1]
 refine tk (i:=9) (d:=some 47) rfl rfl (by kernel_rfl) (fun _ _ _ h=>h) (by rfl) (by intro _ h;(try dsimp only at h);go_split_ands;go_simp<;>with_reducible rfl) hHeld0 ?_
 try simp only [aS,aN,aT,a0,a1]
 refine tk (i:=10) (d:=some 48) rfl rfl (by kernel_rfl) (fun _ _ _ h=>h) (by rfl) (by intro _ h;(try dsimp only at h);go_split_ands;go_simp<;>with_reducible rfl) hHeld0 ?_
 try simp only [aS,aN,aT,a0,a1]
 refine tk (i:=11) (d:=some 49) rfl rfl (by kernel_rfl) (fun _ _ _ h=>h) (by rfl) (by intro _ h;(try dsimp only at h);go_split_ands;go_simp<;>with_reducible rfl) hHeld0 ?_
 try simp only [aS,aN,aT,a0,a1]
 refine tk (i:=12) (d:=some 50) rfl rfl (by kernel_rfl) (fun _ _ _ h=>h) (by rfl) (by intro _ h;(try dsimp only at h);go_split_ands;go_simp<;>with_reducible rfl) hHeld0 ?_
 try simp only [aS,aN,aT,a0,a1]
 refine tk (i:=13) (d:=some 51) rfl rfl (by kernel_rfl) (fun _ _ _ h=>h) (by rfl) (by intro _ h;(try dsimp only at h);go_split_ands;go_simp<;>with_reducible rfl) hHeld0 ?_
 try simp only [aS,aN,aT,a0,a1]
 refine tk (i:=14) (d:=some 52) rfl rfl (by kernel_rfl) (fun _ _ _ h=>h) (by rfl) (by intro _ h;(try dsimp only at h);go_split_ands;go_simp<;>with_reducible rfl) hHeld0 ?_
 try simp only [aS,aN,aT,a0,a1]
 refine tk (i:=15) (d:=some 53) rfl rfl (by kernel_rfl) (fun _ _ _ h=>h) (by rfl) (by intro _ h;(try dsimp only at h);go_split_ands;go_simp<;>with_reducible rfl) hHeld0 ?_
 try simp only [aS,aN,aT,a0,a1]
 refine tk (i:=16) (d:=some 54) rfl rfl (by kernel_rfl) (fun _ _ _ h=>h) (by rfl) (by intro _ h;(try dsimp only at h);go_split_ands;go_simp<;>with_reducible rfl) hHeld0 ?_
 try simp only [aS,aN,aT,a0,a1]
 refine wpAnyH_ready (rs:=[17,18]) (by kernel_rfl) (by simp) ?_
 refine AllReadyH.cons rfl (fun K hK=>?_) (AllReadyH.cons rfl (fun K hK=>?_) (AllReadyH.nil))
 ·go_simp
  go_at_call 114
  refine (HH.out.y.useY (by first|exact HB.out.drew|exact HB.out.drew.alloc _) HT1.out).mono ?_
  rintro e w2 ⟨rfl,H1,K1⟩
  have bxK1:=K1.at (Xp.new (Nat.le_refl _) (by first|exact lt_w1 w _|exact lt_w2a w _ _)) (by first|exact HL.out|exact (Below.heap_alloc _ _ _ (lt_some HL.out)).trans HL.out)
  have K1a:=hid H1.hb
  have K1b:=hid (ins_of bxK1).1
  have K1c:=hid (ins_of bxK1).2
  have hbl:=RXY.blw H1
  have K3:=hid (H1.hc0 HA.out)
  have K4:=hid (Bl.cell hbl HY0.out)
  have K5:=hid (Bl.cell hbl HY1.out)
  have K6:=hid (Bl.cell hbl HY2.out)
  have hsz:=K1.size
  try (have q9:=K1.at (b:=w.heap.size+1) (Xp.new (Nat.le_succ _) (lt_w2b w _ _)) (two_lie w _ _ _ _).2;have p0:=c0_of q9;have p1:=c1_of q9;have pz:=free_blk q9;replace q9:=hid q9)
  replace bxK1:=hid bxK1
  replace H1:=hid H1
  clear K1 hbl
  go_wp2_with fail
  refine hK.out _ _ (⟨K1a.out,K1b.out,K1c.out,K3.out,K4.out,K5.out,K6.out⟩) (fun hHeld1=>?_)
  try simp only [aS,aN,aT,a0,a1]
  refine rd1 (i:=18) (by kernel_rfl) rfl fun K hK=>?_
  go_wp2_with fail
  refine hK.out _ _ (⟨Bl.cell ((Bl.refl _).alloc _) hHeld1.1,Bl.cell ((Bl.refl _).alloc _) hHeld1.2.1,Bl.cell ((Bl.refl _).alloc _) hHeld1.2.2.1,Bl.cell ((Bl.refl _).alloc _) hHeld1.2.2.2.1,Bl.cell ((Bl.refl _).alloc _) hHeld1.2.2.2.2.1,Bl.cell ((Bl.refl _).alloc _) hHeld1.2.2.2.2.2.1,Bl.cell ((Bl.refl _).alloc _) hHeld1.2.2.2.2.2.2⟩) (fun hHeld2=>?_)
  try simp only [aS,aN,aT,a0,a1]
  refine rd1 (i:=19) (by kernel_rfl) rfl fun K hK=>?_
  go_wp2_with fail
  refine hK.out _ _ (by first|exact ⟨Bl.cell ((Bl.refl _).alloc _) K1a.out,Bl.cell ((Bl.refl _).alloc _) K1b.out,Bl.cell ((Bl.refl _).alloc _) K1c.out,Bl.cell ((Bl.refl _).alloc _) K3.out,Bl.cell ((Bl.refl _).alloc _) K4.out,Bl.cell ((Bl.refl _).alloc _) K5.out,Bl.cell ((Bl.refl _).alloc _) K6.out⟩|exact ⟨set2_cellE K1a.out (by omega),set2_cellE K1b.out (by omega),set2_cellE K1c.out (by omega),set2_cellE K3.out (by omega),set2_cellE K4.out (by omega),set2_cellE K5.out (by omega),set2_cellE K6.out (by omega)⟩) (fun hHeld3=>?_)
  try simp only [aS,aN,aT,a0,a1]
  refine wpAnyH_done (by kernel_rfl) ?_ _
  go_wp2
  first
   | (obtain ⟨W,b4,Y,H4,y1,y2,g1,g2,gW,gb⟩:=pq1 H1 bxK1 (Xp.new (Nat.le_refl _) (lt_w1 w _)) (im v);rw [←gb,←gW])
   | (obtain ⟨W,b4,Y,H4,y1,y2,g1,g2,gW,gb⟩:=pq2 (b:=w.heap.size+1) H1 bxK1 (Xp.new (Nat.le_refl _) (lt_w2a w _ _)) (Xp.new (Nat.le_succ _) (lt_w2b w _ _)) q9 (by omega) (im v);rw [←gW,←gb])
  clear gW gb
  have x0:=hid H4.hb
  have x1:=hid (ins_of g1).1
  have x2:=hid (ins_of g1).2
  have x3:=hid (c0_of g2)
  have x4:=hid (c1_of g2)
  replace H4:=hid H4
  replace g1:=hid g1
  replace g2:=hid g2
  refine wp_region_held_drew (S:=fun w'=>w'.cell? ⟨a.q,0,none⟩=some (.pointer (some ⟨g.hb,0,none⟩))∧w'.cell? ⟨w.heap.size,1,none⟩=some (.int .i64 (cc:Int))∧w'.cell? ⟨w.heap.size,2,none⟩=some (.int .i64 (k:Int))∧w'.cell? ⟨b4,0,none⟩=some (.int .i64 (im v).kind)∧w'.cell? ⟨b4,1,none⟩=some (.int .i64 (im v).n)) (by kernel_rfl) ?_ (fun hHeld0=>?_)
  ·exact ⟨x0.out,x1.out,x2.out,x3.out,x4.out⟩
  refine tk (i:=0) (d:=some 56) rfl rfl (by kernel_rfl) (fun _ _ _ h=>h) (by rfl) (by intro _ h;(try dsimp only at h);go_split_ands;go_simp<;>with_reducible rfl) hHeld0 ?_
  try simp only [aS,aN,aT,a0,a1]
  refine tk (i:=1) (d:=some 57) rfl rfl (by kernel_rfl) (fun _ _ _ h=>h) (by rfl) (by intro _ h;(try dsimp only at h);go_split_ands;go_simp<;>with_reducible rfl) hHeld0 ?_
  try simp only [aS,aN,aT,a0,a1]
  refine tk (i:=2) (d:=some 58) rfl rfl (by kernel_rfl) (fun _ _ _ h=>h) (by rfl) (by intro _ h;(try dsimp only at h);go_split_ands;go_simp<;>with_reducible rfl) hHeld0 ?_
  try simp only [aS,aN,aT,a0,a1]
  refine tk (i:=3) (d:=some 59) rfl rfl (by kernel_rfl) (fun _ _ _ h=>h) (by rfl) (by intro _ h;(try dsimp only at h);go_split_ands;go_simp<;>with_reducible rfl) hHeld0 ?_
  try simp only [aS,aN,aT,a0,a1]
  refine tk (i:=4) (d:=some 60) rfl rfl (by kernel_rfl) (fun _ _ _ h=>h) (by rfl) (by intro _ h;(try dsimp only at h);go_split_ands;go_simp<;>with_reducible rfl) hHeld0 ?_
  try simp only [aS,aN,aT,a0,a1]
  refine tk (i:=5) (d:=some 61) rfl rfl (by kernel_rfl) (fun _ _ _ h=>h) (by rfl) (by intro _ h;(try dsimp only at h);go_split_ands;go_simp<;>with_reducible rfl) hHeld0 ?_
  try simp only [aS,aN,aT,a0,a1]
  refine tk (i:=6) (d:=some 62) rfl rfl (by kernel_rfl) (fun _ _ _ h=>h) (by rfl) (by intro _ h;(try dsimp only at h);go_split_ands;go_simp<;>with_reducible rfl) hHeld0 ?_
  try simp only [aS,aN,aT,a0,a1]
  refine tk (i:=9) (d:=some 65) rfl rfl (by kernel_rfl) (fun _ _ _ h=>h) (by rfl) (by intro _ h;(try dsimp only at h);go_split_ands;go_simp<;>with_reducible rfl) hHeld0 ?_
  try simp only [aS,aN,aT,a0,a1]
  refine tk (i:=10) (d:=some 66) rfl rfl (by kernel_rfl) (fun _ _ _ h=>h) (by rfl) (by intro _ h;(try dsimp only at h);go_split_ands;go_simp<;>with_reducible rfl) hHeld0 ?_
  try simp only [aS,aN,aT,a0,a1]
  refine tk (i:=11) (d:=some 67) rfl rfl (by kernel_rfl) (fun _ _ _ h=>h) (by rfl) (by intro _ h;(try dsimp only at h);go_split_ands;go_simp<;>with_reducible rfl) hHeld0 ?_
  try simp only [aS,aN,aT,a0,a1]
  refine tk (i:=12) (d:=some 68) rfl rfl (by kernel_rfl) (fun _ _ _ h=>h) (by rfl) (by intro _ h;(try dsimp only at h);go_split_ands;go_simp<;>with_reducible rfl) hHeld0 ?_
  try simp only [aS,aN,aT,a0,a1]
  refine tk (i:=13) (d:=some 69) rfl rfl (by kernel_rfl) (fun _ _ _ h=>h) (by rfl) (by intro _ h;(try dsimp only at h);go_split_ands;go_simp<;>with_reducible rfl) hHeld0 ?_
  try simp only [aS,aN,aT,a0,a1]
  refine rd1 (i:=7) (by kernel_rfl) rfl fun K hK=>?_
  go_simp
  go_at_call 138
  refine (refOf_any (cc:Int) _).mono ?_
  rintro e w5 ⟨rfl,b5⟩
  have d0:=hid (b5.cell hHeld0.1)
  have d1:=hid (b5.cell hHeld0.2.1)
  have d2:=hid (b5.cell hHeld0.2.2.1)
  have d3:=hid (b5.cell hHeld0.2.2.2.1)
  have d4:=hid (b5.cell hHeld0.2.2.2.2)
  have h1x:=hid (bl_blk b5 g1.out)
  have h2x:=hid (bl_blk b5 g2.out)
  replace b5:=hid b5
  go_wp2_with fail
  refine hK.out _ _ (⟨d0.out,d1.out,d2.out,d3.out,d4.out⟩) (fun hHeld1=>?_)
  try simp only [aS,aN,aT,a0,a1]
  refine rd1 (i:=8) (by kernel_rfl) rfl fun K hK=>?_
  go_simp
  go_at_call 114
  refine (H4.out.useN ((Bl.refl _).drew.trans b5.out) HN2.out).mono ?_
  rintro e w6 ⟨rfl,H6⟩
  exact ⟨rfl,did_fin (s:=0) (hs_over HS.out) rfl (H6.less.of rfl ⟨rfl,rfl⟩)⟩
 ·go_wp2_with fail
  refine hK.out _ _ (⟨Bl.cell ((Bl.refl _).alloc _) hHeld0.1,Bl.cell ((Bl.refl _).alloc _) hHeld0.2.1,Bl.cell ((Bl.refl _).alloc _) hHeld0.2.2.1,Bl.cell ((Bl.refl _).alloc _) hHeld0.2.2.2.1,Bl.cell ((Bl.refl _).alloc _) hHeld0.2.2.2.2.1,Bl.cell ((Bl.refl _).alloc _) hHeld0.2.2.2.2.2.1,Bl.cell ((Bl.refl _).alloc _) hHeld0.2.2.2.2.2.2⟩) (fun hHeld4=>?_)
  try simp only [aS,aN,aT,a0,a1]
  refine rd1 (i:=17) (by kernel_rfl) rfl fun K hK=>?_
  go_simp
  go_at_call 114
  refine (HH.out.y.useY (by first|exact HB.out.drew|exact HB.out.drew.alloc _) HT1.out).mono ?_
  rintro e w2 ⟨rfl,H1,K1⟩
  have bxK1:=K1.at (Xp.new (Nat.le_refl _) (by first|exact lt_w1 w _|exact lt_w2a w _ _)) (by first|exact HL.out|exact (Below.heap_alloc _ _ _ (lt_some HL.out)).trans HL.out)
  have K1a:=hid H1.hb
  have K1b:=hid (ins_of bxK1).1
  have K1c:=hid (ins_of bxK1).2
  have hbl:=RXY.blw H1
  have K3:=hid (H1.hc0 HA.out)
  have K4:=hid (Bl.cell hbl HY0.out)
  have K5:=hid (Bl.cell hbl HY1.out)
  have K6:=hid (Bl.cell hbl HY2.out)
  have hsz:=K1.size
  try (have q9:=K1.at (b:=w.heap.size+1) (Xp.new (Nat.le_succ _) (lt_w2b w _ _)) (two_lie w _ _ _ _).2;have p0:=c0_of q9;have p1:=c1_of q9;have pz:=free_blk q9;replace q9:=hid q9)
  replace bxK1:=hid bxK1
  replace H1:=hid H1
  clear K1 hbl
  go_wp2_with fail
  refine hK.out _ _ (⟨K1a.out,K1b.out,K1c.out,K3.out,K4.out,K5.out,K6.out⟩) (fun hHeld5=>?_)
  try simp only [aS,aN,aT,a0,a1]
  refine rd1 (i:=19) (by kernel_rfl) rfl fun K hK=>?_
  go_wp2_with fail
  refine hK.out _ _ (by first|exact ⟨Bl.cell ((Bl.refl _).alloc _) K1a.out,Bl.cell ((Bl.refl _).alloc _) K1b.out,Bl.cell ((Bl.refl _).alloc _) K1c.out,Bl.cell ((Bl.refl _).alloc _) K3.out,Bl.cell ((Bl.refl _).alloc _) K4.out,Bl.cell ((Bl.refl _).alloc _) K5.out,Bl.cell ((Bl.refl _).alloc _) K6.out⟩|exact ⟨set2_cellE K1a.out (by omega),set2_cellE K1b.out (by omega),set2_cellE K1c.out (by omega),set2_cellE K3.out (by omega),set2_cellE K4.out (by omega),set2_cellE K5.out (by omega),set2_cellE K6.out (by omega)⟩) (fun hHeld6=>?_)
  try simp only [aS,aN,aT,a0,a1]
  refine wpAnyH_done (by kernel_rfl) ?_ _
  go_wp2
  first
   | (obtain ⟨W,b4,Y,H4,y1,y2,g1,g2,gW,gb⟩:=pq1 H1 bxK1 (Xp.new (Nat.le_refl _) (lt_w1 w _)) (im v);rw [←gb,←gW])
   | (obtain ⟨W,b4,Y,H4,y1,y2,g1,g2,gW,gb⟩:=pq2 (b:=w.heap.size+1) H1 bxK1 (Xp.new (Nat.le_refl _) (lt_w2a w _ _)) (Xp.new (Nat.le_succ _) (lt_w2b w _ _)) q9 (by omega) (im v);rw [←gW,←gb])
  clear gW gb
  have x0:=hid H4.hb
  have x1:=hid (ins_of g1).1
  have x2:=hid (ins_of g1).2
  have x3:=hid (c0_of g2)
  have x4:=hid (c1_of g2)
  replace H4:=hid H4
  replace g1:=hid g1
  replace g2:=hid g2
  refine wp_region_held_drew (S:=fun w'=>w'.cell? ⟨a.q,0,none⟩=some (.pointer (some ⟨g.hb,0,none⟩))∧w'.cell? ⟨w.heap.size,1,none⟩=some (.int .i64 (cc:Int))∧w'.cell? ⟨w.heap.size,2,none⟩=some (.int .i64 (k:Int))∧w'.cell? ⟨b4,0,none⟩=some (.int .i64 (im v).kind)∧w'.cell? ⟨b4,1,none⟩=some (.int .i64 (im v).n)) (by kernel_rfl) ?_ (fun hHeld0=>?_)
  ·exact ⟨x0.out,x1.out,x2.out,x3.out,x4.out⟩
  refine tk (i:=0) (d:=some 56) rfl rfl (by kernel_rfl) (fun _ _ _ h=>h) (by rfl) (by intro _ h;(try dsimp only at h);go_split_ands;go_simp<;>with_reducible rfl) hHeld0 ?_
  try simp only [aS,aN,aT,a0,a1]
  refine tk (i:=1) (d:=some 57) rfl rfl (by kernel_rfl) (fun _ _ _ h=>h) (by rfl) (by intro _ h;(try dsimp only at h);go_split_ands;go_simp<;>with_reducible rfl) hHeld0 ?_
  try simp only [aS,aN,aT,a0,a1]
  refine tk (i:=2) (d:=some 58) rfl rfl (by kernel_rfl) (fun _ _ _ h=>h) (by rfl) (by intro _ h;(try dsimp only at h);go_split_ands;go_simp<;>with_reducible rfl) hHeld0 ?_
  try simp only [aS,aN,aT,a0,a1]
  refine tk (i:=3) (d:=some 59) rfl rfl (by kernel_rfl) (fun _ _ _ h=>h) (by rfl) (by intro _ h;(try dsimp only at h);go_split_ands;go_simp<;>with_reducible rfl) hHeld0 ?_
  try simp only [aS,aN,aT,a0,a1]
  refine tk (i:=4) (d:=some 60) rfl rfl (by kernel_rfl) (fun _ _ _ h=>h) (by rfl) (by intro _ h;(try dsimp only at h);go_split_ands;go_simp<;>with_reducible rfl) hHeld0 ?_
  try simp only [aS,aN,aT,a0,a1]
  refine tk (i:=5) (d:=some 61) rfl rfl (by kernel_rfl) (fun _ _ _ h=>h) (by rfl) (by intro _ h;(try dsimp only at h);go_split_ands;go_simp<;>with_reducible rfl) hHeld0 ?_
  try simp only [aS,aN,aT,a0,a1]
  refine tk (i:=6) (d:=some 62) rfl rfl (by kernel_rfl) (fun _ _ _ h=>h) (by rfl) (by intro _ h;(try dsimp only at h);go_split_ands;go_simp<;>with_reducible rfl) hHeld0 ?_
  try simp only [aS,aN,aT,a0,a1]
  refine tk (i:=9) (d:=some 65) rfl rfl (by kernel_rfl) (fun _ _ _ h=>h) (by rfl) (by intro _ h;(try dsimp only at h);go_split_ands;go_simp<;>with_reducible rfl) hHeld0 ?_
  try simp only [aS,aN,aT,a0,a1]
  refine tk (i:=10) (d:=some 66) rfl rfl (by kernel_rfl) (fun _ _ _ h=>h) (by rfl) (by intro _ h;(try dsimp only at h);go_split_ands;go_simp<;>with_reducible rfl) hHeld0 ?_
  try simp only [aS,aN,aT,a0,a1]
  refine tk (i:=11) (d:=some 67) rfl rfl (by kernel_rfl) (fun _ _ _ h=>h) (by rfl) (by intro _ h;(try dsimp only at h);go_split_ands;go_simp<;>with_reducible rfl) hHeld0 ?_
  try simp only [aS,aN,aT,a0,a1]
  refine tk (i:=12) (d:=some 68) rfl rfl (by kernel_rfl) (fun _ _ _ h=>h) (by rfl) (by intro _ h;(try dsimp only at h);go_split_ands;go_simp<;>with_reducible rfl) hHeld0 ?_
  try simp only [aS,aN,aT,a0,a1]
  refine tk (i:=13) (d:=some 69) rfl rfl (by kernel_rfl) (fun _ _ _ h=>h) (by rfl) (by intro _ h;(try dsimp only at h);go_split_ands;go_simp<;>with_reducible rfl) hHeld0 ?_
  try simp only [aS,aN,aT,a0,a1]
  refine rd1 (i:=7) (by kernel_rfl) rfl fun K hK=>?_
  go_simp
  go_at_call 138
  refine (refOf_any (cc:Int) _).mono ?_
  rintro e w5 ⟨rfl,b5⟩
  have d0:=hid (b5.cell hHeld0.1)
  have d1:=hid (b5.cell hHeld0.2.1)
  have d2:=hid (b5.cell hHeld0.2.2.1)
  have d3:=hid (b5.cell hHeld0.2.2.2.1)
  have d4:=hid (b5.cell hHeld0.2.2.2.2)
  have h1x:=hid (bl_blk b5 g1.out)
  have h2x:=hid (bl_blk b5 g2.out)
  replace b5:=hid b5
  go_wp2_with fail
  refine hK.out _ _ (⟨d0.out,d1.out,d2.out,d3.out,d4.out⟩) (fun hHeld1=>?_)
  try simp only [aS,aN,aT,a0,a1]
  refine rd1 (i:=8) (by kernel_rfl) rfl fun K hK=>?_
  go_simp
  go_at_call 114
  refine (H4.out.useN ((Bl.refl _).drew.trans b5.out) HN2.out).mono ?_
  rintro e w6 ⟨rfl,H6⟩
  exact ⟨rfl,did_fin (s:=0) (hs_over HS.out) rfl (H6.less.of rfl ⟨rfl,rfl⟩)⟩
set_option maxRecDepth 100000 in
theorem handle_op16c (X:Nat→Prop) (wx w0:World) (g:Mg) (h:Hp) (qs:List Nat) (a:Mc) (c:Cal) (ia ib ic ii:Int) (args:List Int) (Q:Option Addr) (nl q:Nat) (w:World) (H:RX 1 X wx w0 g w h qs a c) (hs:h.stops=false) (hl:c.stk.length≤1000) (F:Fix w0 g h) (hob:h.objs.length≤100) (hst:∀v∈c.stk,v.kind=3→-1≤v.n∧v.n<h.objs.length) (hfl:0≤ia∧ia<h.file.classes.length∧0≤ib∧ib<(nth cl0 h.file.classes ia.toNat).fields.length) (l1:List Va) (v:Va) (h0:c.stk=l1++[v]) (hof:h.of v (fieldT h.file.classes ia ib)=true) (l:List Va) (u:Va) (hl1:l1=l++[u]) (hou:h.of u ⟨3,ia⟩=true) (hun:u.n<0) :
  Calls Try.prog 121 #[.pointer (some ⟨a.q,0,none⟩),.agg #[.int .i64 16,.int .i64 ia,.int .i64 ib,.int .i64 ic,.int .i64 ii,.slice Q nl q]] w fun e w'=>DidQ X wx w0 g qs a c ⟨h.raise 1,c,0⟩ e w':=by
 obtain ⟨cc,rfl⟩:∃cc:Nat,ia=cc:=⟨ia.toNat,by omega⟩
 obtain ⟨k,rfl⟩:∃k:Nat,ib=k:=⟨ib.toNat,by omega⟩
 rw [Int.toNat_natCast] at hfl
 have hc:cc<h.file.classes.length:=by omega
 have hkf:k<(nth cl0 h.file.classes cc).fields.length:=by omega
 have hof':=hof
 rw [fieldT_nat] at hof
 have ho:=hs_over hs
 have HH:=hid H
 have HS:=hid hs
 have HB:Hid (Bl w (w.alloc (.cells #[.int .i64 16,.int .i64 (cc:Int),.int .i64 (k:Int),.int .i64 ic,.int .i64 ii,.slice Q nl q] 51))):=(Bl.refl w).alloc _
 have HL:=hid (blk_new w #[.int .i64 16,.int .i64 (cc:Int),.int .i64 (k:Int),.int .i64 ic,.int .i64 ii,.slice Q nl q] 51)
 have z0:=hid ((H.y.bl HB.out).hb)
 have z1:=hid (ins_of HL.out).1
 have z2:=hid (ins_of HL.out).2
 obtain ⟨fb,fo,FB,ff,uc,hA,y0,m1,m2,y1,y2⟩:=fld_cells F.cls hc hkf
 have HBW:Bl w0 w:=by
  obtain ⟨vc,vo,vx,vs,l,H⟩:=H
  exact H.rh.bl
 have HA:=hid hA
 have z3:Hid ((w.alloc (.cells #[.int .i64 16,.int .i64 (cc:Int),.int .i64 (k:Int),.int .i64 ic,.int .i64 ii,.slice Q nl q] 51)).cell? ⟨g.hb,0,none⟩=some (.slice (some ⟨fb,fo,none⟩) h.file.classes.length g.a)):=by
  obtain ⟨vc,vo,vx,vs,l,H⟩:=H
  rw [←hA]
  exact Bl.cell HB.out H.rh.heapCells.1
 have hhb:g.hb<w.heap.size:=by
  obtain ⟨vc,vo,vx,vs,l,H⟩:=H
  exact lt_some H.rh.hp
 have hqq:=H.qlt
 have hf1:=cell_lt (Bl.cell HBW y0)
 have hf2:=cell_lt (Bl.cell HBW y1)
 have z4:=hid (Bl.cell HB.out (Bl.cell HBW y0))
 have z5:=hid (Bl.cell HB.out (Bl.cell HBW y1))
 have z6:=hid (Bl.cell HB.out (Bl.cell HBW y2))
 have HT1':Hid (∀X wx w,RX 1 X wx w0 g w h qs a c→Calls Try.prog 114 #[.pointer (some ⟨a.q,0,none⟩),tyMV (nth ty0 (nth cl0 h.file.classes cc).fields k)] w fun e w'=>e=.returned (mvV (im v))∧RX 1 X wx w0 g w' h qs a { c with stk:=l1 }):=fun X wx w H=>takeType_yes 1 X wx w0 g h qs a c l1 v _ w H F hob h0 (hst v (by rw [h0];simp)) hof
 obtain ⟨t,ht⟩:∃t,nth ty0 (nth cl0 h.file.classes cc).fields k=t:=⟨_,rfl⟩
 rw [ht] at HT1' z5 z6 y1 y2
 have HT1:=HT1'
 have HY0:=hid y0
 have HY1:=hid y1
 have HY2:=hid y2
 have hc0:(0:Int)≤(cc:Int):=by omega
 have hc1:(cc:Int)<(h.file.classes.length:Int):=by omega
 have hk0:(0:Int)≤(k:Int):=by omega
 have hk1:(k:Int)<((nth cl0 h.file.classes cc).fields.length:Int):=by omega
 have hug:=hst u (by rw [h0,hl1];simp)
 have hku:u.kind=3:=of_ref hou
 have hu3:=hug hku
 have HT2:Hid (∀X wx w,RX 1 X wx w0 g w h qs a { c with stk:=l1 }→Calls Try.prog 114 #[.pointer (some ⟨a.q,0,none⟩),tyMV ⟨3,(cc:Int)⟩] w fun e w'=>e=.returned (mvV (im u))∧RX 1 X wx w0 g w' h qs a { c with stk:=l }):=fun X wx w H=>takeType_yes 1 X wx w0 g h qs a { c with stk:=l1 } l u ⟨3,(cc:Int)⟩ w H F hob hl1 hug hou
 obtain ⟨E,hE⟩:∃E,raiseE h=E:=⟨_,rfl⟩
 have HX0:Hid (∃ch,E=.panicked ch):=by
  rw [←hE];unfold raiseE;split<;>exact ⟨_,rfl⟩
 have HPU:Hid (∀X wx w,RX 1 X wx w0 g w h qs a { c with stk:=l }→Calls Try.prog 139 #[.pointer (some ⟨g.hb,0,none⟩),mvV (im u),.int .i64 (cc:Int),.int .i64 (k:Int),mvV (im v)] w fun e w'=>e=E∧RX 1 X wx w0 g w' (h.raise 1) qs a { c with stk:=l }):=fun X wx w H=>hE▸mputF_nil 1 X wx w0 g h qs a { c with stk:=l } u (im v) cc k w H hob ho hku (by omega)
 have HD:Hid (∀w',RS 0 X wx w0 g w' (h.raise 1) qs a c→DidQ X wx w0 g qs a c ⟨h.raise 1,c,0⟩ E w'):=fun w' H=>hE▸did_raise hs rfl H
 generalize im u=UI at HT2 HPU
 clear H hs F hst hfl hA y0 y1 y2 m1 m2 HBW hof hof' HT1' ht h0 hl1 hou hun hug hku hu3 hE
 obtain ⟨ch,rfl⟩:=HX0.out
 go_enter Try.func121,Try.ntmps121
 go_wp2
 refine wp_region_held_drew (S:=fun w'=>w'.cell? ⟨a.q,0,none⟩=some (.pointer (some ⟨g.hb,0,none⟩))∧w'.cell? ⟨w.heap.size,1,none⟩=some (.int .i64 (cc:Int))∧w'.cell? ⟨w.heap.size,2,none⟩=some (.int .i64 (k:Int))∧w'.cell? ⟨g.hb,0,none⟩=some (.slice (some ⟨fb,fo,none⟩) h.file.classes.length g.a)∧w'.cell? ⟨fb,fo+cc*2+1,none⟩=some (.slice (some ⟨FB,ff,none⟩) (nth cl0 h.file.classes cc).fields.length uc)∧w'.cell? ⟨FB,ff+k*2,none⟩=some (.int .i64 t.kind)∧w'.cell? ⟨FB,ff+k*2+1,none⟩=some (.int .i64 t.cls)) (by kernel_rfl) ?_ (fun hHeld0=>?_)
 ·exact ⟨z0.out,z1.out,z2.out,z3.out,z4.out,z5.out,z6.out⟩
 refine tk (i:=0) (d:=some 38) rfl rfl (by kernel_rfl) (fun _ _ _ h=>h) (by rfl) (by intro _ h;(try dsimp only at h);go_split_ands;go_simp<;>with_reducible rfl) hHeld0 ?_
 try simp only [aS,aN,aT,a0,a1]
 refine tk (i:=1) (d:=some 39) rfl rfl (by kernel_rfl) (fun _ _ _ h=>h) (by rfl) (by intro _ h;(try dsimp only at h);go_split_ands;go_simp<;>with_reducible rfl) hHeld0 ?_
 try simp only [aS,aN,aT,a0,a1]
 refine tk (i:=2) (d:=some 40) rfl rfl (by kernel_rfl) (fun _ _ _ h=>h) (by rfl) (by intro _ h;(try dsimp only at h);go_split_ands;go_simp<;>with_reducible rfl) hHeld0 ?_
 try simp only [aS,aN,aT,a0,a1]
 refine tk (i:=3) (d:=some 41) rfl rfl (by kernel_rfl) (fun _ _ _ h=>h) (by rfl) (by intro _ h;(try dsimp only at h);go_split_ands;go_simp<;>with_reducible rfl) hHeld0 ?_
 try simp only [aS,aN,aT,a0,a1]
 refine tk (i:=4) (d:=some 42) rfl rfl (by kernel_rfl) (fun _ _ _ h=>h) (by rfl) (by intro _ h;(try dsimp only at h);go_split_ands;go_simp<;>with_reducible rfl) hHeld0 ?_
 try simp only [aS,aN,aT,a0,a1]
 refine tk (i:=5) (d:=some 43) rfl rfl (by kernel_rfl) (fun _ _ _ h=>h) (by rfl) (by intro _ h;(try dsimp only at h);go_split_ands;go_simp<;>with_reducible rfl) hHeld0 ?_
 try simp only [aS,aN,aT,a0,a1]
 refine tk (i:=6) (d:=some 44) rfl rfl (by kernel_rfl) (fun _ _ _ h=>h) (by rfl) (by intro _ h;(try dsimp only at h);go_split_ands;go_simp<;>with_reducible rfl) hHeld0 ?_
 try simp only [aS,aN,aT,a0,a1]
 refine tk (i:=7) (d:=some 45) rfl rfl (by kernel_rfl) (fun _ _ _ h=>h) (by rfl) (by intro _ h;(try dsimp only at h);go_split_ands;go_simp<;>with_reducible rfl) hHeld0 ?_
 try simp only [aS,aN,aT,a0,a1]
 refine tk (i:=8) (d:=some 46) rfl rfl (by kernel_rfl) (fun _ _ _ h=>h) (by rfl) (by intro _ h;(try dsimp only at h);go_split_ands;go_simp<;>with_reducible rfl) hHeld0 ?_
 try simp only [aS,aN,aT,a0,a1]
 refine tk (i:=9) (d:=some 47) rfl rfl (by kernel_rfl) (fun _ _ _ h=>h) (by rfl) (by intro _ h;(try dsimp only at h);go_split_ands;go_simp<;>with_reducible rfl) hHeld0 ?_
 try simp only [aS,aN,aT,a0,a1]
 refine tk (i:=10) (d:=some 48) rfl rfl (by kernel_rfl) (fun _ _ _ h=>h) (by rfl) (by intro _ h;(try dsimp only at h);go_split_ands;go_simp<;>with_reducible rfl) hHeld0 ?_
 try simp only [aS,aN,aT,a0,a1]
 refine tk (i:=11) (d:=some 49) rfl rfl (by kernel_rfl) (fun _ _ _ h=>h) (by rfl) (by intro _ h;(try dsimp only at h);go_split_ands;go_simp<;>with_reducible rfl) hHeld0 ?_
 try simp only [aS,aN,aT,a0,a1]
 refine tk (i:=12) (d:=some 50) rfl rfl (by kernel_rfl) (fun _ _ _ h=>h) (by rfl) (by intro _ h;(try dsimp only at h);go_split_ands;go_simp<;>with_reducible rfl) hHeld0 ?_
 try simp only [aS,aN,aT,a0,a1]
 refine tk (i:=13) (d:=some 51) rfl rfl (by kernel_rfl) (fun _ _ _ h=>h) (by rfl) (by intro _ h;(try dsimp only at h);go_split_ands;go_simp<;>with_reducible rfl) hHeld0 ?_
 try simp only [aS,aN,aT,a0,a1]
 refine tk (i:=14) (d:=some 52) rfl rfl (by kernel_rfl) (fun _ _ _ h=>h) (by rfl) (by intro _ h;(try dsimp only at h);go_split_ands;go_simp<;>with_reducible rfl) hHeld0 ?_
 try simp only [aS,aN,aT,a0,a1]
 refine tk (i:=15) (d:=some 53) rfl rfl (by kernel_rfl) (fun _ _ _ h=>h) (by rfl) (by intro _ h;(try dsimp only at h);go_split_ands;go_simp<;>with_reducible rfl) hHeld0 ?_
 try simp only [aS,aN,aT,a0,a1]
 refine tk (i:=16) (d:=some 54) rfl rfl (by kernel_rfl) (fun _ _ _ h=>h) (by rfl) (by intro _ h;(try dsimp only at h);go_split_ands;go_simp<;>with_reducible rfl) hHeld0 ?_
 try simp only [aS,aN,aT,a0,a1]
 refine wpAnyH_ready (rs:=[17,18]) (by kernel_rfl) (by simp) ?_
 refine AllReadyH.cons rfl (fun K hK=>?_) (AllReadyH.cons rfl (fun K hK=>?_) (AllReadyH.nil))
 ·go_simp
  go_at_call 114
  refine (HH.out.y.useY (by first|exact HB.out.drew|exact HB.out.drew.alloc _) HT1.out).mono ?_
  rintro e w2 ⟨rfl,H1,K1⟩
  have bxK1:=K1.at (Xp.new (Nat.le_refl _) (by first|exact lt_w1 w _|exact lt_w2a w _ _)) (by first|exact HL.out|exact (Below.heap_alloc _ _ _ (lt_some HL.out)).trans HL.out)
  have K1a:=hid H1.hb
  have K1b:=hid (ins_of bxK1).1
  have K1c:=hid (ins_of bxK1).2
  have hbl:=RXY.blw H1
  have K3:=hid (H1.hc0 HA.out)
  have K4:=hid (Bl.cell hbl HY0.out)
  have K5:=hid (Bl.cell hbl HY1.out)
  have K6:=hid (Bl.cell hbl HY2.out)
  have hsz:=K1.size
  try (have q9:=K1.at (b:=w.heap.size+1) (Xp.new (Nat.le_succ _) (lt_w2b w _ _)) (two_lie w _ _ _ _).2;have p0:=c0_of q9;have p1:=c1_of q9;have pz:=free_blk q9;replace q9:=hid q9)
  replace bxK1:=hid bxK1
  replace H1:=hid H1
  clear K1 hbl
  go_wp2_with fail
  refine hK.out _ _ (⟨K1a.out,K1b.out,K1c.out,K3.out,K4.out,K5.out,K6.out⟩) (fun hHeld1=>?_)
  try simp only [aS,aN,aT,a0,a1]
  refine rd1 (i:=18) (by kernel_rfl) rfl fun K hK=>?_
  go_wp2_with fail
  refine hK.out _ _ (⟨Bl.cell ((Bl.refl _).alloc _) hHeld1.1,Bl.cell ((Bl.refl _).alloc _) hHeld1.2.1,Bl.cell ((Bl.refl _).alloc _) hHeld1.2.2.1,Bl.cell ((Bl.refl _).alloc _) hHeld1.2.2.2.1,Bl.cell ((Bl.refl _).alloc _) hHeld1.2.2.2.2.1,Bl.cell ((Bl.refl _).alloc _) hHeld1.2.2.2.2.2.1,Bl.cell ((Bl.refl _).alloc _) hHeld1.2.2.2.2.2.2⟩) (fun hHeld2=>?_)
  try simp only [aS,aN,aT,a0,a1]
  refine rd1 (i:=19) (by kernel_rfl) rfl fun K hK=>?_
  go_wp2_with fail
  refine hK.out _ _ (by first|exact ⟨Bl.cell ((Bl.refl _).alloc _) K1a.out,Bl.cell ((Bl.refl _).alloc _) K1b.out,Bl.cell ((Bl.refl _).alloc _) K1c.out,Bl.cell ((Bl.refl _).alloc _) K3.out,Bl.cell ((Bl.refl _).alloc _) K4.out,Bl.cell ((Bl.refl _).alloc _) K5.out,Bl.cell ((Bl.refl _).alloc _) K6.out⟩|exact ⟨set2_cellE K1a.out (by omega),set2_cellE K1b.out (by omega),set2_cellE K1c.out (by omega),set2_cellE K3.out (by omega),set2_cellE K4.out (by omega),set2_cellE K5.out (by omega),set2_cellE K6.out (by omega)⟩) (fun hHeld3=>?_)
  try simp only [aS,aN,aT,a0,a1]
  refine wpAnyH_done (by kernel_rfl) ?_ _
  go_wp2
  first
   | (obtain ⟨W,b4,Y,H4,y1,y2,g1,g2,gW,gb⟩:=pq1 H1 bxK1 (Xp.new (Nat.le_refl _) (lt_w1 w _)) (im v);rw [←gb,←gW])
   | (obtain ⟨W,b4,Y,H4,y1,y2,g1,g2,gW,gb⟩:=pq2 (b:=w.heap.size+1) H1 bxK1 (Xp.new (Nat.le_refl _) (lt_w2a w _ _)) (Xp.new (Nat.le_succ _) (lt_w2b w _ _)) q9 (by omega) (im v);rw [←gW,←gb])
  clear gW gb
  have x0:=hid H4.hb
  have x1:=hid (ins_of g1).1
  have x2:=hid (ins_of g1).2
  have x3:=hid (c0_of g2)
  have x4:=hid (c1_of g2)
  replace H4:=hid H4
  replace g1:=hid g1
  replace g2:=hid g2
  refine wp_region_held_drew (S:=fun w'=>w'.cell? ⟨a.q,0,none⟩=some (.pointer (some ⟨g.hb,0,none⟩))∧w'.cell? ⟨w.heap.size,1,none⟩=some (.int .i64 (cc:Int))∧w'.cell? ⟨w.heap.size,2,none⟩=some (.int .i64 (k:Int))∧w'.cell? ⟨b4,0,none⟩=some (.int .i64 (im v).kind)∧w'.cell? ⟨b4,1,none⟩=some (.int .i64 (im v).n)) (by kernel_rfl) ?_ (fun hHeld0=>?_)
  ·exact ⟨x0.out,x1.out,x2.out,x3.out,x4.out⟩
  refine tk (i:=0) (d:=some 56) rfl rfl (by kernel_rfl) (fun _ _ _ h=>h) (by rfl) (by intro _ h;(try dsimp only at h);go_split_ands;go_simp<;>with_reducible rfl) hHeld0 ?_
  try simp only [aS,aN,aT,a0,a1]
  refine tk (i:=1) (d:=some 57) rfl rfl (by kernel_rfl) (fun _ _ _ h=>h) (by rfl) (by intro _ h;(try dsimp only at h);go_split_ands;go_simp<;>with_reducible rfl) hHeld0 ?_
  try simp only [aS,aN,aT,a0,a1]
  refine tk (i:=2) (d:=some 58) rfl rfl (by kernel_rfl) (fun _ _ _ h=>h) (by rfl) (by intro _ h;(try dsimp only at h);go_split_ands;go_simp<;>with_reducible rfl) hHeld0 ?_
  try simp only [aS,aN,aT,a0,a1]
  refine tk (i:=3) (d:=some 59) rfl rfl (by kernel_rfl) (fun _ _ _ h=>h) (by rfl) (by intro _ h;(try dsimp only at h);go_split_ands;go_simp<;>with_reducible rfl) hHeld0 ?_
  try simp only [aS,aN,aT,a0,a1]
  refine tk (i:=4) (d:=some 60) rfl rfl (by kernel_rfl) (fun _ _ _ h=>h) (by rfl) (by intro _ h;(try dsimp only at h);go_split_ands;go_simp<;>with_reducible rfl) hHeld0 ?_
  try simp only [aS,aN,aT,a0,a1]
  refine tk (i:=5) (d:=some 61) rfl rfl (by kernel_rfl) (fun _ _ _ h=>h) (by rfl) (by intro _ h;(try dsimp only at h);go_split_ands;go_simp<;>with_reducible rfl) hHeld0 ?_
  try simp only [aS,aN,aT,a0,a1]
  refine tk (i:=6) (d:=some 62) rfl rfl (by kernel_rfl) (fun _ _ _ h=>h) (by rfl) (by intro _ h;(try dsimp only at h);go_split_ands;go_simp<;>with_reducible rfl) hHeld0 ?_
  try simp only [aS,aN,aT,a0,a1]
  refine tk (i:=9) (d:=some 65) rfl rfl (by kernel_rfl) (fun _ _ _ h=>h) (by rfl) (by intro _ h;(try dsimp only at h);go_split_ands;go_simp<;>with_reducible rfl) hHeld0 ?_
  try simp only [aS,aN,aT,a0,a1]
  refine tk (i:=10) (d:=some 66) rfl rfl (by kernel_rfl) (fun _ _ _ h=>h) (by rfl) (by intro _ h;(try dsimp only at h);go_split_ands;go_simp<;>with_reducible rfl) hHeld0 ?_
  try simp only [aS,aN,aT,a0,a1]
  refine tk (i:=11) (d:=some 67) rfl rfl (by kernel_rfl) (fun _ _ _ h=>h) (by rfl) (by intro _ h;(try dsimp only at h);go_split_ands;go_simp<;>with_reducible rfl) hHeld0 ?_
  try simp only [aS,aN,aT,a0,a1]
  refine tk (i:=12) (d:=some 68) rfl rfl (by kernel_rfl) (fun _ _ _ h=>h) (by rfl) (by intro _ h;(try dsimp only at h);go_split_ands;go_simp<;>with_reducible rfl) hHeld0 ?_
  try simp only [aS,aN,aT,a0,a1]
  refine tk (i:=13) (d:=some 69) rfl rfl (by kernel_rfl) (fun _ _ _ h=>h) (by rfl) (by intro _ h;(try dsimp only at h);go_split_ands;go_simp<;>with_reducible rfl) hHeld0 ?_
  try simp only [aS,aN,aT,a0,a1]
  refine rd1 (i:=7) (by kernel_rfl) rfl fun K hK=>?_
  go_simp
  go_at_call 138
  refine (refOf_any (cc:Int) _).mono ?_
  rintro e w5 ⟨rfl,b5⟩
  have d0:=hid (b5.cell hHeld0.1)
  have d1:=hid (b5.cell hHeld0.2.1)
  have d2:=hid (b5.cell hHeld0.2.2.1)
  have d3:=hid (b5.cell hHeld0.2.2.2.1)
  have d4:=hid (b5.cell hHeld0.2.2.2.2)
  have h1x:=hid (bl_blk b5 g1.out)
  have h2x:=hid (bl_blk b5 g2.out)
  replace b5:=hid b5
  go_wp2_with fail
  refine hK.out _ _ (⟨d0.out,d1.out,d2.out,d3.out,d4.out⟩) (fun hHeld1=>?_)
  try simp only [aS,aN,aT,a0,a1]
  refine rd1 (i:=8) (by kernel_rfl) rfl fun K hK=>?_
  go_simp
  go_at_call 114
  refine (H4.out.useY ((Bl.refl _).drew.trans b5.out) HT2.out).mono ?_
  rintro e w6 ⟨rfl,H6,K6x⟩
  have i1:=K6x.at (Xp.old y1) h1x.out
  have i2:=K6x.at (Xp.old y2) h2x.out
  have f0:=hid H6.hb
  have f1:=hid (ins_of i1).1
  have f2:=hid (ins_of i1).2
  have f3:=hid (c0_of i2)
  have f4:=hid (c1_of i2)
  replace i1:=hid i1
  replace i2:=hid i2
  replace H6:=hid H6
  go_wp2_with fail
  refine hK.out _ _ (⟨f0.out,f1.out,f2.out,f3.out,f4.out⟩) (fun hHeld2=>?_)
  try simp only [aS,aN,aT,a0,a1]
  refine rd1 (i:=14) (by kernel_rfl) rfl fun K hK=>?_
  go_simp
  go_at_call 139
  refine (H6.out.useY (Bl.refl _) HPU.out).mono ?_
  rintro e w7 ⟨rfl,H7,K7⟩
  exact ⟨rfl,HD.out _ (H7.x.less.rs.of rfl ⟨rfl,rfl⟩)⟩
 ·go_wp2_with fail
  refine hK.out _ _ (⟨Bl.cell ((Bl.refl _).alloc _) hHeld0.1,Bl.cell ((Bl.refl _).alloc _) hHeld0.2.1,Bl.cell ((Bl.refl _).alloc _) hHeld0.2.2.1,Bl.cell ((Bl.refl _).alloc _) hHeld0.2.2.2.1,Bl.cell ((Bl.refl _).alloc _) hHeld0.2.2.2.2.1,Bl.cell ((Bl.refl _).alloc _) hHeld0.2.2.2.2.2.1,Bl.cell ((Bl.refl _).alloc _) hHeld0.2.2.2.2.2.2⟩) (fun hHeld4=>?_)
  try simp only [aS,aN,aT,a0,a1]
  refine rd1 (i:=17) (by kernel_rfl) rfl fun K hK=>?_
  go_simp
  go_at_call 114
  refine (HH.out.y.useY (by first|exact HB.out.drew|exact HB.out.drew.alloc _) HT1.out).mono ?_
  rintro e w2 ⟨rfl,H1,K1⟩
  have bxK1:=K1.at (Xp.new (Nat.le_refl _) (by first|exact lt_w1 w _|exact lt_w2a w _ _)) (by first|exact HL.out|exact (Below.heap_alloc _ _ _ (lt_some HL.out)).trans HL.out)
  have K1a:=hid H1.hb
  have K1b:=hid (ins_of bxK1).1
  have K1c:=hid (ins_of bxK1).2
  have hbl:=RXY.blw H1
  have K3:=hid (H1.hc0 HA.out)
  have K4:=hid (Bl.cell hbl HY0.out)
  have K5:=hid (Bl.cell hbl HY1.out)
  have K6:=hid (Bl.cell hbl HY2.out)
  have hsz:=K1.size
  try (have q9:=K1.at (b:=w.heap.size+1) (Xp.new (Nat.le_succ _) (lt_w2b w _ _)) (two_lie w _ _ _ _).2;have p0:=c0_of q9;have p1:=c1_of q9;have pz:=free_blk q9;replace q9:=hid q9)
  replace bxK1:=hid bxK1
  replace H1:=hid H1
  clear K1 hbl
  go_wp2_with fail
  refine hK.out _ _ (⟨K1a.out,K1b.out,K1c.out,K3.out,K4.out,K5.out,K6.out⟩) (fun hHeld5=>?_)
  try simp only [aS,aN,aT,a0,a1]
  refine rd1 (i:=19) (by kernel_rfl) rfl fun K hK=>?_
  go_wp2_with fail
  refine hK.out _ _ (by first|exact ⟨Bl.cell ((Bl.refl _).alloc _) K1a.out,Bl.cell ((Bl.refl _).alloc _) K1b.out,Bl.cell ((Bl.refl _).alloc _) K1c.out,Bl.cell ((Bl.refl _).alloc _) K3.out,Bl.cell ((Bl.refl _).alloc _) K4.out,Bl.cell ((Bl.refl _).alloc _) K5.out,Bl.cell ((Bl.refl _).alloc _) K6.out⟩|exact ⟨set2_cellE K1a.out (by omega),set2_cellE K1b.out (by omega),set2_cellE K1c.out (by omega),set2_cellE K3.out (by omega),set2_cellE K4.out (by omega),set2_cellE K5.out (by omega),set2_cellE K6.out (by omega)⟩) (fun hHeld6=>?_)
  try simp only [aS,aN,aT,a0,a1]
  refine wpAnyH_done (by kernel_rfl) ?_ _
  go_wp2
  first
   | (obtain ⟨W,b4,Y,H4,y1,y2,g1,g2,gW,gb⟩:=pq1 H1 bxK1 (Xp.new (Nat.le_refl _) (lt_w1 w _)) (im v);rw [←gb,←gW])
   | (obtain ⟨W,b4,Y,H4,y1,y2,g1,g2,gW,gb⟩:=pq2 (b:=w.heap.size+1) H1 bxK1 (Xp.new (Nat.le_refl _) (lt_w2a w _ _)) (Xp.new (Nat.le_succ _) (lt_w2b w _ _)) q9 (by omega) (im v);rw [←gW,←gb])
  clear gW gb
  have x0:=hid H4.hb
  have x1:=hid (ins_of g1).1
  have x2:=hid (ins_of g1).2
  have x3:=hid (c0_of g2)
  have x4:=hid (c1_of g2)
  replace H4:=hid H4
  replace g1:=hid g1
  replace g2:=hid g2
  refine wp_region_held_drew (S:=fun w'=>w'.cell? ⟨a.q,0,none⟩=some (.pointer (some ⟨g.hb,0,none⟩))∧w'.cell? ⟨w.heap.size,1,none⟩=some (.int .i64 (cc:Int))∧w'.cell? ⟨w.heap.size,2,none⟩=some (.int .i64 (k:Int))∧w'.cell? ⟨b4,0,none⟩=some (.int .i64 (im v).kind)∧w'.cell? ⟨b4,1,none⟩=some (.int .i64 (im v).n)) (by kernel_rfl) ?_ (fun hHeld0=>?_)
  ·exact ⟨x0.out,x1.out,x2.out,x3.out,x4.out⟩
  refine tk (i:=0) (d:=some 56) rfl rfl (by kernel_rfl) (fun _ _ _ h=>h) (by rfl) (by intro _ h;(try dsimp only at h);go_split_ands;go_simp<;>with_reducible rfl) hHeld0 ?_
  try simp only [aS,aN,aT,a0,a1]
  refine tk (i:=1) (d:=some 57) rfl rfl (by kernel_rfl) (fun _ _ _ h=>h) (by rfl) (by intro _ h;(try dsimp only at h);go_split_ands;go_simp<;>with_reducible rfl) hHeld0 ?_
  try simp only [aS,aN,aT,a0,a1]
  refine tk (i:=2) (d:=some 58) rfl rfl (by kernel_rfl) (fun _ _ _ h=>h) (by rfl) (by intro _ h;(try dsimp only at h);go_split_ands;go_simp<;>with_reducible rfl) hHeld0 ?_
  try simp only [aS,aN,aT,a0,a1]
  refine tk (i:=3) (d:=some 59) rfl rfl (by kernel_rfl) (fun _ _ _ h=>h) (by rfl) (by intro _ h;(try dsimp only at h);go_split_ands;go_simp<;>with_reducible rfl) hHeld0 ?_
  try simp only [aS,aN,aT,a0,a1]
  refine tk (i:=4) (d:=some 60) rfl rfl (by kernel_rfl) (fun _ _ _ h=>h) (by rfl) (by intro _ h;(try dsimp only at h);go_split_ands;go_simp<;>with_reducible rfl) hHeld0 ?_
  try simp only [aS,aN,aT,a0,a1]
  refine tk (i:=5) (d:=some 61) rfl rfl (by kernel_rfl) (fun _ _ _ h=>h) (by rfl) (by intro _ h;(try dsimp only at h);go_split_ands;go_simp<;>with_reducible rfl) hHeld0 ?_
  try simp only [aS,aN,aT,a0,a1]
  refine tk (i:=6) (d:=some 62) rfl rfl (by kernel_rfl) (fun _ _ _ h=>h) (by rfl) (by intro _ h;(try dsimp only at h);go_split_ands;go_simp<;>with_reducible rfl) hHeld0 ?_
  try simp only [aS,aN,aT,a0,a1]
  refine tk (i:=9) (d:=some 65) rfl rfl (by kernel_rfl) (fun _ _ _ h=>h) (by rfl) (by intro _ h;(try dsimp only at h);go_split_ands;go_simp<;>with_reducible rfl) hHeld0 ?_
  try simp only [aS,aN,aT,a0,a1]
  refine tk (i:=10) (d:=some 66) rfl rfl (by kernel_rfl) (fun _ _ _ h=>h) (by rfl) (by intro _ h;(try dsimp only at h);go_split_ands;go_simp<;>with_reducible rfl) hHeld0 ?_
  try simp only [aS,aN,aT,a0,a1]
  refine tk (i:=11) (d:=some 67) rfl rfl (by kernel_rfl) (fun _ _ _ h=>h) (by rfl) (by intro _ h;(try dsimp only at h);go_split_ands;go_simp<;>with_reducible rfl) hHeld0 ?_
  try simp only [aS,aN,aT,a0,a1]
  refine tk (i:=12) (d:=some 68) rfl rfl (by kernel_rfl) (fun _ _ _ h=>h) (by rfl) (by intro _ h;(try dsimp only at h);go_split_ands;go_simp<;>with_reducible rfl) hHeld0 ?_
  try simp only [aS,aN,aT,a0,a1]
  refine tk (i:=13) (d:=some 69) rfl rfl (by kernel_rfl) (fun _ _ _ h=>h) (by rfl) (by intro _ h;(try dsimp only at h);go_split_ands;go_simp<;>with_reducible rfl) hHeld0 ?_
  try simp only [aS,aN,aT,a0,a1]
  refine rd1 (i:=7) (by kernel_rfl) rfl fun K hK=>?_
  go_simp
  go_at_call 138
  refine (refOf_any (cc:Int) _).mono ?_
  rintro e w5 ⟨rfl,b5⟩
  have d0:=hid (b5.cell hHeld0.1)
  have d1:=hid (b5.cell hHeld0.2.1)
  have d2:=hid (b5.cell hHeld0.2.2.1)
  have d3:=hid (b5.cell hHeld0.2.2.2.1)
  have d4:=hid (b5.cell hHeld0.2.2.2.2)
  have h1x:=hid (bl_blk b5 g1.out)
  have h2x:=hid (bl_blk b5 g2.out)
  replace b5:=hid b5
  go_wp2_with fail
  refine hK.out _ _ (⟨d0.out,d1.out,d2.out,d3.out,d4.out⟩) (fun hHeld1=>?_)
  try simp only [aS,aN,aT,a0,a1]
  refine rd1 (i:=8) (by kernel_rfl) rfl fun K hK=>?_
  go_simp
  go_at_call 114
  refine (H4.out.useY ((Bl.refl _).drew.trans b5.out) HT2.out).mono ?_
  rintro e w6 ⟨rfl,H6,K6x⟩
  have i1:=K6x.at (Xp.old y1) h1x.out
  have i2:=K6x.at (Xp.old y2) h2x.out
  have f0:=hid H6.hb
  have f1:=hid (ins_of i1).1
  have f2:=hid (ins_of i1).2
  have f3:=hid (c0_of i2)
  have f4:=hid (c1_of i2)
  replace i1:=hid i1
  replace i2:=hid i2
  replace H6:=hid H6
  go_wp2_with fail
  refine hK.out _ _ (⟨f0.out,f1.out,f2.out,f3.out,f4.out⟩) (fun hHeld2=>?_)
  try simp only [aS,aN,aT,a0,a1]
  refine rd1 (i:=14) (by kernel_rfl) rfl fun K hK=>?_
  go_simp
  go_at_call 139
  refine (H6.out.useY (Bl.refl _) HPU.out).mono ?_
  rintro e w7 ⟨rfl,H7,K7⟩
  exact ⟨rfl,HD.out _ (H7.x.less.rs.of rfl ⟨rfl,rfl⟩)⟩
set_option maxRecDepth 100000 in
theorem handle_op16d (X:Nat→Prop) (wx w0:World) (g:Mg) (h:Hp) (qs:List Nat) (a:Mc) (c:Cal) (ia ib ic ii:Int) (args:List Int) (Q:Option Addr) (nl q:Nat) (w:World) (H:RX 1 X wx w0 g w h qs a c) (hs:h.stops=false) (hl:c.stk.length≤1000) (F:Fix w0 g h) (hob:h.objs.length≤100) (hst:∀v∈c.stk,v.kind=3→-1≤v.n∧v.n<h.objs.length) (hfl:0≤ia∧ia<h.file.classes.length∧0≤ib∧ib<(nth cl0 h.file.classes ia.toNat).fields.length) (l1:List Va) (v:Va) (h0:c.stk=l1++[v]) (hof:h.of v (fieldT h.file.classes ia ib)=true) (l:List Va) (u:Va) (hl1:l1=l++[u]) (hou:h.of u ⟨3,ia⟩=true) (o j:Nat) (huo:u.n=o) (hol:o<h.objs.length) (hj:j<(nth ob0 h.objs o).held.length) (hjc:(nth hel0 (nth ob0 h.objs o).held j).cls=ia) (hjk:(nth hel0 (nth ob0 h.objs o).held j).fld=ib) (hsp:h.sh.steps≤100000) :
  Calls Try.prog 121 #[.pointer (some ⟨a.q,0,none⟩),.agg #[.int .i64 16,.int .i64 ia,.int .i64 ib,.int .i64 ic,.int .i64 ii,.slice Q nl q]] w fun e w'=>DidQ X wx w0 g qs a c ⟨h.setV o j v,{ c with stk:=l },c.pc+1⟩ e w':=by
 obtain ⟨cc,rfl⟩:∃cc:Nat,ia=cc:=⟨ia.toNat,by omega⟩
 obtain ⟨k,rfl⟩:∃k:Nat,ib=k:=⟨ib.toNat,by omega⟩
 rw [Int.toNat_natCast] at hfl
 have hc:cc<h.file.classes.length:=by omega
 have hkf:k<(nth cl0 h.file.classes cc).fields.length:=by omega
 have hof':=hof
 rw [fieldT_nat] at hof
 have ho:=hs_over hs
 have HH:=hid H
 have HS:=hid hs
 have HB:Hid (Bl w (w.alloc (.cells #[.int .i64 16,.int .i64 (cc:Int),.int .i64 (k:Int),.int .i64 ic,.int .i64 ii,.slice Q nl q] 51))):=(Bl.refl w).alloc _
 have HL:=hid (blk_new w #[.int .i64 16,.int .i64 (cc:Int),.int .i64 (k:Int),.int .i64 ic,.int .i64 ii,.slice Q nl q] 51)
 have z0:=hid ((H.y.bl HB.out).hb)
 have z1:=hid (ins_of HL.out).1
 have z2:=hid (ins_of HL.out).2
 obtain ⟨fb,fo,FB,ff,uc,hA,y0,m1,m2,y1,y2⟩:=fld_cells F.cls hc hkf
 have HBW:Bl w0 w:=by
  obtain ⟨vc,vo,vx,vs,l,H⟩:=H
  exact H.rh.bl
 have HA:=hid hA
 have z3:Hid ((w.alloc (.cells #[.int .i64 16,.int .i64 (cc:Int),.int .i64 (k:Int),.int .i64 ic,.int .i64 ii,.slice Q nl q] 51)).cell? ⟨g.hb,0,none⟩=some (.slice (some ⟨fb,fo,none⟩) h.file.classes.length g.a)):=by
  obtain ⟨vc,vo,vx,vs,l,H⟩:=H
  rw [←hA]
  exact Bl.cell HB.out H.rh.heapCells.1
 have hhb:g.hb<w.heap.size:=by
  obtain ⟨vc,vo,vx,vs,l,H⟩:=H
  exact lt_some H.rh.hp
 have hqq:=H.qlt
 have hf1:=cell_lt (Bl.cell HBW y0)
 have hf2:=cell_lt (Bl.cell HBW y1)
 have z4:=hid (Bl.cell HB.out (Bl.cell HBW y0))
 have z5:=hid (Bl.cell HB.out (Bl.cell HBW y1))
 have z6:=hid (Bl.cell HB.out (Bl.cell HBW y2))
 have HT1':Hid (∀X wx w,RX 1 X wx w0 g w h qs a c→Calls Try.prog 114 #[.pointer (some ⟨a.q,0,none⟩),tyMV (nth ty0 (nth cl0 h.file.classes cc).fields k)] w fun e w'=>e=.returned (mvV (im v))∧RX 1 X wx w0 g w' h qs a { c with stk:=l1 }):=fun X wx w H=>takeType_yes 1 X wx w0 g h qs a c l1 v _ w H F hob h0 (hst v (by rw [h0];simp)) hof
 obtain ⟨t,ht⟩:∃t,nth ty0 (nth cl0 h.file.classes cc).fields k=t:=⟨_,rfl⟩
 rw [ht] at HT1' z5 z6 y1 y2
 have HT1:=HT1'
 have HY0:=hid y0
 have HY1:=hid y1
 have HY2:=hid y2
 have hc0:(0:Int)≤(cc:Int):=by omega
 have hc1:(cc:Int)<(h.file.classes.length:Int):=by omega
 have hk0:(0:Int)≤(k:Int):=by omega
 have hk1:(k:Int)<((nth cl0 h.file.classes cc).fields.length:Int):=by omega
 have hug:=hst u (by rw [h0,hl1];simp)
 have hku:u.kind=3:=of_ref hou
 have hu3:=hug hku
 have HT2:Hid (∀X wx w,RX 1 X wx w0 g w h qs a { c with stk:=l1 }→Calls Try.prog 114 #[.pointer (some ⟨a.q,0,none⟩),tyMV ⟨3,(cc:Int)⟩] w fun e w'=>e=.returned (mvV (im u))∧RX 1 X wx w0 g w' h qs a { c with stk:=l }):=fun X wx w H=>takeType_yes 1 X wx w0 g h qs a { c with stk:=l1 } l u ⟨3,(cc:Int)⟩ w H F hob hl1 hug hou
 obtain ⟨n1,n2,n3⟩:=may_six F.may hc
 have hvk:v.kind=(fieldT h.file.classes (cc:Int) (k:Int)).kind:=by
  unfold Hp.of at hof'
  rw [Bool.and_eq_true] at hof'
  exact of_decide_eq_true hof'.1
 have him:im u=⟨3,(o:Int)+1⟩:=by rw [im_ref hku,huo]
 have HPU:Hid (∀X wx w,RX 1 X wx w0 g w h qs a { c with stk:=l }→Calls Try.prog 139 #[.pointer (some ⟨g.hb,0,none⟩),mvV (im u),.int .i64 (cc:Int),.int .i64 (k:Int),mvV (im v)] w fun e w'=>e=.returned (.tuple #[])∧RX 0 X wx w0 g w' (h.setV o j v) qs a { c with stk:=l }):=fun X wx w H=>him.symm▸mputF_obj X wx w0 g h qs a { c with stk:=l } o j cc k v w H hol hob hsp hj hjc hjk (by omega) (by omega) hvk
 have HSS:Hid ((h.setV o j v).stops=false):=hs
 generalize im u=UI at HT2 HPU
 clear H hs F hst hfl hA y0 y1 y2 m1 m2 HBW hof hof' HT1' ht h0 hl1 hou hug hku hu3 n1 n2 n3 hvk him huo hol hj hjc hjk hsp
 go_enter Try.func121,Try.ntmps121
 go_wp2
 refine wp_region_held_drew (S:=fun w'=>w'.cell? ⟨a.q,0,none⟩=some (.pointer (some ⟨g.hb,0,none⟩))∧w'.cell? ⟨w.heap.size,1,none⟩=some (.int .i64 (cc:Int))∧w'.cell? ⟨w.heap.size,2,none⟩=some (.int .i64 (k:Int))∧w'.cell? ⟨g.hb,0,none⟩=some (.slice (some ⟨fb,fo,none⟩) h.file.classes.length g.a)∧w'.cell? ⟨fb,fo+cc*2+1,none⟩=some (.slice (some ⟨FB,ff,none⟩) (nth cl0 h.file.classes cc).fields.length uc)∧w'.cell? ⟨FB,ff+k*2,none⟩=some (.int .i64 t.kind)∧w'.cell? ⟨FB,ff+k*2+1,none⟩=some (.int .i64 t.cls)) (by kernel_rfl) ?_ (fun hHeld0=>?_)
 ·exact ⟨z0.out,z1.out,z2.out,z3.out,z4.out,z5.out,z6.out⟩
 refine tk (i:=0) (d:=some 38) rfl rfl (by kernel_rfl) (fun _ _ _ h=>h) (by rfl) (by intro _ h;(try dsimp only at h);go_split_ands;go_simp<;>with_reducible rfl) hHeld0 ?_
 try simp only [aS,aN,aT,a0,a1]
 refine tk (i:=1) (d:=some 39) rfl rfl (by kernel_rfl) (fun _ _ _ h=>h) (by rfl) (by intro _ h;(try dsimp only at h);go_split_ands;go_simp<;>with_reducible rfl) hHeld0 ?_
 try simp only [aS,aN,aT,a0,a1]
 refine tk (i:=2) (d:=some 40) rfl rfl (by kernel_rfl) (fun _ _ _ h=>h) (by rfl) (by intro _ h;(try dsimp only at h);go_split_ands;go_simp<;>with_reducible rfl) hHeld0 ?_
 try simp only [aS,aN,aT,a0,a1]
 refine tk (i:=3) (d:=some 41) rfl rfl (by kernel_rfl) (fun _ _ _ h=>h) (by rfl) (by intro _ h;(try dsimp only at h);go_split_ands;go_simp<;>with_reducible rfl) hHeld0 ?_
 try simp only [aS,aN,aT,a0,a1]
 refine tk (i:=4) (d:=some 42) rfl rfl (by kernel_rfl) (fun _ _ _ h=>h) (by rfl) (by intro _ h;(try dsimp only at h);go_split_ands;go_simp<;>with_reducible rfl) hHeld0 ?_
 try simp only [aS,aN,aT,a0,a1]
 refine tk (i:=5) (d:=some 43) rfl rfl (by kernel_rfl) (fun _ _ _ h=>h) (by rfl) (by intro _ h;(try dsimp only at h);go_split_ands;go_simp<;>with_reducible rfl) hHeld0 ?_
 try simp only [aS,aN,aT,a0,a1]
 refine tk (i:=6) (d:=some 44) rfl rfl (by kernel_rfl) (fun _ _ _ h=>h) (by rfl) (by intro _ h;(try dsimp only at h);go_split_ands;go_simp<;>with_reducible rfl) hHeld0 ?_
 try simp only [aS,aN,aT,a0,a1]
 refine tk (i:=7) (d:=some 45) rfl rfl (by kernel_rfl) (fun _ _ _ h=>h) (by rfl) (by intro _ h;(try dsimp only at h);go_split_ands;go_simp<;>with_reducible rfl) hHeld0 ?_
 try simp only [aS,aN,aT,a0,a1]
 refine tk (i:=8) (d:=some 46) rfl rfl (by kernel_rfl) (fun _ _ _ h=>h) (by rfl) (by intro _ h;(try dsimp only at h);go_split_ands;go_simp<;>with_reducible rfl) hHeld0 ?_
 try simp only [aS,aN,aT,a0,a1]
 refine tk (i:=9) (d:=some 47) rfl rfl (by kernel_rfl) (fun _ _ _ h=>h) (by rfl) (by intro _ h;(try dsimp only at h);go_split_ands;go_simp<;>with_reducible rfl) hHeld0 ?_
 try simp only [aS,aN,aT,a0,a1]
 refine tk (i:=10) (d:=some 48) rfl rfl (by kernel_rfl) (fun _ _ _ h=>h) (by rfl) (by intro _ h;(try dsimp only at h);go_split_ands;go_simp<;>with_reducible rfl) hHeld0 ?_
 try simp only [aS,aN,aT,a0,a1]
 refine tk (i:=11) (d:=some 49) rfl rfl (by kernel_rfl) (fun _ _ _ h=>h) (by rfl) (by intro _ h;(try dsimp only at h);go_split_ands;go_simp<;>with_reducible rfl) hHeld0 ?_
 try simp only [aS,aN,aT,a0,a1]
 refine tk (i:=12) (d:=some 50) rfl rfl (by kernel_rfl) (fun _ _ _ h=>h) (by rfl) (by intro _ h;(try dsimp only at h);go_split_ands;go_simp<;>with_reducible rfl) hHeld0 ?_
 try simp only [aS,aN,aT,a0,a1]
 refine tk (i:=13) (d:=some 51) rfl rfl (by kernel_rfl) (fun _ _ _ h=>h) (by rfl) (by intro _ h;(try dsimp only at h);go_split_ands;go_simp<;>with_reducible rfl) hHeld0 ?_
 try simp only [aS,aN,aT,a0,a1]
 refine tk (i:=14) (d:=some 52) rfl rfl (by kernel_rfl) (fun _ _ _ h=>h) (by rfl) (by intro _ h;(try dsimp only at h);go_split_ands;go_simp<;>with_reducible rfl) hHeld0 ?_
 try simp only [aS,aN,aT,a0,a1]
 refine tk (i:=15) (d:=some 53) rfl rfl (by kernel_rfl) (fun _ _ _ h=>h) (by rfl) (by intro _ h;(try dsimp only at h);go_split_ands;go_simp<;>with_reducible rfl) hHeld0 ?_
 try simp only [aS,aN,aT,a0,a1]
 refine tk (i:=16) (d:=some 54) rfl rfl (by kernel_rfl) (fun _ _ _ h=>h) (by rfl) (by intro _ h;(try dsimp only at h);go_split_ands;go_simp<;>with_reducible rfl) hHeld0 ?_
 try simp only [aS,aN,aT,a0,a1]
 refine wpAnyH_ready (rs:=[17,18]) (by kernel_rfl) (by simp) ?_
 refine AllReadyH.cons rfl (fun K hK=>?_) (AllReadyH.cons rfl (fun K hK=>?_) (AllReadyH.nil))
 ·go_simp
  go_at_call 114
  refine (HH.out.y.useY (by first|exact HB.out.drew|exact HB.out.drew.alloc _) HT1.out).mono ?_
  rintro e w2 ⟨rfl,H1,K1⟩
  have bxK1:=K1.at (Xp.new (Nat.le_refl _) (by first|exact lt_w1 w _|exact lt_w2a w _ _)) (by first|exact HL.out|exact (Below.heap_alloc _ _ _ (lt_some HL.out)).trans HL.out)
  have K1a:=hid H1.hb
  have K1b:=hid (ins_of bxK1).1
  have K1c:=hid (ins_of bxK1).2
  have hbl:=RXY.blw H1
  have K3:=hid (H1.hc0 HA.out)
  have K4:=hid (Bl.cell hbl HY0.out)
  have K5:=hid (Bl.cell hbl HY1.out)
  have K6:=hid (Bl.cell hbl HY2.out)
  have hsz:=K1.size
  try (have q9:=K1.at (b:=w.heap.size+1) (Xp.new (Nat.le_succ _) (lt_w2b w _ _)) (two_lie w _ _ _ _).2;have p0:=c0_of q9;have p1:=c1_of q9;have pz:=free_blk q9;replace q9:=hid q9)
  replace bxK1:=hid bxK1
  replace H1:=hid H1
  clear K1 hbl
  go_wp2_with fail
  refine hK.out _ _ (⟨K1a.out,K1b.out,K1c.out,K3.out,K4.out,K5.out,K6.out⟩) (fun hHeld1=>?_)
  try simp only [aS,aN,aT,a0,a1]
  refine rd1 (i:=18) (by kernel_rfl) rfl fun K hK=>?_
  go_wp2_with fail
  refine hK.out _ _ (⟨Bl.cell ((Bl.refl _).alloc _) hHeld1.1,Bl.cell ((Bl.refl _).alloc _) hHeld1.2.1,Bl.cell ((Bl.refl _).alloc _) hHeld1.2.2.1,Bl.cell ((Bl.refl _).alloc _) hHeld1.2.2.2.1,Bl.cell ((Bl.refl _).alloc _) hHeld1.2.2.2.2.1,Bl.cell ((Bl.refl _).alloc _) hHeld1.2.2.2.2.2.1,Bl.cell ((Bl.refl _).alloc _) hHeld1.2.2.2.2.2.2⟩) (fun hHeld2=>?_)
  try simp only [aS,aN,aT,a0,a1]
  refine rd1 (i:=19) (by kernel_rfl) rfl fun K hK=>?_
  go_wp2_with fail
  refine hK.out _ _ (by first|exact ⟨Bl.cell ((Bl.refl _).alloc _) K1a.out,Bl.cell ((Bl.refl _).alloc _) K1b.out,Bl.cell ((Bl.refl _).alloc _) K1c.out,Bl.cell ((Bl.refl _).alloc _) K3.out,Bl.cell ((Bl.refl _).alloc _) K4.out,Bl.cell ((Bl.refl _).alloc _) K5.out,Bl.cell ((Bl.refl _).alloc _) K6.out⟩|exact ⟨set2_cellE K1a.out (by omega),set2_cellE K1b.out (by omega),set2_cellE K1c.out (by omega),set2_cellE K3.out (by omega),set2_cellE K4.out (by omega),set2_cellE K5.out (by omega),set2_cellE K6.out (by omega)⟩) (fun hHeld3=>?_)
  try simp only [aS,aN,aT,a0,a1]
  refine wpAnyH_done (by kernel_rfl) ?_ _
  go_wp2
  first
   | (obtain ⟨W,b4,Y,H4,y1,y2,g1,g2,gW,gb⟩:=pq1 H1 bxK1 (Xp.new (Nat.le_refl _) (lt_w1 w _)) (im v);rw [←gb,←gW])
   | (obtain ⟨W,b4,Y,H4,y1,y2,g1,g2,gW,gb⟩:=pq2 (b:=w.heap.size+1) H1 bxK1 (Xp.new (Nat.le_refl _) (lt_w2a w _ _)) (Xp.new (Nat.le_succ _) (lt_w2b w _ _)) q9 (by omega) (im v);rw [←gW,←gb])
  clear gW gb
  have x0:=hid H4.hb
  have x1:=hid (ins_of g1).1
  have x2:=hid (ins_of g1).2
  have x3:=hid (c0_of g2)
  have x4:=hid (c1_of g2)
  replace H4:=hid H4
  replace g1:=hid g1
  replace g2:=hid g2
  refine wp_region_held_drew (S:=fun w'=>w'.cell? ⟨a.q,0,none⟩=some (.pointer (some ⟨g.hb,0,none⟩))∧w'.cell? ⟨w.heap.size,1,none⟩=some (.int .i64 (cc:Int))∧w'.cell? ⟨w.heap.size,2,none⟩=some (.int .i64 (k:Int))∧w'.cell? ⟨b4,0,none⟩=some (.int .i64 (im v).kind)∧w'.cell? ⟨b4,1,none⟩=some (.int .i64 (im v).n)) (by kernel_rfl) ?_ (fun hHeld0=>?_)
  ·exact ⟨x0.out,x1.out,x2.out,x3.out,x4.out⟩
  refine tk (i:=0) (d:=some 56) rfl rfl (by kernel_rfl) (fun _ _ _ h=>h) (by rfl) (by intro _ h;(try dsimp only at h);go_split_ands;go_simp<;>with_reducible rfl) hHeld0 ?_
  try simp only [aS,aN,aT,a0,a1]
  refine tk (i:=1) (d:=some 57) rfl rfl (by kernel_rfl) (fun _ _ _ h=>h) (by rfl) (by intro _ h;(try dsimp only at h);go_split_ands;go_simp<;>with_reducible rfl) hHeld0 ?_
  try simp only [aS,aN,aT,a0,a1]
  refine tk (i:=2) (d:=some 58) rfl rfl (by kernel_rfl) (fun _ _ _ h=>h) (by rfl) (by intro _ h;(try dsimp only at h);go_split_ands;go_simp<;>with_reducible rfl) hHeld0 ?_
  try simp only [aS,aN,aT,a0,a1]
  refine tk (i:=3) (d:=some 59) rfl rfl (by kernel_rfl) (fun _ _ _ h=>h) (by rfl) (by intro _ h;(try dsimp only at h);go_split_ands;go_simp<;>with_reducible rfl) hHeld0 ?_
  try simp only [aS,aN,aT,a0,a1]
  refine tk (i:=4) (d:=some 60) rfl rfl (by kernel_rfl) (fun _ _ _ h=>h) (by rfl) (by intro _ h;(try dsimp only at h);go_split_ands;go_simp<;>with_reducible rfl) hHeld0 ?_
  try simp only [aS,aN,aT,a0,a1]
  refine tk (i:=5) (d:=some 61) rfl rfl (by kernel_rfl) (fun _ _ _ h=>h) (by rfl) (by intro _ h;(try dsimp only at h);go_split_ands;go_simp<;>with_reducible rfl) hHeld0 ?_
  try simp only [aS,aN,aT,a0,a1]
  refine tk (i:=6) (d:=some 62) rfl rfl (by kernel_rfl) (fun _ _ _ h=>h) (by rfl) (by intro _ h;(try dsimp only at h);go_split_ands;go_simp<;>with_reducible rfl) hHeld0 ?_
  try simp only [aS,aN,aT,a0,a1]
  refine tk (i:=9) (d:=some 65) rfl rfl (by kernel_rfl) (fun _ _ _ h=>h) (by rfl) (by intro _ h;(try dsimp only at h);go_split_ands;go_simp<;>with_reducible rfl) hHeld0 ?_
  try simp only [aS,aN,aT,a0,a1]
  refine tk (i:=10) (d:=some 66) rfl rfl (by kernel_rfl) (fun _ _ _ h=>h) (by rfl) (by intro _ h;(try dsimp only at h);go_split_ands;go_simp<;>with_reducible rfl) hHeld0 ?_
  try simp only [aS,aN,aT,a0,a1]
  refine tk (i:=11) (d:=some 67) rfl rfl (by kernel_rfl) (fun _ _ _ h=>h) (by rfl) (by intro _ h;(try dsimp only at h);go_split_ands;go_simp<;>with_reducible rfl) hHeld0 ?_
  try simp only [aS,aN,aT,a0,a1]
  refine tk (i:=12) (d:=some 68) rfl rfl (by kernel_rfl) (fun _ _ _ h=>h) (by rfl) (by intro _ h;(try dsimp only at h);go_split_ands;go_simp<;>with_reducible rfl) hHeld0 ?_
  try simp only [aS,aN,aT,a0,a1]
  refine tk (i:=13) (d:=some 69) rfl rfl (by kernel_rfl) (fun _ _ _ h=>h) (by rfl) (by intro _ h;(try dsimp only at h);go_split_ands;go_simp<;>with_reducible rfl) hHeld0 ?_
  try simp only [aS,aN,aT,a0,a1]
  refine rd1 (i:=7) (by kernel_rfl) rfl fun K hK=>?_
  go_simp
  go_at_call 138
  refine (refOf_any (cc:Int) _).mono ?_
  rintro e w5 ⟨rfl,b5⟩
  have d0:=hid (b5.cell hHeld0.1)
  have d1:=hid (b5.cell hHeld0.2.1)
  have d2:=hid (b5.cell hHeld0.2.2.1)
  have d3:=hid (b5.cell hHeld0.2.2.2.1)
  have d4:=hid (b5.cell hHeld0.2.2.2.2)
  have h1x:=hid (bl_blk b5 g1.out)
  have h2x:=hid (bl_blk b5 g2.out)
  replace b5:=hid b5
  go_wp2_with fail
  refine hK.out _ _ (⟨d0.out,d1.out,d2.out,d3.out,d4.out⟩) (fun hHeld1=>?_)
  try simp only [aS,aN,aT,a0,a1]
  refine rd1 (i:=8) (by kernel_rfl) rfl fun K hK=>?_
  go_simp
  go_at_call 114
  refine (H4.out.useY ((Bl.refl _).drew.trans b5.out) HT2.out).mono ?_
  rintro e w6 ⟨rfl,H6,K6x⟩
  have i1:=K6x.at (Xp.old y1) h1x.out
  have i2:=K6x.at (Xp.old y2) h2x.out
  have f0:=hid H6.hb
  have f1:=hid (ins_of i1).1
  have f2:=hid (ins_of i1).2
  have f3:=hid (c0_of i2)
  have f4:=hid (c1_of i2)
  replace i1:=hid i1
  replace i2:=hid i2
  replace H6:=hid H6
  go_wp2_with fail
  refine hK.out _ _ (⟨f0.out,f1.out,f2.out,f3.out,f4.out⟩) (fun hHeld2=>?_)
  try simp only [aS,aN,aT,a0,a1]
  refine rd1 (i:=14) (by kernel_rfl) rfl fun K hK=>?_
  go_simp
  go_at_call 139
  refine (H6.out.useY (Bl.refl _) HPU.out).mono ?_
  rintro e w7 ⟨rfl,H7,K7⟩
  have i3:=K7.at (Xp.old (Xp.old y1)) i1.out
  have i4:=K7.at (Xp.old (Xp.old y2)) i2.out
  have e0:=hid H7.hb
  replace H7:=hid H7
  go_wp2_with fail
  refine hK.out _ _ (⟨e0.out,(ins_of i3).1,(ins_of i3).2,c0_of i4,c1_of i4⟩) (fun hHeld3=>?_)
  try simp only [aS,aN,aT,a0,a1]
  refine wpAnyH_done (by kernel_rfl) ?_ _
  go_wp2
  go_end0
  exact did_go HSS.out H7.out.x
 ·go_wp2_with fail
  refine hK.out _ _ (⟨Bl.cell ((Bl.refl _).alloc _) hHeld0.1,Bl.cell ((Bl.refl _).alloc _) hHeld0.2.1,Bl.cell ((Bl.refl _).alloc _) hHeld0.2.2.1,Bl.cell ((Bl.refl _).alloc _) hHeld0.2.2.2.1,Bl.cell ((Bl.refl _).alloc _) hHeld0.2.2.2.2.1,Bl.cell ((Bl.refl _).alloc _) hHeld0.2.2.2.2.2.1,Bl.cell ((Bl.refl _).alloc _) hHeld0.2.2.2.2.2.2⟩) (fun hHeld4=>?_)
  try simp only [aS,aN,aT,a0,a1]
  refine rd1 (i:=17) (by kernel_rfl) rfl fun K hK=>?_
  go_simp
  go_at_call 114
  refine (HH.out.y.useY (by first|exact HB.out.drew|exact HB.out.drew.alloc _) HT1.out).mono ?_
  rintro e w2 ⟨rfl,H1,K1⟩
  have bxK1:=K1.at (Xp.new (Nat.le_refl _) (by first|exact lt_w1 w _|exact lt_w2a w _ _)) (by first|exact HL.out|exact (Below.heap_alloc _ _ _ (lt_some HL.out)).trans HL.out)
  have K1a:=hid H1.hb
  have K1b:=hid (ins_of bxK1).1
  have K1c:=hid (ins_of bxK1).2
  have hbl:=RXY.blw H1
  have K3:=hid (H1.hc0 HA.out)
  have K4:=hid (Bl.cell hbl HY0.out)
  have K5:=hid (Bl.cell hbl HY1.out)
  have K6:=hid (Bl.cell hbl HY2.out)
  have hsz:=K1.size
  try (have q9:=K1.at (b:=w.heap.size+1) (Xp.new (Nat.le_succ _) (lt_w2b w _ _)) (two_lie w _ _ _ _).2;have p0:=c0_of q9;have p1:=c1_of q9;have pz:=free_blk q9;replace q9:=hid q9)
  replace bxK1:=hid bxK1
  replace H1:=hid H1
  clear K1 hbl
  go_wp2_with fail
  refine hK.out _ _ (⟨K1a.out,K1b.out,K1c.out,K3.out,K4.out,K5.out,K6.out⟩) (fun hHeld5=>?_)
  try simp only [aS,aN,aT,a0,a1]
  refine rd1 (i:=19) (by kernel_rfl) rfl fun K hK=>?_
  go_wp2_with fail
  refine hK.out _ _ (by first|exact ⟨Bl.cell ((Bl.refl _).alloc _) K1a.out,Bl.cell ((Bl.refl _).alloc _) K1b.out,Bl.cell ((Bl.refl _).alloc _) K1c.out,Bl.cell ((Bl.refl _).alloc _) K3.out,Bl.cell ((Bl.refl _).alloc _) K4.out,Bl.cell ((Bl.refl _).alloc _) K5.out,Bl.cell ((Bl.refl _).alloc _) K6.out⟩|exact ⟨set2_cellE K1a.out (by omega),set2_cellE K1b.out (by omega),set2_cellE K1c.out (by omega),set2_cellE K3.out (by omega),set2_cellE K4.out (by omega),set2_cellE K5.out (by omega),set2_cellE K6.out (by omega)⟩) (fun hHeld6=>?_)
  try simp only [aS,aN,aT,a0,a1]
  refine wpAnyH_done (by kernel_rfl) ?_ _
  go_wp2
  first
   | (obtain ⟨W,b4,Y,H4,y1,y2,g1,g2,gW,gb⟩:=pq1 H1 bxK1 (Xp.new (Nat.le_refl _) (lt_w1 w _)) (im v);rw [←gb,←gW])
   | (obtain ⟨W,b4,Y,H4,y1,y2,g1,g2,gW,gb⟩:=pq2 (b:=w.heap.size+1) H1 bxK1 (Xp.new (Nat.le_refl _) (lt_w2a w _ _)) (Xp.new (Nat.le_succ _) (lt_w2b w _ _)) q9 (by omega) (im v);rw [←gW,←gb])
  clear gW gb
  have x0:=hid H4.hb
  have x1:=hid (ins_of g1).1
  have x2:=hid (ins_of g1).2
  have x3:=hid (c0_of g2)
  have x4:=hid (c1_of g2)
  replace H4:=hid H4
  replace g1:=hid g1
  replace g2:=hid g2
  refine wp_region_held_drew (S:=fun w'=>w'.cell? ⟨a.q,0,none⟩=some (.pointer (some ⟨g.hb,0,none⟩))∧w'.cell? ⟨w.heap.size,1,none⟩=some (.int .i64 (cc:Int))∧w'.cell? ⟨w.heap.size,2,none⟩=some (.int .i64 (k:Int))∧w'.cell? ⟨b4,0,none⟩=some (.int .i64 (im v).kind)∧w'.cell? ⟨b4,1,none⟩=some (.int .i64 (im v).n)) (by kernel_rfl) ?_ (fun hHeld0=>?_)
  ·exact ⟨x0.out,x1.out,x2.out,x3.out,x4.out⟩
  refine tk (i:=0) (d:=some 56) rfl rfl (by kernel_rfl) (fun _ _ _ h=>h) (by rfl) (by intro _ h;(try dsimp only at h);go_split_ands;go_simp<;>with_reducible rfl) hHeld0 ?_
  try simp only [aS,aN,aT,a0,a1]
  refine tk (i:=1) (d:=some 57) rfl rfl (by kernel_rfl) (fun _ _ _ h=>h) (by rfl) (by intro _ h;(try dsimp only at h);go_split_ands;go_simp<;>with_reducible rfl) hHeld0 ?_
  try simp only [aS,aN,aT,a0,a1]
  refine tk (i:=2) (d:=some 58) rfl rfl (by kernel_rfl) (fun _ _ _ h=>h) (by rfl) (by intro _ h;(try dsimp only at h);go_split_ands;go_simp<;>with_reducible rfl) hHeld0 ?_
  try simp only [aS,aN,aT,a0,a1]
  refine tk (i:=3) (d:=some 59) rfl rfl (by kernel_rfl) (fun _ _ _ h=>h) (by rfl) (by intro _ h;(try dsimp only at h);go_split_ands;go_simp<;>with_reducible rfl) hHeld0 ?_
  try simp only [aS,aN,aT,a0,a1]
  refine tk (i:=4) (d:=some 60) rfl rfl (by kernel_rfl) (fun _ _ _ h=>h) (by rfl) (by intro _ h;(try dsimp only at h);go_split_ands;go_simp<;>with_reducible rfl) hHeld0 ?_
  try simp only [aS,aN,aT,a0,a1]
  refine tk (i:=5) (d:=some 61) rfl rfl (by kernel_rfl) (fun _ _ _ h=>h) (by rfl) (by intro _ h;(try dsimp only at h);go_split_ands;go_simp<;>with_reducible rfl) hHeld0 ?_
  try simp only [aS,aN,aT,a0,a1]
  refine tk (i:=6) (d:=some 62) rfl rfl (by kernel_rfl) (fun _ _ _ h=>h) (by rfl) (by intro _ h;(try dsimp only at h);go_split_ands;go_simp<;>with_reducible rfl) hHeld0 ?_
  try simp only [aS,aN,aT,a0,a1]
  refine tk (i:=9) (d:=some 65) rfl rfl (by kernel_rfl) (fun _ _ _ h=>h) (by rfl) (by intro _ h;(try dsimp only at h);go_split_ands;go_simp<;>with_reducible rfl) hHeld0 ?_
  try simp only [aS,aN,aT,a0,a1]
  refine tk (i:=10) (d:=some 66) rfl rfl (by kernel_rfl) (fun _ _ _ h=>h) (by rfl) (by intro _ h;(try dsimp only at h);go_split_ands;go_simp<;>with_reducible rfl) hHeld0 ?_
  try simp only [aS,aN,aT,a0,a1]
  refine tk (i:=11) (d:=some 67) rfl rfl (by kernel_rfl) (fun _ _ _ h=>h) (by rfl) (by intro _ h;(try dsimp only at h);go_split_ands;go_simp<;>with_reducible rfl) hHeld0 ?_
  try simp only [aS,aN,aT,a0,a1]
  refine tk (i:=12) (d:=some 68) rfl rfl (by kernel_rfl) (fun _ _ _ h=>h) (by rfl) (by intro _ h;(try dsimp only at h);go_split_ands;go_simp<;>with_reducible rfl) hHeld0 ?_
  try simp only [aS,aN,aT,a0,a1]
  refine tk (i:=13) (d:=some 69) rfl rfl (by kernel_rfl) (fun _ _ _ h=>h) (by rfl) (by intro _ h;(try dsimp only at h);go_split_ands;go_simp<;>with_reducible rfl) hHeld0 ?_
  try simp only [aS,aN,aT,a0,a1]
  refine rd1 (i:=7) (by kernel_rfl) rfl fun K hK=>?_
  go_simp
  go_at_call 138
  refine (refOf_any (cc:Int) _).mono ?_
  rintro e w5 ⟨rfl,b5⟩
  have d0:=hid (b5.cell hHeld0.1)
  have d1:=hid (b5.cell hHeld0.2.1)
  have d2:=hid (b5.cell hHeld0.2.2.1)
  have d3:=hid (b5.cell hHeld0.2.2.2.1)
  have d4:=hid (b5.cell hHeld0.2.2.2.2)
  have h1x:=hid (bl_blk b5 g1.out)
  have h2x:=hid (bl_blk b5 g2.out)
  replace b5:=hid b5
  go_wp2_with fail
  refine hK.out _ _ (⟨d0.out,d1.out,d2.out,d3.out,d4.out⟩) (fun hHeld1=>?_)
  try simp only [aS,aN,aT,a0,a1]
  refine rd1 (i:=8) (by kernel_rfl) rfl fun K hK=>?_
  go_simp
  go_at_call 114
  refine (H4.out.useY ((Bl.refl _).drew.trans b5.out) HT2.out).mono ?_
  rintro e w6 ⟨rfl,H6,K6x⟩
  have i1:=K6x.at (Xp.old y1) h1x.out
  have i2:=K6x.at (Xp.old y2) h2x.out
  have f0:=hid H6.hb
  have f1:=hid (ins_of i1).1
  have f2:=hid (ins_of i1).2
  have f3:=hid (c0_of i2)
  have f4:=hid (c1_of i2)
  replace i1:=hid i1
  replace i2:=hid i2
  replace H6:=hid H6
  go_wp2_with fail
  refine hK.out _ _ (⟨f0.out,f1.out,f2.out,f3.out,f4.out⟩) (fun hHeld2=>?_)
  try simp only [aS,aN,aT,a0,a1]
  refine rd1 (i:=14) (by kernel_rfl) rfl fun K hK=>?_
  go_simp
  go_at_call 139
  refine (H6.out.useY (Bl.refl _) HPU.out).mono ?_
  rintro e w7 ⟨rfl,H7,K7⟩
  have i3:=K7.at (Xp.old (Xp.old y1)) i1.out
  have i4:=K7.at (Xp.old (Xp.old y2)) i2.out
  have e0:=hid H7.hb
  replace H7:=hid H7
  go_wp2_with fail
  refine hK.out _ _ (⟨e0.out,(ins_of i3).1,(ins_of i3).2,c0_of i4,c1_of i4⟩) (fun hHeld3=>?_)
  try simp only [aS,aN,aT,a0,a1]
  refine wpAnyH_done (by kernel_rfl) ?_ _
  go_wp2
  go_end0
  exact did_go HSS.out H7.out.x
end
end Go.Proofs.Ytgiiapenmjollaa
