import Derived.Test.YtgiiapenmjollaaSlap
namespace Go.Proofs.Ytgiiapenmjollaa
set_option linter.all false
set_option maxHeartbeats 40000000
open Go.RowKit
section
open Go.Maps (Keyed has)
theorem set2_cellD {w:World} {b b' i:Nat} {k n x:Value} (h:w.cell? ⟨b,i,none⟩=some x) (hb:b≠b'):((w.setCell ⟨b',0,none⟩ k).setCell ⟨b',1,none⟩ n).cell? ⟨b,i,none⟩=some x:=by
 rw [World.cell?_setCell_far _ _ _ _ (Ne.symm hb),World.cell?_setCell_far _ _ _ _ (Ne.symm hb)];exact h
set_option maxRecDepth 100000 in
theorem operate_no (X:Nat→Prop) (wx w0:World) (g:Mg) (h:Hp) (qs:List Nat) (a:Mc) (c:Cal) (k op:Int) (w:World) (H:RX 1 X wx w0 g w h qs a c) (hn:∀l u v,c.stk=l++[u,v]→u.kind=k→v.kind=k→False) :
  Calls Try.prog 134 #[.pointer (some ⟨a.q,0,none⟩),.int .i64 k,.int .i64 op] w fun e w'=>e=stopE 6 0 0∧RS 1 X wx w0 g w' h qs a c:=by
 have HH:=hid H
 have HN:=hid hn
 have HB:Hid (Bl w (w.alloc mvZ)):=(Bl.refl w).alloc _
 clear H hn
 go_enter Try.func134,Try.ntmps134
 go_wp2_with (go_at_call 135;refine (HH.out.y.useN HB.out (fun X wx w H=>takeTwo_no 1 X wx w0 g h qs a c k w H HN.out)).mono ?_;rintro e w1 ⟨rfl,H1⟩;replace H1:=hid H1)
 exact ⟨rfl,rfl,H1.out⟩
set_option maxRecDepth 100000 in
theorem operate_yes (X:Nat→Prop) (wx w0:World) (g:Mg) (h:Hp) (qs:List Nat) (a:Mc) (c:Cal) (k op:Int) (w:World) (H:RX 1 X wx w0 g w h qs a c) (l:List Va) (u v:Va) (hs:c.stk=l++[u,v]) (hu:u.kind=k) (hv:v.kind=k) (hk:k=1∨k=2) (hr:reckB k op u v=true) :
  Calls Try.prog 134 #[.pointer (some ⟨a.q,0,none⟩),.int .i64 k,.int .i64 op] w fun e w'=>e=.returned (mvV ⟨k,reckN k op u v⟩)∧RX 1 X wx w0 g w' h qs a { c with stk:=l }:=by
 have HH:=hid H
 have HS:=hid hs
 have HK:=hid (And.intro hu (And.intro hv hk))
 have HR:=hid hr
 have HU:Hid (im u=u∧im v=v):=⟨im_num (by rcases hk with q|q<;>omega),im_num (by rcases hk with q|q<;>omega)⟩
 have HB:Hid (Bl w (w.alloc mvZ)):=(Bl.refl w).alloc _
 have HL:=hid (blk_new w #[.int .i64 0,.int .i64 0] 109)
 clear H hs hu hv hk hr
 go_enter Try.func134,Try.ntmps134
 go_wp2_with (go_at_call 135;refine (HH.out.y.useY HB.out (fun X wx w H=>takeTwo_yes 1 X wx w0 g h qs a c l u v k w H HS.out HK.out.1 HK.out.2.1)).mono ?_;rintro e w1 ⟨he,H1,K1⟩;rw [HU.out.1,HU.out.2] at he;subst he;have q0:=K1.at (Xp.new (Nat.le_refl _) (lt_w1 w _)) HL.out;clear K1;replace H1:=hid H1;replace q0:=hid q0)
 have H2:=H1.out.bl (((Bl.refl w1).alloc (mvO u)).alloc (mvO v))
 obtain ⟨M0,M1⟩:=two_lie w1 #[.int .i64 u.kind,.int .i64 u.n] #[.int .i64 v.kind,.int .i64 v.n] 109 109
 have hw1:=lt_some q0.out
 have z0:=hid H2.hb
 have z1:=hid (c0_of M0)
 have z2:=hid (c1_of M0)
 have z3:=hid (c0_of M1)
 have z4:=hid (c1_of M1)
 have q1:=hid (bl_blk (((Bl.refl w1).alloc (mvO u)).alloc (mvO v)) q0.out)
 replace H2:=hid H2
 have hqw:a.q≠w.heap.size:=by have:=HH.out.qlt;omega
 clear H1 q0 M0 M1
 refine wp_region_held_drew (S:=fun w'=>w'.cell? ⟨a.q,0,none⟩=some (.pointer (some ⟨g.hb,0,none⟩))∧w'.cell? ⟨w1.heap.size,0,none⟩=some (.int .i64 u.kind)∧w'.cell? ⟨w1.heap.size,1,none⟩=some (.int .i64 u.n)∧w'.cell? ⟨w1.heap.size+1,0,none⟩=some (.int .i64 v.kind)∧w'.cell? ⟨w1.heap.size+1,1,none⟩=some (.int .i64 v.n)) (by kernel_rfl) ?_ (fun hHeld0=>?_)
 ·exact ⟨z0.out,z1.out,z2.out,z3.out,z4.out⟩
 refine tk (i:=0) (d:=some 15) rfl rfl (by kernel_rfl) (fun _ _ _ h=>h) (by rfl) (by intro _ h;(try dsimp only at h);go_split_ands;go_simp<;>with_reducible rfl) hHeld0 ?_
 try simp only [aS,aN,aT,a0,a1]
 refine tk (i:=1) (d:=some 16) rfl rfl (by kernel_rfl) (fun _ _ _ h=>h) (by rfl) (by intro _ h;(try dsimp only at h);go_split_ands;go_simp<;>with_reducible rfl) hHeld0 ?_
 try simp only [aS,aN,aT,a0,a1]
 refine tk (i:=2) (d:=some 17) rfl rfl (by kernel_rfl) (fun _ _ _ h=>h) (by rfl) (by intro _ h;(try dsimp only at h);go_split_ands;go_simp<;>with_reducible rfl) hHeld0 ?_
 try simp only [aS,aN,aT,a0,a1]
 refine tk (i:=3) (d:=some 18) rfl rfl (by kernel_rfl) (fun _ _ _ h=>h) (by rfl) (by intro _ h;(try dsimp only at h);go_split_ands;go_simp<;>with_reducible rfl) hHeld0 ?_
 try simp only [aS,aN,aT,a0,a1]
 refine tk (i:=4) (d:=some 19) rfl rfl (by kernel_rfl) (fun _ _ _ h=>h) (by rfl) (by intro _ h;(try dsimp only at h);go_split_ands;go_simp<;>with_reducible rfl) hHeld0 ?_
 try simp only [aS,aN,aT,a0,a1]
 refine tk (i:=5) (d:=some 20) rfl rfl (by kernel_rfl) (fun _ _ _ h=>h) (by rfl) (by intro _ h;(try dsimp only at h);go_split_ands;go_simp<;>with_reducible rfl) hHeld0 ?_
 try simp only [aS,aN,aT,a0,a1]
 refine tk (i:=6) (d:=some 21) rfl rfl (by kernel_rfl) (fun _ _ _ h=>h) (by rfl) (by intro _ h;(try dsimp only at h);go_split_ands;go_simp<;>with_reducible rfl) hHeld0 ?_
 try simp only [aS,aN,aT,a0,a1]
 refine tk (i:=7) (d:=some 22) rfl rfl (by kernel_rfl) (fun _ _ _ h=>h) (by rfl) (by intro _ h;(try dsimp only at h);go_split_ands;go_simp<;>with_reducible rfl) hHeld0 ?_
 try simp only [aS,aN,aT,a0,a1]
 refine rd1 (i:=8) (by kernel_rfl) rfl fun K hK=>?_
 go_simp
 go_at_call 144
 refine (reckon_yes g.hb k op u v HK.out.2.2 HR.out _).mono ?_
 rintro e w2 ⟨rfl,b2⟩
 have d0:=hid (b2.cell hHeld0.1)
 have d1:=hid (b2.cell hHeld0.2.1)
 have d2:=hid (b2.cell hHeld0.2.2.1)
 have d3:=hid (b2.cell hHeld0.2.2.2.1)
 have d4:=hid (b2.cell hHeld0.2.2.2.2)
 have q2:=bl_blk b2 q1.out
 have c4:=c0_of q2
 have c5:=c1_of q2
 have fz:=free_blk q2
 replace b2:=hid b2
 replace q2:=hid q2
 go_wp2_with fail
 refine hK.out _ _ (⟨d0.out,d1.out,d2.out,d3.out,d4.out⟩) (fun hHeld1=>?_)
 try simp only [aS,aN,aT,a0,a1]
 refine rd1 (i:=9) (by kernel_rfl) rfl fun K hK=>?_
 go_wp2_with fail
 refine hK.out _ _ (⟨set2_cellD d0.out hqw,set2_cellD d1.out (by omega),set2_cellD d2.out (by omega),set2_cellD d3.out (by omega),set2_cellD d4.out (by omega)⟩) (fun hHeld2=>?_)
 try simp only [aS,aN,aT,a0,a1]
 refine wpAnyH_done (by kernel_rfl) ?_ _
 go_wp2
 refine bodyPost_ret (results_cell_row rfl _ _ w.heap.size _ _ _ _ rfl (set_two q2.out) Try.underlying109 rfl info_mv) rfl ?_
 refine ⟨rfl,RXY.x (RXY.set (RXY.set (H2.out.bl ((Bl.refl _).drew.trans b2.out)) ?_ 0 _) ?_ 1 _)⟩<;>exact Xp.old (Xp.old (Xp.new (Nat.le_refl _) (lt_w1 w _)))
set_option maxRecDepth 100000 in
theorem operate_throws (X:Nat→Prop) (wx w0:World) (g:Mg) (h:Hp) (qs:List Nat) (a:Mc) (c:Cal) (k op:Int) (w:World) (H:RX 1 X wx w0 g w h qs a c) (l:List Va) (u v:Va) (hs:c.stk=l++[u,v]) (hu:u.kind=k) (hv:v.kind=k) (hk:k=1∨k=2) (hr:reckB k op u v=false) (hl:h.objs.length≤100) (ho:h.over=false) :
  Calls Try.prog 134 #[.pointer (some ⟨a.q,0,none⟩),.int .i64 k,.int .i64 op] w fun e w'=>e=raiseE h∧RX 1 X wx w0 g w' (h.raise 2) qs a { c with stk:=l }:=by
 have HH:=hid H
 have HS:=hid hs
 have HK:=hid (And.intro hu (And.intro hv hk))
 have HR:=hid hr
 have HLO:=hid (And.intro hl ho)
 have HU:Hid (im u=u∧im v=v):=⟨im_num (by rcases hk with q|q<;>omega),im_num (by rcases hk with q|q<;>omega)⟩
 have HB:Hid (Bl w (w.alloc mvZ)):=(Bl.refl w).alloc _
 have HL:=hid (blk_new w #[.int .i64 0,.int .i64 0] 109)
 obtain ⟨E,hE⟩:∃E,raiseE h=E:=⟨_,rfl⟩
 have HE:=hid hE
 rw [hE]
 have HX:Hid (∃ch,E=.panicked ch):=by
  rw [←hE];unfold raiseE;split<;>exact ⟨_,rfl⟩
 clear H hs hu hv hk hr hl ho hE
 obtain ⟨ch,rfl⟩:=HX.out
 go_enter Try.func134,Try.ntmps134
 go_wp2_with (go_at_call 135;refine (HH.out.y.useY HB.out (fun X wx w H=>takeTwo_yes 1 X wx w0 g h qs a c l u v k w H HS.out HK.out.1 HK.out.2.1)).mono ?_;rintro e w1 ⟨he,H1,K1⟩;rw [HU.out.1,HU.out.2] at he;subst he;have q0:=K1.at (Xp.new (Nat.le_refl _) (lt_w1 w _)) HL.out;clear K1;replace H1:=hid H1;replace q0:=hid q0)
 have H2:=H1.out.bl (((Bl.refl w1).alloc (mvO u)).alloc (mvO v))
 obtain ⟨M0,M1⟩:=two_lie w1 #[.int .i64 u.kind,.int .i64 u.n] #[.int .i64 v.kind,.int .i64 v.n] 109 109
 have z0:=hid H2.hb
 have z1:=hid (c0_of M0)
 have z2:=hid (c1_of M0)
 have z3:=hid (c0_of M1)
 have z4:=hid (c1_of M1)
 replace H2:=hid H2
 clear H1 q0 M0 M1
 refine wp_region_held_drew (S:=fun w'=>w'.cell? ⟨a.q,0,none⟩=some (.pointer (some ⟨g.hb,0,none⟩))∧w'.cell? ⟨w1.heap.size,0,none⟩=some (.int .i64 u.kind)∧w'.cell? ⟨w1.heap.size,1,none⟩=some (.int .i64 u.n)∧w'.cell? ⟨w1.heap.size+1,0,none⟩=some (.int .i64 v.kind)∧w'.cell? ⟨w1.heap.size+1,1,none⟩=some (.int .i64 v.n)) (by kernel_rfl) ?_ (fun hHeld0=>?_)
 ·exact ⟨z0.out,z1.out,z2.out,z3.out,z4.out⟩
 refine tk (i:=0) (d:=some 15) rfl rfl (by kernel_rfl) (fun _ _ _ h=>h) (by rfl) (by intro _ h;(try dsimp only at h);go_split_ands;go_simp<;>with_reducible rfl) hHeld0 ?_
 try simp only [aS,aN,aT,a0,a1]
 refine tk (i:=1) (d:=some 16) rfl rfl (by kernel_rfl) (fun _ _ _ h=>h) (by rfl) (by intro _ h;(try dsimp only at h);go_split_ands;go_simp<;>with_reducible rfl) hHeld0 ?_
 try simp only [aS,aN,aT,a0,a1]
 refine tk (i:=2) (d:=some 17) rfl rfl (by kernel_rfl) (fun _ _ _ h=>h) (by rfl) (by intro _ h;(try dsimp only at h);go_split_ands;go_simp<;>with_reducible rfl) hHeld0 ?_
 try simp only [aS,aN,aT,a0,a1]
 refine tk (i:=3) (d:=some 18) rfl rfl (by kernel_rfl) (fun _ _ _ h=>h) (by rfl) (by intro _ h;(try dsimp only at h);go_split_ands;go_simp<;>with_reducible rfl) hHeld0 ?_
 try simp only [aS,aN,aT,a0,a1]
 refine tk (i:=4) (d:=some 19) rfl rfl (by kernel_rfl) (fun _ _ _ h=>h) (by rfl) (by intro _ h;(try dsimp only at h);go_split_ands;go_simp<;>with_reducible rfl) hHeld0 ?_
 try simp only [aS,aN,aT,a0,a1]
 refine tk (i:=5) (d:=some 20) rfl rfl (by kernel_rfl) (fun _ _ _ h=>h) (by rfl) (by intro _ h;(try dsimp only at h);go_split_ands;go_simp<;>with_reducible rfl) hHeld0 ?_
 try simp only [aS,aN,aT,a0,a1]
 refine tk (i:=6) (d:=some 21) rfl rfl (by kernel_rfl) (fun _ _ _ h=>h) (by rfl) (by intro _ h;(try dsimp only at h);go_split_ands;go_simp<;>with_reducible rfl) hHeld0 ?_
 try simp only [aS,aN,aT,a0,a1]
 refine tk (i:=7) (d:=some 22) rfl rfl (by kernel_rfl) (fun _ _ _ h=>h) (by rfl) (by intro _ h;(try dsimp only at h);go_split_ands;go_simp<;>with_reducible rfl) hHeld0 ?_
 try simp only [aS,aN,aT,a0,a1]
 refine rd1 (i:=8) (by kernel_rfl) rfl fun K hK=>?_
 go_simp
 go_at_call 144
 refine (reckon_no 1 X wx w0 g h qs a { c with stk:=l } k op u v HK.out.2.2 HR.out _ (H2.out.x.bl (Bl.refl _).drew) HLO.out.1 HLO.out.2).mono ?_
 rintro e w2 ⟨he,H3⟩
 rw [HE.out] at he
 subst he
 exact ⟨rfl,rfl,H3⟩
end
section
open Go.Maps (Keyed has)
theorem RXY.c11 {s:Nat} {X Y:Nat→Prop} {wx w0 w:World} {g:Mg} {h:Hp} {qs:List Nat} {a:Mc} {c:Cal} (H:RXY s X Y wx w0 g w h qs a c):w.cell? ⟨a.q,11,none⟩=some (.slice (some ⟨a.lb,0,none⟩) c.locs.length a.lc):=by
 obtain ⟨vc,vo,vx,vs,l,H,-⟩:=H
 exact H.ca.cells.c11
theorem RXY.c1 {s:Nat} {X Y:Nat→Prop} {wx w0 w:World} {g:Mg} {h:Hp} {qs:List Nat} {a:Mc} {c:Cal} (H:RXY s X Y wx w0 g w h qs a c):w.cell? ⟨a.q,1,none⟩=some (.pointer (some ⟨g.r,0,none⟩)):=by
 obtain ⟨vc,vo,vx,vs,l,H,-⟩:=H
 exact H.ca.cells.c1
abbrev insO (op ia ib ic ii:Int) (Q:Option Addr) (nl q:Nat):Obj:=.cells #[.int .i64 op,.int .i64 ia,.int .i64 ib,.int .i64 ic,.int .i64 ii,.slice Q nl q] 51
theorem ins_of {w:World} {b:Nat} {op ia ib ic ii:Int} {Q:Option Addr} {nl q:Nat} (h:w.heap[b]?=some (.cells #[.int .i64 op,.int .i64 ia,.int .i64 ib,.int .i64 ic,.int .i64 ii,.slice Q nl q] 51 (0,0))):w.cell? ⟨b,1,none⟩=some (.int .i64 ia)∧w.cell? ⟨b,2,none⟩=some (.int .i64 ib):=by
 constructor<;>(rw [cell_blk h];rfl)
set_option maxRecDepth 100000 in
theorem work_op4 (X:Nat→Prop) (wx w0:World) (g:Mg) (h:Hp) (qs:List Nat) (a:Mc) (c:Cal) (ia ib ic ii:Int) (args:List Int) (Q:Option Addr) (nl q:Nat) (w:World) (H:RX 1 X wx w0 g w h qs a c) (hs:h.stops=false) (hl:c.stk.length≤1000) (hok:0≤ia∧ia<c.locs.length∧(ib=2→ia+1<c.locs.length)) (hk:1≤ib∧ib≤3) :
  Calls Try.prog 94 #[.pointer (some ⟨a.q,0,none⟩),.agg #[.int .i64 4,.int .i64 ia,.int .i64 ib,.int .i64 ic,.int .i64 ii,.slice Q nl q]] w fun e w'=>DidQ X wx w0 g qs a c (doesP h c ⟨4,ia,ib,ic,ii,args⟩) e w':=by
 obtain ⟨n,rfl⟩:∃n:Nat,ia=n:=⟨ia.toNat,by omega⟩
 have hn:n<c.locs.length:=by omega
 have h2:ib=2→n+1<c.locs.length:=fun e=>by have:=hok.2.2 e;omega
 have hd:doesP h c ⟨4,(n:Int),ib,ic,ii,args⟩=loadP h c ⟨4,(n:Int),ib,ic,ii,args⟩:=rfl
 rw [hd]
 unfold loadP
 dsimp only
 rw [Int.toNat_natCast]
 have HH:=hid H
 have HS:=hid hs
 have hqlt:=H.qlt
 have HB:Hid (Bl w (w.alloc (.cells #[.int .i64 4,.int .i64 (n:Int),.int .i64 ib,.int .i64 ic,.int .i64 ii,.slice Q nl q] 51))):=(Bl.refl w).alloc _
 have HL:=hid (blk_new w #[.int .i64 4,.int .i64 (n:Int),.int .i64 ib,.int .i64 ic,.int .i64 ii,.slice Q nl q] 51)
 have HA:Hid (∃vs l,CA w0 g w a c l vs):=by
  obtain ⟨vc,vo,vx,vs,l,H⟩:=H
  exact ⟨vs,l,H.ca⟩
 obtain ⟨vs,l,HC⟩:=HA.out
 have HCB:Hid (∀w',Bl w w'→CA w0 g w' a c l vs):=fun w' hb=>HC.kept (grown_bl hb none) (fun b e=>by cases e)
 have z0:=hid ((H.y.bl HB.out).c11)
 have z1:=hid (ins_of HL.out).1
 have z2:=hid (ins_of HL.out).2
 have hmb:h.mustB (decide ((nth va0 c.locs n).kind=ib))=decide ((nth va0 c.locs n).kind=ib):=by unfold Hp.mustB;rw [hs_over hs];simp
 rw [hmb]
 by_cases hv:(nth va0 c.locs n).kind=ib
 ·rw [if_pos (by simpa using hv)]
  have HV:=hid hv
  have HN:=hid (And.intro hn (And.intro hk h2))
  obtain ⟨E,hE⟩:∃E,(if (sizP ((c).stk++[(nth va0 c.locs n)]):Int)≤(c).m.stack then Ending.returned (.tuple #[]) else stopE 6 0 0)=E:=⟨_,rfl⟩
  have HP:Hid (∀X wx w,RX 1 X wx w0 g w h qs a (c)→Calls Try.prog 95 #[.pointer (some ⟨a.q,0,none⟩),mvV (im (nth va0 c.locs n))] w fun e w2=>e=E∧RX 1 X wx w0 g w2 h qs a ((c).put (nth va0 c.locs n))):=fun X wx w H=>hE▸mput_any 1 X wx w0 g h qs a (c) (nth va0 c.locs n) w H (by rw [hv];exact hk) (hl)
  have HE:Hid (∀w',RX 1 X wx w0 g w' h qs a ((c).put (nth va0 c.locs n))→DidQ X wx w0 g qs a c ⟨(h).putH (c) (nth va0 c.locs n),(c).put (nth va0 c.locs n),c.pc+1⟩ E w'):=fun w' H=>did_put hs rfl ⟨rfl,rfl⟩ hE.symm H.less
  have hE2:E=.returned (.tuple #[])∨E=stopE 6 0 0:=by rw [←hE];split;exact Or.inl rfl;exact Or.inr rfl
  clear hE
  clear H hs hd HC HA hmb hv hok hk h2 hn
  rcases hE2 with rfl|rfl
  ·go_enter Try.func94,Try.ntmps94
   go_wp2
   refine wp_region_held_drew (S:=fun w'=>w'.cell? ⟨a.q,11,none⟩=some (.slice (some ⟨a.lb,0,none⟩) c.locs.length a.lc)∧w'.cell? ⟨w.heap.size,1,none⟩=some (.int .i64 (n:Int))∧w'.cell? ⟨w.heap.size,2,none⟩=some (.int .i64 ib)) (by kernel_rfl) ?_ (fun hHeld0=>?_)
   ·exact ⟨z0.out,z1.out,z2.out⟩
   refine tk (i:=0) (d:=some 31) rfl rfl (by kernel_rfl) (fun _ _ _ h=>h) (by rfl) (by intro _ h;(try dsimp only at h);go_split_ands;go_simp<;>with_reducible rfl) hHeld0 ?_
   try simp only [aS,aN,aT,a0,a1]
   refine tk (i:=1) (d:=some 32) rfl rfl (by kernel_rfl) (fun _ _ _ h=>h) (by rfl) (by intro _ h;(try dsimp only at h);go_split_ands;go_simp<;>with_reducible rfl) hHeld0 ?_
   try simp only [aS,aN,aT,a0,a1]
   refine tk (i:=2) (d:=some 33) rfl rfl (by kernel_rfl) (fun _ _ _ h=>h) (by rfl) (by intro _ h;(try dsimp only at h);go_split_ands;go_simp<;>with_reducible rfl) hHeld0 ?_
   try simp only [aS,aN,aT,a0,a1]
   refine tk (i:=3) (d:=some 34) rfl rfl (by kernel_rfl) (fun _ _ _ h=>h) (by rfl) (by intro _ h;(try dsimp only at h);go_split_ands;go_simp<;>with_reducible rfl) hHeld0 ?_
   try simp only [aS,aN,aT,a0,a1]
   refine tk (i:=4) (d:=some 35) rfl rfl (by kernel_rfl) (fun _ _ _ h=>h) (by rfl) (by intro _ h;(try dsimp only at h);go_split_ands;go_simp<;>with_reducible rfl) hHeld0 ?_
   try simp only [aS,aN,aT,a0,a1]
   refine tk (i:=5) (d:=some 36) rfl rfl (by kernel_rfl) (fun _ _ _ h=>h) (by rfl) (by intro _ h;(try dsimp only at h);go_split_ands;go_simp<;>with_reducible rfl) hHeld0 ?_
   try simp only [aS,aN,aT,a0,a1]
   refine tk (i:=6) (d:=some 37) rfl rfl (by kernel_rfl) (fun _ _ _ h=>h) (by rfl) (by intro _ h;(try dsimp only at h);go_split_ands;go_simp<;>with_reducible rfl) hHeld0 ?_
   try simp only [aS,aN,aT,a0,a1]
   refine tk (i:=7) (d:=some 38) rfl rfl (by kernel_rfl) (fun _ _ _ h=>h) (by rfl) (by intro _ h;(try dsimp only at h);go_split_ands;go_simp<;>with_reducible rfl) hHeld0 ?_
   try simp only [aS,aN,aT,a0,a1]
   refine tk (i:=8) (d:=some 39) rfl rfl (by kernel_rfl) (fun _ _ _ h=>h) (by rfl) (by intro _ h;(try dsimp only at h);go_split_ands;go_simp<;>with_reducible rfl) hHeld0 ?_
   try simp only [aS,aN,aT,a0,a1]
   refine rd1 (i:=9) (by kernel_rfl) rfl fun K hK=>?_
   go_simp
   go_at_call 117
   refine (read_yes (HCB.out _ HB.out.drew) n ib HN.out.1 HN.out.2.1 HN.out.2.2 HV.out).mono ?_
   rintro e w1 ⟨rfl,b1⟩
   have d0:=hid (b1.cell hHeld0.1)
   have d1:=hid (b1.cell hHeld0.2.1)
   have d2:=hid (b1.cell hHeld0.2.2)
   replace b1:=hid b1
   go_wp2_with fail
   refine hK.out _ _ (⟨d0.out,d1.out,d2.out⟩) (fun hHeld1=>?_)
   try simp only [aS,aN,aT,a0,a1]
   refine rd1 (i:=10) (by kernel_rfl) rfl fun K hK=>?_
   go_simp
   go_at_call 95
   refine (HH.out.y.useY (HB.out.drew.trans b1.out) HP.out).mono ?_
   rintro e w2 ⟨rfl,H2,K2⟩
   replace H2:=hid H2
   have hbx:=bl_blk b1.out HL.out
   go_wp2_with fail
   refine hK.out _ _ (⟨H2.out.c11,(ins_of (K2.at (Xp.new (Nat.le_refl _) (lt_some hbx)) hbx)).1,(ins_of (K2.at (Xp.new (Nat.le_refl _) (lt_some hbx)) hbx)).2⟩) (fun hHeld2=>?_)
   try simp only [aS,aN,aT,a0,a1]
   refine wpAnyH_done (by kernel_rfl) ?_ _
   go_wp2
   go_end0
   exact HE.out _ H2.out.x
  ·go_enter Try.func94,Try.ntmps94
   go_wp2
   refine wp_region_held_drew (S:=fun w'=>w'.cell? ⟨a.q,11,none⟩=some (.slice (some ⟨a.lb,0,none⟩) c.locs.length a.lc)∧w'.cell? ⟨w.heap.size,1,none⟩=some (.int .i64 (n:Int))∧w'.cell? ⟨w.heap.size,2,none⟩=some (.int .i64 ib)) (by kernel_rfl) ?_ (fun hHeld0=>?_)
   ·exact ⟨z0.out,z1.out,z2.out⟩
   refine tk (i:=0) (d:=some 31) rfl rfl (by kernel_rfl) (fun _ _ _ h=>h) (by rfl) (by intro _ h;(try dsimp only at h);go_split_ands;go_simp<;>with_reducible rfl) hHeld0 ?_
   try simp only [aS,aN,aT,a0,a1]
   refine tk (i:=1) (d:=some 32) rfl rfl (by kernel_rfl) (fun _ _ _ h=>h) (by rfl) (by intro _ h;(try dsimp only at h);go_split_ands;go_simp<;>with_reducible rfl) hHeld0 ?_
   try simp only [aS,aN,aT,a0,a1]
   refine tk (i:=2) (d:=some 33) rfl rfl (by kernel_rfl) (fun _ _ _ h=>h) (by rfl) (by intro _ h;(try dsimp only at h);go_split_ands;go_simp<;>with_reducible rfl) hHeld0 ?_
   try simp only [aS,aN,aT,a0,a1]
   refine tk (i:=3) (d:=some 34) rfl rfl (by kernel_rfl) (fun _ _ _ h=>h) (by rfl) (by intro _ h;(try dsimp only at h);go_split_ands;go_simp<;>with_reducible rfl) hHeld0 ?_
   try simp only [aS,aN,aT,a0,a1]
   refine tk (i:=4) (d:=some 35) rfl rfl (by kernel_rfl) (fun _ _ _ h=>h) (by rfl) (by intro _ h;(try dsimp only at h);go_split_ands;go_simp<;>with_reducible rfl) hHeld0 ?_
   try simp only [aS,aN,aT,a0,a1]
   refine tk (i:=5) (d:=some 36) rfl rfl (by kernel_rfl) (fun _ _ _ h=>h) (by rfl) (by intro _ h;(try dsimp only at h);go_split_ands;go_simp<;>with_reducible rfl) hHeld0 ?_
   try simp only [aS,aN,aT,a0,a1]
   refine tk (i:=6) (d:=some 37) rfl rfl (by kernel_rfl) (fun _ _ _ h=>h) (by rfl) (by intro _ h;(try dsimp only at h);go_split_ands;go_simp<;>with_reducible rfl) hHeld0 ?_
   try simp only [aS,aN,aT,a0,a1]
   refine tk (i:=7) (d:=some 38) rfl rfl (by kernel_rfl) (fun _ _ _ h=>h) (by rfl) (by intro _ h;(try dsimp only at h);go_split_ands;go_simp<;>with_reducible rfl) hHeld0 ?_
   try simp only [aS,aN,aT,a0,a1]
   refine tk (i:=8) (d:=some 39) rfl rfl (by kernel_rfl) (fun _ _ _ h=>h) (by rfl) (by intro _ h;(try dsimp only at h);go_split_ands;go_simp<;>with_reducible rfl) hHeld0 ?_
   try simp only [aS,aN,aT,a0,a1]
   refine rd1 (i:=9) (by kernel_rfl) rfl fun K hK=>?_
   go_simp
   go_at_call 117
   refine (read_yes (HCB.out _ HB.out.drew) n ib HN.out.1 HN.out.2.1 HN.out.2.2 HV.out).mono ?_
   rintro e w1 ⟨rfl,b1⟩
   have d0:=hid (b1.cell hHeld0.1)
   have d1:=hid (b1.cell hHeld0.2.1)
   have d2:=hid (b1.cell hHeld0.2.2)
   replace b1:=hid b1
   go_wp2_with fail
   refine hK.out _ _ (⟨d0.out,d1.out,d2.out⟩) (fun hHeld1=>?_)
   try simp only [aS,aN,aT,a0,a1]
   refine rd1 (i:=10) (by kernel_rfl) rfl fun K hK=>?_
   go_simp
   go_at_call 95
   refine (HH.out.y.useY (HB.out.drew.trans b1.out) HP.out).mono ?_
   rintro e w2 ⟨rfl,H2,K2⟩
   exact ⟨rfl,HE.out _ H2.x⟩
 ·rw [if_neg (by simpa using hv),must_no (by simpa using hv)]
  have HV:=hid hv
  have HN:=hid (And.intro hn (And.intro hk h2))
  clear H hs hd HC HA hmb hv hok hk h2 hn
  go_enter Try.func94,Try.ntmps94
  go_wp2
  refine wp_region_held_drew (S:=fun w'=>w'.cell? ⟨a.q,11,none⟩=some (.slice (some ⟨a.lb,0,none⟩) c.locs.length a.lc)∧w'.cell? ⟨w.heap.size,1,none⟩=some (.int .i64 (n:Int))∧w'.cell? ⟨w.heap.size,2,none⟩=some (.int .i64 ib)) (by kernel_rfl) ?_ (fun hHeld0=>?_)
  ·exact ⟨z0.out,z1.out,z2.out⟩
  refine tk (i:=0) (d:=some 31) rfl rfl (by kernel_rfl) (fun _ _ _ h=>h) (by rfl) (by intro _ h;(try dsimp only at h);go_split_ands;go_simp<;>with_reducible rfl) hHeld0 ?_
  try simp only [aS,aN,aT,a0,a1]
  refine tk (i:=1) (d:=some 32) rfl rfl (by kernel_rfl) (fun _ _ _ h=>h) (by rfl) (by intro _ h;(try dsimp only at h);go_split_ands;go_simp<;>with_reducible rfl) hHeld0 ?_
  try simp only [aS,aN,aT,a0,a1]
  refine tk (i:=2) (d:=some 33) rfl rfl (by kernel_rfl) (fun _ _ _ h=>h) (by rfl) (by intro _ h;(try dsimp only at h);go_split_ands;go_simp<;>with_reducible rfl) hHeld0 ?_
  try simp only [aS,aN,aT,a0,a1]
  refine tk (i:=3) (d:=some 34) rfl rfl (by kernel_rfl) (fun _ _ _ h=>h) (by rfl) (by intro _ h;(try dsimp only at h);go_split_ands;go_simp<;>with_reducible rfl) hHeld0 ?_
  try simp only [aS,aN,aT,a0,a1]
  refine tk (i:=4) (d:=some 35) rfl rfl (by kernel_rfl) (fun _ _ _ h=>h) (by rfl) (by intro _ h;(try dsimp only at h);go_split_ands;go_simp<;>with_reducible rfl) hHeld0 ?_
  try simp only [aS,aN,aT,a0,a1]
  refine tk (i:=5) (d:=some 36) rfl rfl (by kernel_rfl) (fun _ _ _ h=>h) (by rfl) (by intro _ h;(try dsimp only at h);go_split_ands;go_simp<;>with_reducible rfl) hHeld0 ?_
  try simp only [aS,aN,aT,a0,a1]
  refine tk (i:=6) (d:=some 37) rfl rfl (by kernel_rfl) (fun _ _ _ h=>h) (by rfl) (by intro _ h;(try dsimp only at h);go_split_ands;go_simp<;>with_reducible rfl) hHeld0 ?_
  try simp only [aS,aN,aT,a0,a1]
  refine tk (i:=7) (d:=some 38) rfl rfl (by kernel_rfl) (fun _ _ _ h=>h) (by rfl) (by intro _ h;(try dsimp only at h);go_split_ands;go_simp<;>with_reducible rfl) hHeld0 ?_
  try simp only [aS,aN,aT,a0,a1]
  refine tk (i:=8) (d:=some 39) rfl rfl (by kernel_rfl) (fun _ _ _ h=>h) (by rfl) (by intro _ h;(try dsimp only at h);go_split_ands;go_simp<;>with_reducible rfl) hHeld0 ?_
  try simp only [aS,aN,aT,a0,a1]
  refine rd1 (i:=9) (by kernel_rfl) rfl fun K hK=>?_
  go_simp
  go_at_call 117
  refine (read_no (HCB.out _ HB.out.drew) n ib HN.out.1 HN.out.2.1 HN.out.2.2 HV.out).mono ?_
  rintro e w1 ⟨rfl,b1⟩
  exact ⟨rfl,did_fin (s:=0) (hs_over HS.out) rfl (HH.out.bl (HB.out.drew.trans b1)).less.rs⟩
end
end Go.Proofs.Ytgiiapenmjollaa
