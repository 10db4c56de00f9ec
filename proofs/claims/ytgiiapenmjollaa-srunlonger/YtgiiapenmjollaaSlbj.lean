import Derived.Test.YtgiiapenmjollaaSlbh
import Derived.Test.YtgiiapenmjollaaSlbi
namespace Go.Proofs.Ytgiiapenmjollaa
set_option linter.all false
set_option maxHeartbeats 40000000
open Go.RowKit
section
open Go.Maps (Keyed has)
set_option maxRecDepth 100000 in
theorem do_ret_no (X:Nat→Prop) (wx w0:World) (g:Mg) (h:Hp) (qs:List Nat) (a:Mc) (c:Cal) (w:World) (H:RX 1 X wx w0 g w h qs a c) (op ia ib ic ii:Int) (args:List Int) (cb co:Nat) (Q:Option Addr) (q n:Nat) (A:AtI w a c ⟨op,ia,ib,ic,ii,args⟩ cb co Q q n) (hop:op=20) (hres:(∀X wx w,RX 1 X wx w0 g w h qs a c→Calls Try.prog 93 #[.pointer (some ⟨a.q,0,none⟩)] w fun e w'=>e=stopE 6 0 0∧RS 1 X wx w0 g w' h qs a c)) :
  Calls Try.prog 66 #[.pointer (some ⟨a.q,0,none⟩)] w fun e w'=>e=stopE 6 0 0∧RS 1 X wx w0 g w' h qs a c:=by
 have HRES:=hid hres
 have HH:=hid H
 have HOP:=hid hop
 obtain ⟨c10,fz,c8,hq,hcl,hlt,HAP,hn0,hn1,hd0,HT8,fzn,fzm⟩:=dpm H A
 have e1:(op==11)=false:=by simp [hop]
 have e2:(op==12)=false:=by simp [hop]
 have e3:(op==13)=false:=by simp [hop]
 have e4:(op==19)=false:=by simp [hop]
 have e5:(op==20)=true:=by simp [hop]
 clear H A hop hres
 go_enter Try.func66,Try.ntmps66
 go_wp2
 go_quiet (fail)
 go_wp2
 refine wp_region_held_drew (S:=fun w'=>w'.cell? ⟨a.q,8,none⟩=some (.slice (some ⟨cb,co,none⟩) c.m.code.length a.c)∧w'.cell? ⟨a.q,10,none⟩=some (.int .i64 (n:Int))∧w'.cell? ⟨cb,co+n*6,none⟩=some (.int .i64 op)∧w'.cell? ⟨cb,co+n*6+1,none⟩=some (.int .i64 ia)∧w'.cell? ⟨cb,co+n*6+2,none⟩=some (.int .i64 ib)∧w'.cell? ⟨cb,co+n*6+3,none⟩=some (.int .i64 ic)∧w'.cell? ⟨cb,co+n*6+4,none⟩=some (.int .i64 ii)∧w'.cell? ⟨cb,co+n*6+5,none⟩=some (.slice Q args.length q)) (by kernel_rfl) ?_ (fun hHeld0=>?_)
 ·exact HT8.out _ (bl_drewN (Bl.refl w) _).drew
 refine tk (i:=0) (d:=some 15) rfl rfl (by kernel_rfl) (fun _ _ _ h=>h) (by rfl) (by intro _ h;(try dsimp only at h);go_split_ands;go_simp<;>with_reducible rfl) hHeld0 ?_
 try simp only [aS,aN,aT,a0,a1]
 refine tk (i:=1) (d:=some 16) rfl rfl (by kernel_rfl) (fun _ _ _ h=>h) (by rfl) (by intro _ h;(try dsimp only at h);go_split_ands;go_simp<;>with_reducible rfl) hHeld0 ?_
 try simp only [aS,aN,aT,a0,a1]
 refine tk (i:=2) (d:=some 17) rfl rfl (by kernel_rfl) (fun _ _ _ h=>h) (by rfl) (by intro _ h;(try dsimp only at h);go_split_ands;go_simp<;>with_reducible rfl) hHeld0 ?_
 try simp only [aS,aN,aT,a0,a1]
 refine tk (i:=3) (d:=some 18) rfl rfl (by kernel_rfl) (fun _ _ _ h=>h) (by rfl) (by intro _ h;(try dsimp only at h);go_split_ands;go_simp<;>with_reducible rfl) hHeld0 ?_
 try simp only [aS,aN,aT,a0,a1]
 refine tk (i:=4) (d:=some 19) rfl rfl (by kernel_rfl) (fun _ _ _ h=>h) (by rfl) (by intro _ h;(try dsimp only at h);go_split_ands;go_simp<;>with_reducible rfl) hHeld0 ?_
 try simp only [aS,aN,aT,a0,a1]
 refine tk (i:=5) (d:=some 20) rfl rfl (by kernel_rfl) (fun _ _ _ h=>h) (by rfl) (by intro _ h;(try dsimp only at h);go_split_ands;go_simp<;>with_reducible rfl) hHeld0 ?_
 try simp only [aS,aN,aT,a0,a1]
 refine tk (i:=6) (d:=some 21) rfl rfl (by kernel_rfl) (fun _ _ _ h=>h) (by rfl) (by intro _ h;(try dsimp only at h);go_split_ands;go_simp<;>with_reducible rfl) hHeld0 ?_
 try simp only [aS,aN,aT,a0,a1]
 refine tk (i:=7) (d:=some 22) rfl rfl (by kernel_rfl) (fun _ _ _ h=>h) (by rfl) (by intro _ h;(try dsimp only at h);go_split_ands;go_simp<;>with_reducible rfl) hHeld0 ?_
 try simp only [aS,aN,aT,a0,a1]
 refine tk (i:=8) (d:=some 23) rfl rfl (by kernel_rfl) (fun _ _ _ h=>h) (by rfl) (by intro _ h;(try dsimp only at h);go_split_ands;go_simp<;>with_reducible rfl) hHeld0 ?_
 try simp only [aS,aN,aT,a0,a1]
 refine tk (i:=9) (d:=some 24) rfl rfl (by kernel_rfl) (fun _ _ _ h=>h) (by rfl) (by intro _ h;(try dsimp only at h);go_split_ands;go_simp<;>with_reducible rfl) hHeld0 ?_
 try simp only [aS,aN,aT,a0,a1]
 refine tk (i:=10) (d:=some 25) rfl rfl (by kernel_rfl) (fun _ _ _ h=>h) (by rfl) (by intro _ h;(try dsimp only at h);go_split_ands;go_simp<;>with_reducible rfl) hHeld0 ?_
 try simp only [aS,aN,aT,a0,a1]
 refine rd1 (i:=11) (by kernel_rfl) rfl fun K hK=>?_
 go_wp2_with fail
 refine hK.out _ _ (HT8.out _ ((bl_drewN (Bl.refl w) _).alloc _)) (fun hHeld1=>?_)
 try simp only [aS,aN,aT,a0,a1]
 refine rd1 (i:=12) (by kernel_rfl) rfl fun K hK=>?_
 obtain ⟨B,hBB⟩:∃B,B=w.heap.size:=⟨_,rfl⟩
 obtain ⟨hVb,v0,v1,v2,v3,v4,v5,fzV,qB,hB⟩:=insN w (nq+1) B hBB
 simp only [←hBB]
 clear hHeld1 hBB
 generalize (w.drewN (nq+1)).alloc (.cells #[.int .i64 0,.int .i64 0,.int .i64 0,.int .i64 0,.int .i64 0,.slice none 0 0] 51)=V at *
 go_wp2_with fail
 obtain ⟨hV6,ZZ,q6⟩:=insS hVb hB v0 v1 v2 v3 v4 v5 fzV qB (.int .i64 op) (.int .i64 ia) (.int .i64 ib) (.int .i64 ic) (.int .i64 ii) (.slice Q args.length q)
 generalize (((((V.setCell ⟨B,0,none⟩ (.int .i64 op)).setCell ⟨B,1,none⟩ (.int .i64 ia)).setCell ⟨B,2,none⟩ (.int .i64 ib)).setCell ⟨B,3,none⟩ (.int .i64 ic)).setCell ⟨B,4,none⟩ (.int .i64 ii)).setCell ⟨B,5,none⟩ (.slice Q args.length q)=V6 at *
 refine hK.out _ _ (HT8.out _ hV6.out) (fun hHeld2=>?_)
 clear v0 v1 v2 v3 v4 v5 fzV hVb qB V
 obtain ⟨z0,z1,z2,z3,z4,z5,fz6⟩:=ZZ.out
 try simp only [aS,aN,aT,a0,a1]
 refine wpAnyH_done (by kernel_rfl) ?_ _
 go_wp2
 refine wp_region_held_drew (S:=fun w'=>w'.cell? ⟨a.q,1,none⟩=some (.pointer (some ⟨g.r,0,none⟩))) (by kernel_rfl) ?_ (fun hHeld0=>?_)
 ·exact (HH.out.bl hV6.out).y.c1
 refine tk (i:=0) (d:=some 91) rfl rfl (by kernel_rfl) (fun _ _ _ h=>h) (by rfl) (by intro _ h;(try dsimp only at h);go_split_ands;go_simp<;>with_reducible rfl) hHeld0 ?_
 try simp only [aS,aN,aT,a0,a1]
 refine tk (i:=1) (d:=some 92) rfl rfl (by kernel_rfl) (fun _ _ _ h=>h) (by rfl) (by intro _ h;(try dsimp only at h);go_split_ands;go_simp<;>with_reducible rfl) hHeld0 ?_
 try simp only [aS,aN,aT,a0,a1]
 refine tk (i:=2) (d:=some 93) rfl rfl (by kernel_rfl) (fun _ _ _ h=>h) (by rfl) (by intro _ h;(try dsimp only at h);go_split_ands;go_simp<;>with_reducible rfl) hHeld0 ?_
 try simp only [aS,aN,aT,a0,a1]
 refine tk (i:=3) (d:=some 94) rfl rfl (by kernel_rfl) (fun _ _ _ h=>h) (by rfl) (by intro _ h;(try dsimp only at h);go_split_ands;go_simp<;>with_reducible rfl) hHeld0 ?_
 try simp only [aS,aN,aT,a0,a1]
 refine tk (i:=4) (d:=some 95) rfl rfl (by kernel_rfl) (fun _ _ _ h=>h) (by rfl) (by intro _ h;(try dsimp only at h);go_split_ands;go_simp<;>with_reducible rfl) hHeld0 ?_
 try simp only [aS,aN,aT,a0,a1]
 refine rd1 (i:=5) (by kernel_rfl) rfl fun K hK=>?_
 go_simp
 go_at_call 93
 refine (HH.out.y.useN hV6.out.drew HRES.out).mono ?_
 rintro e w1 ⟨rfl,H1⟩
 exact ⟨rfl,rfl,H1⟩
set_option maxRecDepth 100000 in
theorem do_ret_go (X:Nat→Prop) (wx w0:World) (g:Mg) (h:Hp) (qs:List Nat) (a:Mc) (c:Cal) (w:World) (H:RX 1 X wx w0 g w h qs a c) (op ia ib ic ii:Int) (args:List Int) (cb co:Nat) (Q:Option Addr) (q n:Nat) (A:AtI w a c ⟨op,ia,ib,ic,ii,args⟩ cb co Q q n) (hop:op=20) (v:Va) (c':Cal) (Q':World→Prop) (hres:(∀X wx w,RX 1 X wx w0 g w h qs a c→Calls Try.prog 93 #[.pointer (some ⟨a.q,0,none⟩)] w fun e w'=>e=.returned (mvV v)∧RX 1 X wx w0 g w' h qs a c'))
  (hret:∀w,RX 1 X wx w0 g w h qs a c'→Calls Try.prog 92 #[.pointer (some ⟨g.r,0,none⟩),mvV v] w fun e w'=>e=.returned (.tuple #[])∧Q' w'∧w'.heap[a.q]?=w.heap[a.q]?) :
  Calls Try.prog 66 #[.pointer (some ⟨a.q,0,none⟩)] w fun e w'=>e=.returned (.tuple #[])∧Q' w':=by
 have HRES:=hid hres
 have HRET:=hid hret
 have HH:=hid H
 have HOP:=hid hop
 obtain ⟨c10,fz,c8,hq,hcl,hlt,HAP,hn0,hn1,hd0,HT8,fzn,fzm⟩:=dpm H A
 have e1:(op==11)=false:=by simp [hop]
 have e2:(op==12)=false:=by simp [hop]
 have e3:(op==13)=false:=by simp [hop]
 have e4:(op==19)=false:=by simp [hop]
 have e5:(op==20)=true:=by simp [hop]
 clear H A hop hres hret
 go_enter Try.func66,Try.ntmps66
 go_wp2
 go_quiet (fail)
 go_wp2
 refine wp_region_held_drew (S:=fun w'=>w'.cell? ⟨a.q,8,none⟩=some (.slice (some ⟨cb,co,none⟩) c.m.code.length a.c)∧w'.cell? ⟨a.q,10,none⟩=some (.int .i64 (n:Int))∧w'.cell? ⟨cb,co+n*6,none⟩=some (.int .i64 op)∧w'.cell? ⟨cb,co+n*6+1,none⟩=some (.int .i64 ia)∧w'.cell? ⟨cb,co+n*6+2,none⟩=some (.int .i64 ib)∧w'.cell? ⟨cb,co+n*6+3,none⟩=some (.int .i64 ic)∧w'.cell? ⟨cb,co+n*6+4,none⟩=some (.int .i64 ii)∧w'.cell? ⟨cb,co+n*6+5,none⟩=some (.slice Q args.length q)) (by kernel_rfl) ?_ (fun hHeld0=>?_)
 ·exact HT8.out _ (bl_drewN (Bl.refl w) _).drew
 refine tk (i:=0) (d:=some 15) rfl rfl (by kernel_rfl) (fun _ _ _ h=>h) (by rfl) (by intro _ h;(try dsimp only at h);go_split_ands;go_simp<;>with_reducible rfl) hHeld0 ?_
 try simp only [aS,aN,aT,a0,a1]
 refine tk (i:=1) (d:=some 16) rfl rfl (by kernel_rfl) (fun _ _ _ h=>h) (by rfl) (by intro _ h;(try dsimp only at h);go_split_ands;go_simp<;>with_reducible rfl) hHeld0 ?_
 try simp only [aS,aN,aT,a0,a1]
 refine tk (i:=2) (d:=some 17) rfl rfl (by kernel_rfl) (fun _ _ _ h=>h) (by rfl) (by intro _ h;(try dsimp only at h);go_split_ands;go_simp<;>with_reducible rfl) hHeld0 ?_
 try simp only [aS,aN,aT,a0,a1]
 refine tk (i:=3) (d:=some 18) rfl rfl (by kernel_rfl) (fun _ _ _ h=>h) (by rfl) (by intro _ h;(try dsimp only at h);go_split_ands;go_simp<;>with_reducible rfl) hHeld0 ?_
 try simp only [aS,aN,aT,a0,a1]
 refine tk (i:=4) (d:=some 19) rfl rfl (by kernel_rfl) (fun _ _ _ h=>h) (by rfl) (by intro _ h;(try dsimp only at h);go_split_ands;go_simp<;>with_reducible rfl) hHeld0 ?_
 try simp only [aS,aN,aT,a0,a1]
 refine tk (i:=5) (d:=some 20) rfl rfl (by kernel_rfl) (fun _ _ _ h=>h) (by rfl) (by intro _ h;(try dsimp only at h);go_split_ands;go_simp<;>with_reducible rfl) hHeld0 ?_
 try simp only [aS,aN,aT,a0,a1]
 refine tk (i:=6) (d:=some 21) rfl rfl (by kernel_rfl) (fun _ _ _ h=>h) (by rfl) (by intro _ h;(try dsimp only at h);go_split_ands;go_simp<;>with_reducible rfl) hHeld0 ?_
 try simp only [aS,aN,aT,a0,a1]
 refine tk (i:=7) (d:=some 22) rfl rfl (by kernel_rfl) (fun _ _ _ h=>h) (by rfl) (by intro _ h;(try dsimp only at h);go_split_ands;go_simp<;>with_reducible rfl) hHeld0 ?_
 try simp only [aS,aN,aT,a0,a1]
 refine tk (i:=8) (d:=some 23) rfl rfl (by kernel_rfl) (fun _ _ _ h=>h) (by rfl) (by intro _ h;(try dsimp only at h);go_split_ands;go_simp<;>with_reducible rfl) hHeld0 ?_
 try simp only [aS,aN,aT,a0,a1]
 refine tk (i:=9) (d:=some 24) rfl rfl (by kernel_rfl) (fun _ _ _ h=>h) (by rfl) (by intro _ h;(try dsimp only at h);go_split_ands;go_simp<;>with_reducible rfl) hHeld0 ?_
 try simp only [aS,aN,aT,a0,a1]
 refine tk (i:=10) (d:=some 25) rfl rfl (by kernel_rfl) (fun _ _ _ h=>h) (by rfl) (by intro _ h;(try dsimp only at h);go_split_ands;go_simp<;>with_reducible rfl) hHeld0 ?_
 try simp only [aS,aN,aT,a0,a1]
 refine rd1 (i:=11) (by kernel_rfl) rfl fun K hK=>?_
 go_wp2_with fail
 refine hK.out _ _ (HT8.out _ ((bl_drewN (Bl.refl w) _).alloc _)) (fun hHeld1=>?_)
 try simp only [aS,aN,aT,a0,a1]
 refine rd1 (i:=12) (by kernel_rfl) rfl fun K hK=>?_
 obtain ⟨B,hBB⟩:∃B,B=w.heap.size:=⟨_,rfl⟩
 obtain ⟨hVb,v0,v1,v2,v3,v4,v5,fzV,qB,hB⟩:=insN w (nq+1) B hBB
 simp only [←hBB]
 clear hHeld1 hBB
 generalize (w.drewN (nq+1)).alloc (.cells #[.int .i64 0,.int .i64 0,.int .i64 0,.int .i64 0,.int .i64 0,.slice none 0 0] 51)=V at *
 go_wp2_with fail
 obtain ⟨hV6,ZZ,q6⟩:=insS hVb hB v0 v1 v2 v3 v4 v5 fzV qB (.int .i64 op) (.int .i64 ia) (.int .i64 ib) (.int .i64 ic) (.int .i64 ii) (.slice Q args.length q)
 generalize (((((V.setCell ⟨B,0,none⟩ (.int .i64 op)).setCell ⟨B,1,none⟩ (.int .i64 ia)).setCell ⟨B,2,none⟩ (.int .i64 ib)).setCell ⟨B,3,none⟩ (.int .i64 ic)).setCell ⟨B,4,none⟩ (.int .i64 ii)).setCell ⟨B,5,none⟩ (.slice Q args.length q)=V6 at *
 refine hK.out _ _ (HT8.out _ hV6.out) (fun hHeld2=>?_)
 clear v0 v1 v2 v3 v4 v5 fzV hVb qB V
 obtain ⟨z0,z1,z2,z3,z4,z5,fz6⟩:=ZZ.out
 try simp only [aS,aN,aT,a0,a1]
 refine wpAnyH_done (by kernel_rfl) ?_ _
 go_wp2
 refine wp_region_held_drew (S:=fun w'=>w'.cell? ⟨a.q,1,none⟩=some (.pointer (some ⟨g.r,0,none⟩))) (by kernel_rfl) ?_ (fun hHeld0=>?_)
 ·exact (HH.out.bl hV6.out).y.c1
 refine tk (i:=0) (d:=some 91) rfl rfl (by kernel_rfl) (fun _ _ _ h=>h) (by rfl) (by intro _ h;(try dsimp only at h);go_split_ands;go_simp<;>with_reducible rfl) hHeld0 ?_
 try simp only [aS,aN,aT,a0,a1]
 refine tk (i:=1) (d:=some 92) rfl rfl (by kernel_rfl) (fun _ _ _ h=>h) (by rfl) (by intro _ h;(try dsimp only at h);go_split_ands;go_simp<;>with_reducible rfl) hHeld0 ?_
 try simp only [aS,aN,aT,a0,a1]
 refine tk (i:=2) (d:=some 93) rfl rfl (by kernel_rfl) (fun _ _ _ h=>h) (by rfl) (by intro _ h;(try dsimp only at h);go_split_ands;go_simp<;>with_reducible rfl) hHeld0 ?_
 try simp only [aS,aN,aT,a0,a1]
 refine tk (i:=3) (d:=some 94) rfl rfl (by kernel_rfl) (fun _ _ _ h=>h) (by rfl) (by intro _ h;(try dsimp only at h);go_split_ands;go_simp<;>with_reducible rfl) hHeld0 ?_
 try simp only [aS,aN,aT,a0,a1]
 refine tk (i:=4) (d:=some 95) rfl rfl (by kernel_rfl) (fun _ _ _ h=>h) (by rfl) (by intro _ h;(try dsimp only at h);go_split_ands;go_simp<;>with_reducible rfl) hHeld0 ?_
 try simp only [aS,aN,aT,a0,a1]
 refine rd1 (i:=5) (by kernel_rfl) rfl fun K hK=>?_
 go_simp
 go_at_call 93
 refine (HH.out.y.useY hV6.out.drew HRES.out).mono ?_
 rintro e w1 ⟨rfl,H1,K1⟩
 have d1:=hid H1.c1
 have HX1:=hid H1.x
 clear H1 K1
 go_wp2_with fail
 refine hK.out _ _ (d1.out) (fun hHeld1=>?_)
 try simp only [aS,aN,aT,a0,a1]
 refine rd1 (i:=6) (by kernel_rfl) rfl fun K hK=>?_
 go_simp
 go_at_call 92
 refine (HRET.out _ HX1.out).mono ?_
 rintro e w2 ⟨rfl,hq2,hk2⟩
 have f1:Hid (w2.cell? ⟨a.q,1,none⟩=some (.pointer (some ⟨g.r,0,none⟩))):=Eq.trans (by unfold World.cell?;rw [hk2]) d1.out
 replace hq2:=hid hq2
 clear hk2
 go_wp2_with fail
 refine hK.out _ _ (f1.out) (fun hHeld2=>?_)
 try simp only [aS,aN,aT,a0,a1]
 refine wpAnyH_done (by kernel_rfl) ?_ _
 go_wp2
 go_end0
 exact ⟨rfl,hq2.out⟩
set_option maxRecDepth 100000 in
theorem do_ret_stop (X:Nat→Prop) (wx w0:World) (g:Mg) (h:Hp) (qs:List Nat) (a:Mc) (c:Cal) (w:World) (H:RX 1 X wx w0 g w h qs a c) (op ia ib ic ii:Int) (args:List Int) (cb co:Nat) (Q:Option Addr) (q n:Nat) (A:AtI w a c ⟨op,ia,ib,ic,ii,args⟩ cb co Q q n) (hop:op=20) (v:Va) (c':Cal) (Q':World→Prop) (sk sn sm:Int) (hres:(∀X wx w,RX 1 X wx w0 g w h qs a c→Calls Try.prog 93 #[.pointer (some ⟨a.q,0,none⟩)] w fun e w'=>e=.returned (mvV v)∧RX 1 X wx w0 g w' h qs a c'))
  (hret:∀w,RX 1 X wx w0 g w h qs a c'→Calls Try.prog 92 #[.pointer (some ⟨g.r,0,none⟩),mvV v] w fun e w'=>e=stopE sk sn sm∧Q' w') :
  Calls Try.prog 66 #[.pointer (some ⟨a.q,0,none⟩)] w fun e w'=>e=stopE sk sn sm∧Q' w':=by
 have HRES:=hid hres
 have HRET:=hid hret
 have HH:=hid H
 have HOP:=hid hop
 obtain ⟨c10,fz,c8,hq,hcl,hlt,HAP,hn0,hn1,hd0,HT8,fzn,fzm⟩:=dpm H A
 have e1:(op==11)=false:=by simp [hop]
 have e2:(op==12)=false:=by simp [hop]
 have e3:(op==13)=false:=by simp [hop]
 have e4:(op==19)=false:=by simp [hop]
 have e5:(op==20)=true:=by simp [hop]
 clear H A hop hres hret
 go_enter Try.func66,Try.ntmps66
 go_wp2
 go_quiet (fail)
 go_wp2
 refine wp_region_held_drew (S:=fun w'=>w'.cell? ⟨a.q,8,none⟩=some (.slice (some ⟨cb,co,none⟩) c.m.code.length a.c)∧w'.cell? ⟨a.q,10,none⟩=some (.int .i64 (n:Int))∧w'.cell? ⟨cb,co+n*6,none⟩=some (.int .i64 op)∧w'.cell? ⟨cb,co+n*6+1,none⟩=some (.int .i64 ia)∧w'.cell? ⟨cb,co+n*6+2,none⟩=some (.int .i64 ib)∧w'.cell? ⟨cb,co+n*6+3,none⟩=some (.int .i64 ic)∧w'.cell? ⟨cb,co+n*6+4,none⟩=some (.int .i64 ii)∧w'.cell? ⟨cb,co+n*6+5,none⟩=some (.slice Q args.length q)) (by kernel_rfl) ?_ (fun hHeld0=>?_)
 ·exact HT8.out _ (bl_drewN (Bl.refl w) _).drew
 refine tk (i:=0) (d:=some 15) rfl rfl (by kernel_rfl) (fun _ _ _ h=>h) (by rfl) (by intro _ h;(try dsimp only at h);go_split_ands;go_simp<;>with_reducible rfl) hHeld0 ?_
 try simp only [aS,aN,aT,a0,a1]
 refine tk (i:=1) (d:=some 16) rfl rfl (by kernel_rfl) (fun _ _ _ h=>h) (by rfl) (by intro _ h;(try dsimp only at h);go_split_ands;go_simp<;>with_reducible rfl) hHeld0 ?_
 try simp only [aS,aN,aT,a0,a1]
 refine tk (i:=2) (d:=some 17) rfl rfl (by kernel_rfl) (fun _ _ _ h=>h) (by rfl) (by intro _ h;(try dsimp only at h);go_split_ands;go_simp<;>with_reducible rfl) hHeld0 ?_
 try simp only [aS,aN,aT,a0,a1]
 refine tk (i:=3) (d:=some 18) rfl rfl (by kernel_rfl) (fun _ _ _ h=>h) (by rfl) (by intro _ h;(try dsimp only at h);go_split_ands;go_simp<;>with_reducible rfl) hHeld0 ?_
 try simp only [aS,aN,aT,a0,a1]
 refine tk (i:=4) (d:=some 19) rfl rfl (by kernel_rfl) (fun _ _ _ h=>h) (by rfl) (by intro _ h;(try dsimp only at h);go_split_ands;go_simp<;>with_reducible rfl) hHeld0 ?_
 try simp only [aS,aN,aT,a0,a1]
 refine tk (i:=5) (d:=some 20) rfl rfl (by kernel_rfl) (fun _ _ _ h=>h) (by rfl) (by intro _ h;(try dsimp only at h);go_split_ands;go_simp<;>with_reducible rfl) hHeld0 ?_
 try simp only [aS,aN,aT,a0,a1]
 refine tk (i:=6) (d:=some 21) rfl rfl (by kernel_rfl) (fun _ _ _ h=>h) (by rfl) (by intro _ h;(try dsimp only at h);go_split_ands;go_simp<;>with_reducible rfl) hHeld0 ?_
 try simp only [aS,aN,aT,a0,a1]
 refine tk (i:=7) (d:=some 22) rfl rfl (by kernel_rfl) (fun _ _ _ h=>h) (by rfl) (by intro _ h;(try dsimp only at h);go_split_ands;go_simp<;>with_reducible rfl) hHeld0 ?_
 try simp only [aS,aN,aT,a0,a1]
 refine tk (i:=8) (d:=some 23) rfl rfl (by kernel_rfl) (fun _ _ _ h=>h) (by rfl) (by intro _ h;(try dsimp only at h);go_split_ands;go_simp<;>with_reducible rfl) hHeld0 ?_
 try simp only [aS,aN,aT,a0,a1]
 refine tk (i:=9) (d:=some 24) rfl rfl (by kernel_rfl) (fun _ _ _ h=>h) (by rfl) (by intro _ h;(try dsimp only at h);go_split_ands;go_simp<;>with_reducible rfl) hHeld0 ?_
 try simp only [aS,aN,aT,a0,a1]
 refine tk (i:=10) (d:=some 25) rfl rfl (by kernel_rfl) (fun _ _ _ h=>h) (by rfl) (by intro _ h;(try dsimp only at h);go_split_ands;go_simp<;>with_reducible rfl) hHeld0 ?_
 try simp only [aS,aN,aT,a0,a1]
 refine rd1 (i:=11) (by kernel_rfl) rfl fun K hK=>?_
 go_wp2_with fail
 refine hK.out _ _ (HT8.out _ ((bl_drewN (Bl.refl w) _).alloc _)) (fun hHeld1=>?_)
 try simp only [aS,aN,aT,a0,a1]
 refine rd1 (i:=12) (by kernel_rfl) rfl fun K hK=>?_
 obtain ⟨B,hBB⟩:∃B,B=w.heap.size:=⟨_,rfl⟩
 obtain ⟨hVb,v0,v1,v2,v3,v4,v5,fzV,qB,hB⟩:=insN w (nq+1) B hBB
 simp only [←hBB]
 clear hHeld1 hBB
 generalize (w.drewN (nq+1)).alloc (.cells #[.int .i64 0,.int .i64 0,.int .i64 0,.int .i64 0,.int .i64 0,.slice none 0 0] 51)=V at *
 go_wp2_with fail
 obtain ⟨hV6,ZZ,q6⟩:=insS hVb hB v0 v1 v2 v3 v4 v5 fzV qB (.int .i64 op) (.int .i64 ia) (.int .i64 ib) (.int .i64 ic) (.int .i64 ii) (.slice Q args.length q)
 generalize (((((V.setCell ⟨B,0,none⟩ (.int .i64 op)).setCell ⟨B,1,none⟩ (.int .i64 ia)).setCell ⟨B,2,none⟩ (.int .i64 ib)).setCell ⟨B,3,none⟩ (.int .i64 ic)).setCell ⟨B,4,none⟩ (.int .i64 ii)).setCell ⟨B,5,none⟩ (.slice Q args.length q)=V6 at *
 refine hK.out _ _ (HT8.out _ hV6.out) (fun hHeld2=>?_)
 clear v0 v1 v2 v3 v4 v5 fzV hVb qB V
 obtain ⟨z0,z1,z2,z3,z4,z5,fz6⟩:=ZZ.out
 try simp only [aS,aN,aT,a0,a1]
 refine wpAnyH_done (by kernel_rfl) ?_ _
 go_wp2
 refine wp_region_held_drew (S:=fun w'=>w'.cell? ⟨a.q,1,none⟩=some (.pointer (some ⟨g.r,0,none⟩))) (by kernel_rfl) ?_ (fun hHeld0=>?_)
 ·exact (HH.out.bl hV6.out).y.c1
 refine tk (i:=0) (d:=some 91) rfl rfl (by kernel_rfl) (fun _ _ _ h=>h) (by rfl) (by intro _ h;(try dsimp only at h);go_split_ands;go_simp<;>with_reducible rfl) hHeld0 ?_
 try simp only [aS,aN,aT,a0,a1]
 refine tk (i:=1) (d:=some 92) rfl rfl (by kernel_rfl) (fun _ _ _ h=>h) (by rfl) (by intro _ h;(try dsimp only at h);go_split_ands;go_simp<;>with_reducible rfl) hHeld0 ?_
 try simp only [aS,aN,aT,a0,a1]
 refine tk (i:=2) (d:=some 93) rfl rfl (by kernel_rfl) (fun _ _ _ h=>h) (by rfl) (by intro _ h;(try dsimp only at h);go_split_ands;go_simp<;>with_reducible rfl) hHeld0 ?_
 try simp only [aS,aN,aT,a0,a1]
 refine tk (i:=3) (d:=some 94) rfl rfl (by kernel_rfl) (fun _ _ _ h=>h) (by rfl) (by intro _ h;(try dsimp only at h);go_split_ands;go_simp<;>with_reducible rfl) hHeld0 ?_
 try simp only [aS,aN,aT,a0,a1]
 refine tk (i:=4) (d:=some 95) rfl rfl (by kernel_rfl) (fun _ _ _ h=>h) (by rfl) (by intro _ h;(try dsimp only at h);go_split_ands;go_simp<;>with_reducible rfl) hHeld0 ?_
 try simp only [aS,aN,aT,a0,a1]
 refine rd1 (i:=5) (by kernel_rfl) rfl fun K hK=>?_
 go_simp
 go_at_call 93
 refine (HH.out.y.useY hV6.out.drew HRES.out).mono ?_
 rintro e w1 ⟨rfl,H1,K1⟩
 have d1:=hid H1.c1
 have HX1:=hid H1.x
 clear H1 K1
 go_wp2_with fail
 refine hK.out _ _ (d1.out) (fun hHeld1=>?_)
 try simp only [aS,aN,aT,a0,a1]
 refine rd1 (i:=6) (by kernel_rfl) rfl fun K hK=>?_
 go_simp
 go_at_call 92
 refine (HRET.out _ HX1.out).mono ?_
 rintro e w2 ⟨rfl,hq2⟩
 exact ⟨rfl,rfl,hq2⟩
end
abbrev doC (w:World) (q:Nat) (Q:Ending→World→Prop):Prop:=Calls Try.prog 66 #[.pointer (some ⟨q,0,none⟩)] w Q
def DrA (w0:World) (g:Mg) (h:Hp) (k:Kl) (L:List Kl) (o:Mo):Prop :=
 o.fin=false∧∀Z wx w,RR 1 Z wx w0 g w h (k::L)→doC w k.a.q fun e w'=>e=.returned (.tuple #[])∧∃L':List Kl,L'.map (·.c)=o.cs∧RR 0 Z wx w0 g w' o.h L'
def DrB (w0:World) (g:Mg) (h:Hp) (k:Kl) (L:List Kl) (o:Mo):Prop :=
 (o=endM o.how o.v o.h∧o.how≠2)∧∀Z wx w,RR 1 Z wx w0 g w h (k::L)→doC w k.a.q fun e w'=>e=stopE o.how (im o.v).kind (im o.v).n∧∃L':List Kl,True∧RR 0 Z wx w0 g w' o.h L'
def DrC (w0:World) (g:Mg) (h:Hp) (k:Kl) (L:List Kl) (o:Mo):Prop :=
 ∃h1 cs1,o=unwM h1 cs1∧0≤h1.thrown∧h1.over=false∧Gh 0 h1∧Le h h1∧IC h1 cs1∧h1.calls=(cs1.length:Int)
  ∧ ∀Z wx w,RR 1 Z wx w0 g w h (k::L)→doC w k.a.q fun e w'=>e=stopE 2 3 (h1.thrown+1)∧∃L1:List Kl,(unwM h1 (L1.map (·.c))=o∧(∀y∈L1,HandOk y.c)∧L1.length≤1000)∧RR 0 Z wx w0 g w' h1 L1
theorem Gc.hands {h:Hp} {c:Cal} (g:Gc h c) (hp:0≤c.pc∧c.pc≤c.m.code.length):HandOk c:=by
 obtain ⟨p1,p2,p3,p4,p5,p6,p7,p8,p9,p10,p11⟩:=smeP g.me
 refine ⟨fun q hq=>?_,hp.1,by omega⟩
 have:=of_decide_eq_true (p10 _ (nth_mem (d:=hd0) hq))
 omega
theorem HandOk.same {c c':Cal} (H:HandOk c) (e1:c'.m=c.m) (e2:c'.pc=c.pc):HandOk c':=by
 unfold HandOk at H ⊢;rw [e1,e2];exact H
theorem doq_rr (w0:World) (g:Mg) (h:Hp) (k:Kl) (L:List Kl) (i:In) (ho:h.over=false) (ht:h.thrown=-1) (hI:IC h (L.map (·.c))) (hcl:h.calls=((k::L).length:Int)) (hp:0≤k.c.pc∧k.c.pc<k.c.m.code.length)
  (K:Kept h k.c (doesP h k.c i))
  (hd:∀X wx w,RX 1 X wx w0 g w h (qsL (k::L)) k.a k.c→doC w k.a.q fun e w'=>DoQ X wx w0 g (qsL (k::L)) k.a k.c (doesP h k.c i) e w') :
  DrA w0 g h k L (didM (doesP h k.c i) (L.map (·.c)))∨DrB w0 g h k L (didM (doesP h k.c i) (L.map (·.c)))∨DrC w0 g h k L (didM (doesP h k.c i) (L.map (·.c))):=by
 have hnt:NoThr (doesP h k.c i).h:=does_noThr (fun o=>by rw [ho] at o;cases o) k.c i
 have hlo:=does_locs ht k.c i
 generalize doesP h k.c i=d at *
 unfold didM
 by_cases hov:d.h.over=true
 ·rw [if_pos hov]
  refine Or.inr (Or.inl ⟨⟨rfl,hnt hov⟩,fun Z wx w H=>(hd _ _ _ H.top).mono ?_⟩)
  intro e w' q
  have hs:d.h.stops=true:=by unfold Hp.stops;rw [hov];rfl
  obtain ⟨c',d1,d2,H'⟩:=q.stop hs
  obtain ⟨vs',l',H2⟩:=H.of H'
  refine ⟨?_,_,trivial,H2⟩
  rw [q.how];unfold DidE;rw [if_pos hov];rfl
 ·rw [if_neg hov]
  have hov':d.h.over=false:=by simpa using hov
  by_cases hth:0≤d.h.thrown
  ·rw [if_pos hth]
   refine Or.inr (Or.inr ⟨d.h,d.c::L.map (·.c),rfl,hth,hov',K.gh,K.le,?_,?_,?_⟩)
   ·intro x hx
    rcases List.mem_cons.1 hx with rfl|hx
    ·exact ⟨K.gc hov',by rw [K.pc];exact hp.1,by rw [K.pc,K.m];exact hp.2⟩
    ·exact hI.le K.le x hx
   ·rw [K.le.calls,hcl];simp
   ·intro Z wx w H
    refine (hd _ _ _ H.top).mono ?_
    intro e w' q
    have hs:d.h.stops=true:=by unfold Hp.stops;rw [decide_eq_true hth];simp
    obtain ⟨c',d1,d2,H'⟩:=q.stop hs
    obtain ⟨vs',l',H2⟩:=H.of H'
    refine ⟨?_,_,⟨?_,?_,?_⟩,H2⟩
    ·rw [q.how];unfold DidE;rw [if_neg hov,if_pos hth]
    ·exact unw_same (d1.trans K.m.symm) (d2.1.trans K.pc.symm) (d2.2.trans (hlo hth).symm)
    ·intro y hy
     rcases List.mem_cons.1 hy with rfl|hy
     ·exact ((K.gc hov').hands (by rw [K.pc,K.m];omega)).same (d1.trans K.m.symm) (d2.1.trans K.pc.symm)
     ·have:=hI y.c (List.mem_map_of_mem hy)
      exact this.1.hands ⟨this.2.1,by omega⟩
    ·have:=K.gh.calls
     rw [K.le.calls,hcl] at this
     simp at this ⊢
     omega
  ·rw [if_neg hth]
   refine Or.inl ⟨rfl,fun Z wx w H=>(hd _ _ _ H.top).mono ?_⟩
   intro e w' q
   have hs:d.h.stops=false:=by unfold Hp.stops;rw [hov',decide_eq_false hth];rfl
   obtain ⟨vs',l',H2⟩:=H.of (q.go hs)
   refine ⟨?_,_,?_,H2⟩
   ·rw [q.how];unfold DidE;rw [if_neg hov,if_neg hth]
   ·rfl
theorem RR.less {Z:Nat→Prop} {wx w0 w:World} {g:Mg} {h:Hp} {L:List Kl} (H:RR 1 Z wx w0 g w h L):RR 0 Z wx w0 g w h L:=by
 obtain ⟨vc,vo,vx,R,hl,z1,z2,K⟩:=H
 exact ⟨vc,vo,vx,R.less,hl,z1,z2,K⟩
theorem end_rr (w0:World) (g:Mg) (h:Hp) (k:Kl) (L:List Kl) (ho:h.over=false) (ht:h.thrown=-1) (gc:Gc h k.c) (hp:¬k.c.pc<k.c.m.code.length):DrB w0 g h k L (endM 6 va0 h):=by
 refine ⟨⟨rfl,(by show (6:Int)≠2;decide)⟩,fun Z wx w H=>?_⟩
 have h7:=(smeP gc.me).2.2.2.2.2.2.1
 refine (do_end _ _ w0 g h _ k.a k.c w H.top (by unfold Hp.stops;rw [ho,ht];rfl) (by omega) (by unfold maxLen;omega)).mono ?_
 rintro e w' ⟨rfl,H'⟩
 obtain ⟨vs',l',H2⟩:=H.of H'
 exact ⟨rfl,_,trivial,H2.less⟩
theorem retv_rr (w0:World) (g:Mg) (h:Hp) (k:Kl) (L:List Kl) (v:Va) (c':Cal) (hop:(nth in0 k.c.m.code k.c.pc.toNat).op=20) (hp:0≤k.c.pc∧k.c.pc<k.c.m.code.length) (hI:IC h (L.map (·.c))) (hlen:L.length≤100) (hv:v=va0∨(1≤v.kind∧v.kind≤3))
  (hres:∀X wx w,RX 1 X wx w0 g w h (qsL (k::L)) k.a k.c→Calls Try.prog 93 #[.pointer (some ⟨k.a.q,0,none⟩)] w fun e w'=>e=.returned (mvV (im v))∧RX 1 X wx w0 g w' h (qsL (k::L)) k.a c') :
  DrA w0 g h k L (backM h.leave v (L.map (·.c)))∨DrB w0 g h k L (backM h.leave v (L.map (·.c))):=by
 have hat:∀{Z wx w},RR 1 Z wx w0 g w h (k::L)→∃op ia ib ic ii args cb co Q q,op=20∧AtI w k.a k.c ⟨op,ia,ib,ic,ii,args⟩ cb co Q q k.c.pc.toNat:=fun {Z wx w} H=>by
  obtain ⟨cb,co,Q,q,A⟩:=H.top.ati hp
  exact ⟨_,_,_,_,_,_,cb,co,Q,q,hop,A⟩
 cases L with
 | nil =>
  refine Or.inr ⟨⟨rfl,(by show (1:Int)≠2;decide)⟩,fun Z wx w H=>?_⟩
  obtain ⟨op,ia,ib,ic,ii,args,cb,co,Q,q,h20,A⟩:=hat H
  refine (do_ret_stop _ _ w0 g h _ k.a k.c w H.top op ia ib ic ii args cb co Q q _ A h20 (im v) c' (fun w'=>RR 1 Z wx w0 g w' h []) 1 (im v).kind (im v).n hres ?_).mono ?_
  ·intro w1 H1
   obtain ⟨vs',l',H2⟩:=H.of H1
   exact return_done 1 Z wx w0 g h _ v w1 H2
  ·rintro e w' ⟨rfl,H'⟩
   exact ⟨rfl,[],trivial,H'.less.leave⟩
 | cons k2 L2 =>
  have h2:=hI k2.c (by simp)
  have hs2:=h2.1.short
  have hl2:L2.length≤100:=by simp at hlen;omega
  have h7:=(smeP h2.1.me).2.2.2.2.2.2.1
  have hpc:0≤k2.c.pc∧k2.c.pc<9223372036854775807:=⟨h2.2.1,by have:=h2.2.2;omega⟩
  have hgo:∀(c2:Cal),(∀X wx w,RX 1 X wx w0 g w h (qsL (k2::L2)) k2.a k2.c→Calls Try.prog 67 #[.pointer (some ⟨k2.a.q,0,none⟩),mvV (im v)] w fun e w'=>e=.returned (.tuple #[])∧RX 1 X wx w0 g w' h (qsL (k2::L2)) k2.a c2)→DrA w0 g h k (k2::L2) (goM h.leave (c2::L2.map (·.c))):=fun c2 hbk=>by
   refine ⟨rfl,fun Z wx w H=>?_⟩
   obtain ⟨op,ia,ib,ic,ii,args,cb,co,Q,q,h20,A⟩:=hat H
   refine (do_ret_go _ _ w0 g h _ k.a k.c w H.top op ia ib ic ii args cb co Q q _ A h20 (im v) c' (fun w'=>∃vs l,RR 1 Z wx w0 g w' h (⟨k2.a,c2,vs,l⟩::L2)) hres ?_).mono ?_
   ·intro w1 H1
    obtain ⟨vs',l',H2⟩:=H.of H1
    refine (return_back 1 Z wx w0 g h _ k2 L2 v w1 H2 hl2 c2 _ (Or.inl rfl) hbk).mono ?_
    rintro e w2 ⟨rfl,hr,hk⟩
    exact ⟨rfl,hr,hk _ (Or.inl rfl)⟩
   ·rintro e w' ⟨rfl,vs',l',H'⟩
    exact ⟨rfl,_,rfl,H'.less.leave⟩
  show DrA w0 g h k (k2::L2) (if v.kind=0 then _ else _)∨DrB w0 g h k (k2::L2) (if v.kind=0 then _ else _)
  by_cases h0:v.kind=0
  ·rw [if_pos h0]
   have hv0:v=va0:=hv.elim id (fun z=>by omega)
   subst hv0
   exact Or.inl (hgo _ (fun X wx w H=>back_void 1 X wx w0 g h _ k2.a k2.c w H hpc))
  ·rw [if_neg h0]
   have hv1:1≤v.kind∧v.kind≤3:=hv.elim (fun z=>by subst z;exact absurd rfl h0) id
   by_cases hz:(sizP (k2.c.stk++[v]):Int)≤k2.c.m.stack
   ·rw [if_pos hz]
    exact Or.inl (hgo _ (fun X wx w H=>back_put 1 X wx w0 g h _ k2.a k2.c v w H hpc hv1 (by omega) hz))
   ·rw [if_neg hz]
    refine Or.inr ⟨⟨rfl,(by show (6:Int)≠2;decide)⟩,fun Z wx w H=>?_⟩
    obtain ⟨op,ia,ib,ic,ii,args,cb,co,Q,q,h20,A⟩:=hat H
    refine (do_ret_stop _ _ w0 g h _ k.a k.c w H.top op ia ib ic ii args cb co Q q _ A h20 (im v) c' (fun w'=>∃vs l,RR 1 Z wx w0 g w' h (⟨k2.a,k2.c.put v,vs,l⟩::L2)) 6 0 0 hres ?_).mono ?_
    ·intro w1 H1
     obtain ⟨vs',l',H2⟩:=H.of H1
     refine (return_back 1 Z wx w0 g h _ k2 L2 v w1 H2 hl2 _ _ (Or.inr rfl) (fun X wx w H=>back_no 1 X wx w0 g h _ k2.a k2.c v w H hv1 (by omega) hz)).mono ?_
     rintro e w2 ⟨rfl,hr,hk⟩
     exact ⟨rfl,hr⟩
    ·rintro e w' ⟨rfl,vs',l',H'⟩
     exact ⟨rfl,_,trivial,H'.less.leave⟩
end Go.Proofs.Ytgiiapenmjollaa
