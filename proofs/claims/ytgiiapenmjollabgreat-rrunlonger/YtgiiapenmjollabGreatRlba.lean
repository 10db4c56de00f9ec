import Derived.Test.YtgiiapenmjollabGreatRlaz
namespace Go.Proofs.YtgiiapenmjollabGreat
set_option linter.all false
set_option maxHeartbeats 40000000
set_option maxRecDepth 100000
open Go.RowKit
section
open Go.Maps (Keyed has)
theorem do_if_no (P:Ending→World→Prop) (X:Nat→Prop) (wx w0:World) (g:Mg) (h:Hp) (qs:List Qb) (a:Mc) (c:Cal) (w:World) (H:RX 1 X wx w0 g w h qs a c) (op ia ib ic ii:Int) (args:List Int) (cb co:Nat) (Q:Option Addr) (q n:Nat) (A:AtI w a c ⟨op,ia,ib,ic,ii,args⟩ cb co Q q n) (hop:op=11) (hr:∀w',Bl w w'→Calls Tryz.prog 137 #[.pointer (some ⟨a.q,0,none⟩),.int .i64 ic,.int .i64 1] w' fun e w2=>e=stopE 6 0 0∧Bl w' w2) (hP:∀w2,Bl w w2→P (stopE 6 0 0) w2) :
  Calls Tryz.prog 67 #[.pointer (some ⟨a.q,0,none⟩)] w P:=by
 have HH:=hid H
 obtain ⟨c11,fz,c8,hq,hcl,hlt,HAP,hn0,hn1,hd0,HT8,fzn,fzm⟩:=dpm H A
 have e10:(op==10)=false:=by simp;omega
 have e11:(op==11)=true:=by simp [hop]
 have HR:=hid hr
 have HP:=hid hP
 clear H A hop hr hP
 go_enter Tryz.func67,Tryz.ntmps67
 go_wp2
 go_quiet (fail)
 go_wp2
 refine wp_region_held_drew (S:=fun w'=>w'.cell? ⟨a.q,8,none⟩=some (.slice (some ⟨cb,co,none⟩) c.m.code.length a.c)∧w'.cell? ⟨a.q,11,none⟩=some (.int .i64 (n:Int))∧w'.cell? ⟨cb,co+n*6,none⟩=some (.int .i64 op)∧w'.cell? ⟨cb,co+n*6+1,none⟩=some (.int .i64 ia)∧w'.cell? ⟨cb,co+n*6+2,none⟩=some (.int .i64 ib)∧w'.cell? ⟨cb,co+n*6+3,none⟩=some (.int .i64 ic)∧w'.cell? ⟨cb,co+n*6+4,none⟩=some (.int .i64 ii)∧w'.cell? ⟨cb,co+n*6+5,none⟩=some (.slice Q args.length q)) (by kernel_rfl) ?_ (fun hHeld0=>?_)
 ·exact HT8.out _ (bl_drewN (Bl.refl w) _).drew
 refine tk (i:=0) (d:=some 16) rfl rfl (by kernel_rfl) (fun _ _ _ h=>h) (by rfl) (by intro _ h;(try dsimp only at h);go_split_ands;go_simp<;>with_reducible rfl) hHeld0 ?_
 try simp only [aS,aN,aT,a0,a1]
 refine tk (i:=1) (d:=some 17) rfl rfl (by kernel_rfl) (fun _ _ _ h=>h) (by rfl) (by intro _ h;(try dsimp only at h);go_split_ands;go_simp<;>with_reducible rfl) hHeld0 ?_
 try simp only [aS,aN,aT,a0,a1]
 refine tk (i:=2) (d:=some 18) rfl rfl (by kernel_rfl) (fun _ _ _ h=>h) (by rfl) (by intro _ h;(try dsimp only at h);go_split_ands;go_simp<;>with_reducible rfl) hHeld0 ?_
 try simp only [aS,aN,aT,a0,a1]
 refine tk (i:=3) (d:=some 19) rfl rfl (by kernel_rfl) (fun _ _ _ h=>h) (by rfl) (by intro _ h;(try dsimp only at h);go_split_ands;go_simp<;>with_reducible rfl) hHeld0 ?_
 try simp only [aS,aN,aT,a0,a1]
 refine tk (i:=4) (d:=some 20) rfl rfl (by kernel_rfl) (fun _ _ _ h=>h) (by rfl) (by intro _ h;(try dsimp only at h);go_split_ands;go_simp<;>with_reducible rfl) hHeld0 ?_
 try simp only [aS,aN,aT,a0,a1]
 refine tk (i:=5) (d:=some 21) rfl rfl (by kernel_rfl) (fun _ _ _ h=>h) (by rfl) (by intro _ h;(try dsimp only at h);go_split_ands;go_simp<;>with_reducible rfl) hHeld0 ?_
 try simp only [aS,aN,aT,a0,a1]
 refine tk (i:=6) (d:=some 22) rfl rfl (by kernel_rfl) (fun _ _ _ h=>h) (by rfl) (by intro _ h;(try dsimp only at h);go_split_ands;go_simp<;>with_reducible rfl) hHeld0 ?_
 try simp only [aS,aN,aT,a0,a1]
 refine tk (i:=7) (d:=some 23) rfl rfl (by kernel_rfl) (fun _ _ _ h=>h) (by rfl) (by intro _ h;(try dsimp only at h);go_split_ands;go_simp<;>with_reducible rfl) hHeld0 ?_
 try simp only [aS,aN,aT,a0,a1]
 refine tk (i:=8) (d:=some 24) rfl rfl (by kernel_rfl) (fun _ _ _ h=>h) (by rfl) (by intro _ h;(try dsimp only at h);go_split_ands;go_simp<;>with_reducible rfl) hHeld0 ?_
 try simp only [aS,aN,aT,a0,a1]
 refine tk (i:=9) (d:=some 25) rfl rfl (by kernel_rfl) (fun _ _ _ h=>h) (by rfl) (by intro _ h;(try dsimp only at h);go_split_ands;go_simp<;>with_reducible rfl) hHeld0 ?_
 try simp only [aS,aN,aT,a0,a1]
 refine tk (i:=10) (d:=some 26) rfl rfl (by kernel_rfl) (fun _ _ _ h=>h) (by rfl) (by intro _ h;(try dsimp only at h);go_split_ands;go_simp<;>with_reducible rfl) hHeld0 ?_
 try simp only [aS,aN,aT,a0,a1]
 refine tk (i:=11) (d:=some 27) rfl rfl (by kernel_rfl) (fun _ _ _ h=>h) (by rfl) (by intro _ h;(try dsimp only at h);go_split_ands;go_simp<;>with_reducible rfl) hHeld0 ?_
 try simp only [aS,aN,aT,a0,a1]
 refine rd1 (i:=12) (by kernel_rfl) rfl fun K hK=>?_
 go_wp2_with fail
 refine hK.out _ _ (HT8.out _ ((bl_drewN (Bl.refl w) _).alloc _)) (fun hHeld1=>?_)
 try simp only [aS,aN,aT,a0,a1]
 refine rd1 (i:=13) (by kernel_rfl) rfl fun K hK=>?_
 obtain ⟨B,hBB⟩:∃B,B=w.heap.size:=⟨_,rfl⟩
 obtain ⟨hVb,v0,v1,v2,v3,v4,v5,fzV,qB,hB⟩:=insN w (nq+1) B hBB
 simp only [←hBB]
 clear hHeld1 hBB
 generalize (w.drewN (nq+1)).alloc (.cells #[.int .i64 0,.int .i64 0,.int .i64 0,.int .i64 0,.int .i64 0,.slice none 0 0] 58)=V at *
 go_wp2_with fail
 obtain ⟨hV6,hz,q6⟩:=insS hVb hB v0 v1 v2 v3 v4 v5 fzV qB (.int .i64 op) (.int .i64 ia) (.int .i64 ib) (.int .i64 ic) (.int .i64 ii) (.slice Q args.length q)
 generalize (((((V.setCell ⟨B,0,none⟩ (.int .i64 op)).setCell ⟨B,1,none⟩ (.int .i64 ia)).setCell ⟨B,2,none⟩ (.int .i64 ib)).setCell ⟨B,3,none⟩ (.int .i64 ic)).setCell ⟨B,4,none⟩ (.int .i64 ii)).setCell ⟨B,5,none⟩ (.slice Q args.length q)=V6 at *
 refine hK.out _ _ (HT8.out _ hV6.out) (fun hHeld2=>?_)
 clear v0 v1 v2 v3 v4 v5 fzV hVb qB hHeld2 V
 obtain ⟨z0,z1,z2,z3,z4,z5,fz6⟩:=hz.out
 try simp only [aS,aN,aT,a0,a1]
 refine wpAnyH_done (by kernel_rfl) ?_ _
 go_wp2
 refine wp_region_held_drew (S:=fun w'=>w'.cell? ⟨B,1,none⟩=some (.int .i64 ia)∧w'.cell? ⟨B,2,none⟩=some (.int .i64 ib)∧w'.cell? ⟨B,3,none⟩=some (.int .i64 ic)) (by kernel_rfl) ?_ (fun hHeld0=>?_)
 ·exact ⟨z1,z2,z3⟩
 refine tk (i:=0) (d:=some 51) rfl rfl (by kernel_rfl) (fun _ _ _ h=>h) (by rfl) (by intro _ h;(try dsimp only at h);go_split_ands;go_simp<;>with_reducible rfl) hHeld0 ?_
 try simp only [aS,aN,aT,a0,a1]
 refine tk (i:=1) (d:=some 52) rfl rfl (by kernel_rfl) (fun _ _ _ h=>h) (by rfl) (by intro _ h;(try dsimp only at h);go_split_ands;go_simp<;>with_reducible rfl) hHeld0 ?_
 try simp only [aS,aN,aT,a0,a1]
 refine tk (i:=2) (d:=some 53) rfl rfl (by kernel_rfl) (fun _ _ _ h=>h) (by rfl) (by intro _ h;(try dsimp only at h);go_split_ands;go_simp<;>with_reducible rfl) hHeld0 ?_
 try simp only [aS,aN,aT,a0,a1]
 refine tk (i:=3) (d:=some 54) rfl rfl (by kernel_rfl) (fun _ _ _ h=>h) (by rfl) (by intro _ h;(try dsimp only at h);go_split_ands;go_simp<;>with_reducible rfl) hHeld0 ?_
 try simp only [aS,aN,aT,a0,a1]
 refine tk (i:=4) (d:=some 55) rfl rfl (by kernel_rfl) (fun _ _ _ h=>h) (by rfl) (by intro _ h;(try dsimp only at h);go_split_ands;go_simp<;>with_reducible rfl) hHeld0 ?_
 try simp only [aS,aN,aT,a0,a1]
 refine tk (i:=5) (d:=some 56) rfl rfl (by kernel_rfl) (fun _ _ _ h=>h) (by rfl) (by intro _ h;(try dsimp only at h);go_split_ands;go_simp<;>with_reducible rfl) hHeld0 ?_
 try simp only [aS,aN,aT,a0,a1]
 refine tk (i:=6) (d:=some 57) rfl rfl (by kernel_rfl) (fun _ _ _ h=>h) (by rfl) (by intro _ h;(try dsimp only at h);go_split_ands;go_simp<;>with_reducible rfl) hHeld0 ?_
 try simp only [aS,aN,aT,a0,a1]
 refine tk (i:=7) (d:=some 58) rfl rfl (by kernel_rfl) (fun _ _ _ h=>h) (by rfl) (by intro _ h;(try dsimp only at h);go_split_ands;go_simp<;>with_reducible rfl) hHeld0 ?_
 try simp only [aS,aN,aT,a0,a1]
 refine rd1 (i:=8) (by kernel_rfl) rfl fun K hK=>?_
 go_simp
 go_at_call 137
 refine (HR.out _ hV6.out.drew).mono ?_
 rintro e w1 ⟨rfl,b1⟩
 exact ⟨rfl,HP.out _ (hV6.out.drew.trans b1)⟩
theorem do_if_go (P:Ending→World→Prop) (X:Nat→Prop) (wx w0:World) (g:Mg) (h:Hp) (qs:List Qb) (a:Mc) (c:Cal) (w:World) (H:RX 1 X wx w0 g w h qs a c) (op ia ib ic ii:Int) (args:List Int) (cb co:Nat) (Q:Option Addr) (q n:Nat) (A:AtI w a c ⟨op,ia,ib,ic,ii,args⟩ cb co Q q n) (hop:op=11) (v:Va) (bb:Bool) (hr:∀w',Bl w w'→Calls Tryz.prog 137 #[.pointer (some ⟨a.q,0,none⟩),.int .i64 ic,.int .i64 1] w' fun e w2=>e=.returned (mvV v)∧Bl w' w2) (hqq:∀w',Calls Tryz.prog 136 #[.int .i64 ib,.int .i64 v.n] w' fun e w2=>e=.returned (.bool bb)∧Bl w' w2) (hk:∀w',Bl w w'→Calls Tryz.prog 135 #[.pointer (some ⟨a.q,0,none⟩),.int .i64 ia,.bool bb] w' fun e w2=>e=.returned (.tuple #[])∧P e w2∧KpY (Xp noY w.heap.size w'.heap.size) w' w2) :
  Calls Tryz.prog 67 #[.pointer (some ⟨a.q,0,none⟩)] w P:=by
 have HH:=hid H
 obtain ⟨c11,fz,c8,hq,hcl,hlt,HAP,hn0,hn1,hd0,HT8,fzn,fzm⟩:=dpm H A
 have e10:(op==10)=false:=by simp;omega
 have e11:(op==11)=true:=by simp [hop]
 have HR:=hid hr
 have HK:=hid hk
 have HQ:=hid hqq
 have hfd:=fun w=>mv_field v.kind v.n w
 clear H A hop hr hk hqq
 go_enter Tryz.func67,Tryz.ntmps67
 go_wp2
 go_quiet (fail)
 go_wp2
 refine wp_region_held_drew (S:=fun w'=>w'.cell? ⟨a.q,8,none⟩=some (.slice (some ⟨cb,co,none⟩) c.m.code.length a.c)∧w'.cell? ⟨a.q,11,none⟩=some (.int .i64 (n:Int))∧w'.cell? ⟨cb,co+n*6,none⟩=some (.int .i64 op)∧w'.cell? ⟨cb,co+n*6+1,none⟩=some (.int .i64 ia)∧w'.cell? ⟨cb,co+n*6+2,none⟩=some (.int .i64 ib)∧w'.cell? ⟨cb,co+n*6+3,none⟩=some (.int .i64 ic)∧w'.cell? ⟨cb,co+n*6+4,none⟩=some (.int .i64 ii)∧w'.cell? ⟨cb,co+n*6+5,none⟩=some (.slice Q args.length q)) (by kernel_rfl) ?_ (fun hHeld0=>?_)
 ·exact HT8.out _ (bl_drewN (Bl.refl w) _).drew
 refine tk (i:=0) (d:=some 16) rfl rfl (by kernel_rfl) (fun _ _ _ h=>h) (by rfl) (by intro _ h;(try dsimp only at h);go_split_ands;go_simp<;>with_reducible rfl) hHeld0 ?_
 try simp only [aS,aN,aT,a0,a1]
 refine tk (i:=1) (d:=some 17) rfl rfl (by kernel_rfl) (fun _ _ _ h=>h) (by rfl) (by intro _ h;(try dsimp only at h);go_split_ands;go_simp<;>with_reducible rfl) hHeld0 ?_
 try simp only [aS,aN,aT,a0,a1]
 refine tk (i:=2) (d:=some 18) rfl rfl (by kernel_rfl) (fun _ _ _ h=>h) (by rfl) (by intro _ h;(try dsimp only at h);go_split_ands;go_simp<;>with_reducible rfl) hHeld0 ?_
 try simp only [aS,aN,aT,a0,a1]
 refine tk (i:=3) (d:=some 19) rfl rfl (by kernel_rfl) (fun _ _ _ h=>h) (by rfl) (by intro _ h;(try dsimp only at h);go_split_ands;go_simp<;>with_reducible rfl) hHeld0 ?_
 try simp only [aS,aN,aT,a0,a1]
 refine tk (i:=4) (d:=some 20) rfl rfl (by kernel_rfl) (fun _ _ _ h=>h) (by rfl) (by intro _ h;(try dsimp only at h);go_split_ands;go_simp<;>with_reducible rfl) hHeld0 ?_
 try simp only [aS,aN,aT,a0,a1]
 refine tk (i:=5) (d:=some 21) rfl rfl (by kernel_rfl) (fun _ _ _ h=>h) (by rfl) (by intro _ h;(try dsimp only at h);go_split_ands;go_simp<;>with_reducible rfl) hHeld0 ?_
 try simp only [aS,aN,aT,a0,a1]
 refine tk (i:=6) (d:=some 22) rfl rfl (by kernel_rfl) (fun _ _ _ h=>h) (by rfl) (by intro _ h;(try dsimp only at h);go_split_ands;go_simp<;>with_reducible rfl) hHeld0 ?_
 try simp only [aS,aN,aT,a0,a1]
 refine tk (i:=7) (d:=some 23) rfl rfl (by kernel_rfl) (fun _ _ _ h=>h) (by rfl) (by intro _ h;(try dsimp only at h);go_split_ands;go_simp<;>with_reducible rfl) hHeld0 ?_
 try simp only [aS,aN,aT,a0,a1]
 refine tk (i:=8) (d:=some 24) rfl rfl (by kernel_rfl) (fun _ _ _ h=>h) (by rfl) (by intro _ h;(try dsimp only at h);go_split_ands;go_simp<;>with_reducible rfl) hHeld0 ?_
 try simp only [aS,aN,aT,a0,a1]
 refine tk (i:=9) (d:=some 25) rfl rfl (by kernel_rfl) (fun _ _ _ h=>h) (by rfl) (by intro _ h;(try dsimp only at h);go_split_ands;go_simp<;>with_reducible rfl) hHeld0 ?_
 try simp only [aS,aN,aT,a0,a1]
 refine tk (i:=10) (d:=some 26) rfl rfl (by kernel_rfl) (fun _ _ _ h=>h) (by rfl) (by intro _ h;(try dsimp only at h);go_split_ands;go_simp<;>with_reducible rfl) hHeld0 ?_
 try simp only [aS,aN,aT,a0,a1]
 refine tk (i:=11) (d:=some 27) rfl rfl (by kernel_rfl) (fun _ _ _ h=>h) (by rfl) (by intro _ h;(try dsimp only at h);go_split_ands;go_simp<;>with_reducible rfl) hHeld0 ?_
 try simp only [aS,aN,aT,a0,a1]
 refine rd1 (i:=12) (by kernel_rfl) rfl fun K hK=>?_
 go_wp2_with fail
 refine hK.out _ _ (HT8.out _ ((bl_drewN (Bl.refl w) _).alloc _)) (fun hHeld1=>?_)
 try simp only [aS,aN,aT,a0,a1]
 refine rd1 (i:=13) (by kernel_rfl) rfl fun K hK=>?_
 obtain ⟨B,hBB⟩:∃B,B=w.heap.size:=⟨_,rfl⟩
 obtain ⟨hVb,v0,v1,v2,v3,v4,v5,fzV,qB,hB⟩:=insN w (nq+1) B hBB
 simp only [←hBB]
 clear hHeld1 hBB
 generalize (w.drewN (nq+1)).alloc (.cells #[.int .i64 0,.int .i64 0,.int .i64 0,.int .i64 0,.int .i64 0,.slice none 0 0] 58)=V at *
 go_wp2_with fail
 obtain ⟨hV6,hz,q6⟩:=insS hVb hB v0 v1 v2 v3 v4 v5 fzV qB (.int .i64 op) (.int .i64 ia) (.int .i64 ib) (.int .i64 ic) (.int .i64 ii) (.slice Q args.length q)
 generalize (((((V.setCell ⟨B,0,none⟩ (.int .i64 op)).setCell ⟨B,1,none⟩ (.int .i64 ia)).setCell ⟨B,2,none⟩ (.int .i64 ib)).setCell ⟨B,3,none⟩ (.int .i64 ic)).setCell ⟨B,4,none⟩ (.int .i64 ii)).setCell ⟨B,5,none⟩ (.slice Q args.length q)=V6 at *
 refine hK.out _ _ (HT8.out _ hV6.out) (fun hHeld2=>?_)
 clear v0 v1 v2 v3 v4 v5 fzV hVb qB hHeld2 V
 obtain ⟨z0,z1,z2,z3,z4,z5,fz6⟩:=hz.out
 try simp only [aS,aN,aT,a0,a1]
 refine wpAnyH_done (by kernel_rfl) ?_ _
 go_wp2
 refine wp_region_held_drew (S:=fun w'=>w'.cell? ⟨B,1,none⟩=some (.int .i64 ia)∧w'.cell? ⟨B,2,none⟩=some (.int .i64 ib)∧w'.cell? ⟨B,3,none⟩=some (.int .i64 ic)) (by kernel_rfl) ?_ (fun hHeld0=>?_)
 ·exact ⟨z1,z2,z3⟩
 refine tk (i:=0) (d:=some 51) rfl rfl (by kernel_rfl) (fun _ _ _ h=>h) (by rfl) (by intro _ h;(try dsimp only at h);go_split_ands;go_simp<;>with_reducible rfl) hHeld0 ?_
 try simp only [aS,aN,aT,a0,a1]
 refine tk (i:=1) (d:=some 52) rfl rfl (by kernel_rfl) (fun _ _ _ h=>h) (by rfl) (by intro _ h;(try dsimp only at h);go_split_ands;go_simp<;>with_reducible rfl) hHeld0 ?_
 try simp only [aS,aN,aT,a0,a1]
 refine tk (i:=2) (d:=some 53) rfl rfl (by kernel_rfl) (fun _ _ _ h=>h) (by rfl) (by intro _ h;(try dsimp only at h);go_split_ands;go_simp<;>with_reducible rfl) hHeld0 ?_
 try simp only [aS,aN,aT,a0,a1]
 refine tk (i:=3) (d:=some 54) rfl rfl (by kernel_rfl) (fun _ _ _ h=>h) (by rfl) (by intro _ h;(try dsimp only at h);go_split_ands;go_simp<;>with_reducible rfl) hHeld0 ?_
 try simp only [aS,aN,aT,a0,a1]
 refine tk (i:=4) (d:=some 55) rfl rfl (by kernel_rfl) (fun _ _ _ h=>h) (by rfl) (by intro _ h;(try dsimp only at h);go_split_ands;go_simp<;>with_reducible rfl) hHeld0 ?_
 try simp only [aS,aN,aT,a0,a1]
 refine tk (i:=5) (d:=some 56) rfl rfl (by kernel_rfl) (fun _ _ _ h=>h) (by rfl) (by intro _ h;(try dsimp only at h);go_split_ands;go_simp<;>with_reducible rfl) hHeld0 ?_
 try simp only [aS,aN,aT,a0,a1]
 refine tk (i:=6) (d:=some 57) rfl rfl (by kernel_rfl) (fun _ _ _ h=>h) (by rfl) (by intro _ h;(try dsimp only at h);go_split_ands;go_simp<;>with_reducible rfl) hHeld0 ?_
 try simp only [aS,aN,aT,a0,a1]
 refine tk (i:=7) (d:=some 58) rfl rfl (by kernel_rfl) (fun _ _ _ h=>h) (by rfl) (by intro _ h;(try dsimp only at h);go_split_ands;go_simp<;>with_reducible rfl) hHeld0 ?_
 try simp only [aS,aN,aT,a0,a1]
 refine rd1 (i:=8) (by kernel_rfl) rfl fun K hK=>?_
 go_simp
 go_at_call 137
 refine (HR.out _ hV6.out.drew).mono ?_
 rintro e w1 ⟨rfl,b1⟩
 have da0:=hid (b1.cell hHeld0.1)
 have da1:=hid (b1.cell hHeld0.2.1)
 have da2:=hid (b1.cell hHeld0.2.2)
 replace b1:=hid b1
 go_wp2_with fail
 refine hK.out _ _ (⟨da0.out,da1.out,da2.out⟩) (fun hHeld1=>?_)
 try simp only [aS,aN,aT,a0,a1]
 refine tk (i:=9) (d:=some 60) rfl rfl (by kernel_rfl) (fun _ _ _ h=>h) (by rfl) (by intro _ h;(try dsimp only at h);go_split_ands;go_simp<;>with_reducible rfl) hHeld1 ?_
 try simp only [aS,aN,aT,a0,a1]
 refine rd1 (i:=10) (by kernel_rfl) rfl fun K hK=>?_
 go_simp
 go_at_call 136
 refine (HQ.out _).mono ?_
 rintro e w2 ⟨rfl,b2⟩
 have db0:=hid (b2.cell hHeld1.1)
 have db1:=hid (b2.cell hHeld1.2.1)
 have db2:=hid (b2.cell hHeld1.2.2)
 replace b2:=hid b2
 go_wp2_with fail
 refine hK.out _ _ (⟨db0.out,db1.out,db2.out⟩) (fun hHeld2=>?_)
 try simp only [aS,aN,aT,a0,a1]
 refine rd1 (i:=11) (by kernel_rfl) rfl fun K hK=>?_
 go_simp
 go_at_call 135
 refine (HK.out _ ((hV6.out.drew.trans b1.out).trans b2.out)).mono ?_
 rintro e w4 ⟨rfl,pq,K4⟩
 have K4:=hid (K4.at (Xp.new hB.out (lt_some (bl_blk (b1.out.trans b2.out) q6.out))) (bl_blk (b1.out.trans b2.out) q6.out))
 replace pq:=hid pq
 go_wp2_with fail
 refine hK.out _ _ (⟨(insC K4.out).2.1,(insC K4.out).2.2.1,(insC K4.out).2.2.2.1⟩) (fun hHeld3=>?_)
 try simp only [aS,aN,aT,a0,a1]
 refine wpAnyH_done (by kernel_rfl) ?_ _
 go_wp2
 go_end0
 exact pq.out
theorem do_ifnull_no (P:Ending→World→Prop) (X:Nat→Prop) (wx w0:World) (g:Mg) (h:Hp) (qs:List Qb) (a:Mc) (c:Cal) (w:World) (H:RX 1 X wx w0 g w h qs a c) (op ia ib ic ii:Int) (args:List Int) (cb co:Nat) (Q:Option Addr) (q n:Nat) (A:AtI w a c ⟨op,ia,ib,ic,ii,args⟩ cb co Q q n) (hop:op=12) (hr:∀w',Bl w w'→Calls Tryz.prog 137 #[.pointer (some ⟨a.q,0,none⟩),.int .i64 ic,.int .i64 3] w' fun e w2=>e=stopE 6 0 0∧Bl w' w2) (hP:∀w2,Bl w w2→P (stopE 6 0 0) w2) :
  Calls Tryz.prog 67 #[.pointer (some ⟨a.q,0,none⟩)] w P:=by
 have HH:=hid H
 obtain ⟨c11,fz,c8,hq,hcl,hlt,HAP,hn0,hn1,hd0,HT8,fzn,fzm⟩:=dpm H A
 have e10:(op==10)=false:=by simp;omega
 have e11:(op==11)=false:=by simp;omega
 have e12:(op==12)=true:=by simp [hop]
 have HR:=hid hr
 have HP:=hid hP
 clear H A hop hr hP
 go_enter Tryz.func67,Tryz.ntmps67
 go_wp2
 go_quiet (fail)
 go_wp2
 refine wp_region_held_drew (S:=fun w'=>w'.cell? ⟨a.q,8,none⟩=some (.slice (some ⟨cb,co,none⟩) c.m.code.length a.c)∧w'.cell? ⟨a.q,11,none⟩=some (.int .i64 (n:Int))∧w'.cell? ⟨cb,co+n*6,none⟩=some (.int .i64 op)∧w'.cell? ⟨cb,co+n*6+1,none⟩=some (.int .i64 ia)∧w'.cell? ⟨cb,co+n*6+2,none⟩=some (.int .i64 ib)∧w'.cell? ⟨cb,co+n*6+3,none⟩=some (.int .i64 ic)∧w'.cell? ⟨cb,co+n*6+4,none⟩=some (.int .i64 ii)∧w'.cell? ⟨cb,co+n*6+5,none⟩=some (.slice Q args.length q)) (by kernel_rfl) ?_ (fun hHeld0=>?_)
 ·exact HT8.out _ (bl_drewN (Bl.refl w) _).drew
 refine tk (i:=0) (d:=some 16) rfl rfl (by kernel_rfl) (fun _ _ _ h=>h) (by rfl) (by intro _ h;(try dsimp only at h);go_split_ands;go_simp<;>with_reducible rfl) hHeld0 ?_
 try simp only [aS,aN,aT,a0,a1]
 refine tk (i:=1) (d:=some 17) rfl rfl (by kernel_rfl) (fun _ _ _ h=>h) (by rfl) (by intro _ h;(try dsimp only at h);go_split_ands;go_simp<;>with_reducible rfl) hHeld0 ?_
 try simp only [aS,aN,aT,a0,a1]
 refine tk (i:=2) (d:=some 18) rfl rfl (by kernel_rfl) (fun _ _ _ h=>h) (by rfl) (by intro _ h;(try dsimp only at h);go_split_ands;go_simp<;>with_reducible rfl) hHeld0 ?_
 try simp only [aS,aN,aT,a0,a1]
 refine tk (i:=3) (d:=some 19) rfl rfl (by kernel_rfl) (fun _ _ _ h=>h) (by rfl) (by intro _ h;(try dsimp only at h);go_split_ands;go_simp<;>with_reducible rfl) hHeld0 ?_
 try simp only [aS,aN,aT,a0,a1]
 refine tk (i:=4) (d:=some 20) rfl rfl (by kernel_rfl) (fun _ _ _ h=>h) (by rfl) (by intro _ h;(try dsimp only at h);go_split_ands;go_simp<;>with_reducible rfl) hHeld0 ?_
 try simp only [aS,aN,aT,a0,a1]
 refine tk (i:=5) (d:=some 21) rfl rfl (by kernel_rfl) (fun _ _ _ h=>h) (by rfl) (by intro _ h;(try dsimp only at h);go_split_ands;go_simp<;>with_reducible rfl) hHeld0 ?_
 try simp only [aS,aN,aT,a0,a1]
 refine tk (i:=6) (d:=some 22) rfl rfl (by kernel_rfl) (fun _ _ _ h=>h) (by rfl) (by intro _ h;(try dsimp only at h);go_split_ands;go_simp<;>with_reducible rfl) hHeld0 ?_
 try simp only [aS,aN,aT,a0,a1]
 refine tk (i:=7) (d:=some 23) rfl rfl (by kernel_rfl) (fun _ _ _ h=>h) (by rfl) (by intro _ h;(try dsimp only at h);go_split_ands;go_simp<;>with_reducible rfl) hHeld0 ?_
 try simp only [aS,aN,aT,a0,a1]
 refine tk (i:=8) (d:=some 24) rfl rfl (by kernel_rfl) (fun _ _ _ h=>h) (by rfl) (by intro _ h;(try dsimp only at h);go_split_ands;go_simp<;>with_reducible rfl) hHeld0 ?_
 try simp only [aS,aN,aT,a0,a1]
 refine tk (i:=9) (d:=some 25) rfl rfl (by kernel_rfl) (fun _ _ _ h=>h) (by rfl) (by intro _ h;(try dsimp only at h);go_split_ands;go_simp<;>with_reducible rfl) hHeld0 ?_
 try simp only [aS,aN,aT,a0,a1]
 refine tk (i:=10) (d:=some 26) rfl rfl (by kernel_rfl) (fun _ _ _ h=>h) (by rfl) (by intro _ h;(try dsimp only at h);go_split_ands;go_simp<;>with_reducible rfl) hHeld0 ?_
 try simp only [aS,aN,aT,a0,a1]
 refine tk (i:=11) (d:=some 27) rfl rfl (by kernel_rfl) (fun _ _ _ h=>h) (by rfl) (by intro _ h;(try dsimp only at h);go_split_ands;go_simp<;>with_reducible rfl) hHeld0 ?_
 try simp only [aS,aN,aT,a0,a1]
 refine rd1 (i:=12) (by kernel_rfl) rfl fun K hK=>?_
 go_wp2_with fail
 refine hK.out _ _ (HT8.out _ ((bl_drewN (Bl.refl w) _).alloc _)) (fun hHeld1=>?_)
 try simp only [aS,aN,aT,a0,a1]
 refine rd1 (i:=13) (by kernel_rfl) rfl fun K hK=>?_
 obtain ⟨B,hBB⟩:∃B,B=w.heap.size:=⟨_,rfl⟩
 obtain ⟨hVb,v0,v1,v2,v3,v4,v5,fzV,qB,hB⟩:=insN w (nq+1) B hBB
 simp only [←hBB]
 clear hHeld1 hBB
 generalize (w.drewN (nq+1)).alloc (.cells #[.int .i64 0,.int .i64 0,.int .i64 0,.int .i64 0,.int .i64 0,.slice none 0 0] 58)=V at *
 go_wp2_with fail
 obtain ⟨hV6,hz,q6⟩:=insS hVb hB v0 v1 v2 v3 v4 v5 fzV qB (.int .i64 op) (.int .i64 ia) (.int .i64 ib) (.int .i64 ic) (.int .i64 ii) (.slice Q args.length q)
 generalize (((((V.setCell ⟨B,0,none⟩ (.int .i64 op)).setCell ⟨B,1,none⟩ (.int .i64 ia)).setCell ⟨B,2,none⟩ (.int .i64 ib)).setCell ⟨B,3,none⟩ (.int .i64 ic)).setCell ⟨B,4,none⟩ (.int .i64 ii)).setCell ⟨B,5,none⟩ (.slice Q args.length q)=V6 at *
 refine hK.out _ _ (HT8.out _ hV6.out) (fun hHeld2=>?_)
 clear v0 v1 v2 v3 v4 v5 fzV hVb qB hHeld2 V
 obtain ⟨z0,z1,z2,z3,z4,z5,fz6⟩:=hz.out
 try simp only [aS,aN,aT,a0,a1]
 refine wpAnyH_done (by kernel_rfl) ?_ _
 go_wp2
 refine wp_region_held_drew (S:=fun w'=>w'.cell? ⟨B,1,none⟩=some (.int .i64 ia)∧w'.cell? ⟨B,2,none⟩=some (.int .i64 ib)∧w'.cell? ⟨B,3,none⟩=some (.int .i64 ic)) (by kernel_rfl) ?_ (fun hHeld0=>?_)
 ·exact ⟨z1,z2,z3⟩
 refine tk (i:=0) (d:=some 65) rfl rfl (by kernel_rfl) (fun _ _ _ h=>h) (by rfl) (by intro _ h;(try dsimp only at h);go_split_ands;go_simp<;>with_reducible rfl) hHeld0 ?_
 try simp only [aS,aN,aT,a0,a1]
 refine tk (i:=1) (d:=some 66) rfl rfl (by kernel_rfl) (fun _ _ _ h=>h) (by rfl) (by intro _ h;(try dsimp only at h);go_split_ands;go_simp<;>with_reducible rfl) hHeld0 ?_
 try simp only [aS,aN,aT,a0,a1]
 refine tk (i:=2) (d:=some 67) rfl rfl (by kernel_rfl) (fun _ _ _ h=>h) (by rfl) (by intro _ h;(try dsimp only at h);go_split_ands;go_simp<;>with_reducible rfl) hHeld0 ?_
 try simp only [aS,aN,aT,a0,a1]
 refine tk (i:=3) (d:=some 68) rfl rfl (by kernel_rfl) (fun _ _ _ h=>h) (by rfl) (by intro _ h;(try dsimp only at h);go_split_ands;go_simp<;>with_reducible rfl) hHeld0 ?_
 try simp only [aS,aN,aT,a0,a1]
 refine tk (i:=4) (d:=some 69) rfl rfl (by kernel_rfl) (fun _ _ _ h=>h) (by rfl) (by intro _ h;(try dsimp only at h);go_split_ands;go_simp<;>with_reducible rfl) hHeld0 ?_
 try simp only [aS,aN,aT,a0,a1]
 refine tk (i:=5) (d:=some 70) rfl rfl (by kernel_rfl) (fun _ _ _ h=>h) (by rfl) (by intro _ h;(try dsimp only at h);go_split_ands;go_simp<;>with_reducible rfl) hHeld0 ?_
 try simp only [aS,aN,aT,a0,a1]
 refine rd1 (i:=6) (by kernel_rfl) rfl fun K hK=>?_
 go_simp
 go_at_call 137
 refine (HR.out _ hV6.out.drew).mono ?_
 rintro e w1 ⟨rfl,b1⟩
 exact ⟨rfl,HP.out _ (hV6.out.drew.trans b1)⟩
theorem do_ifnull_go (P:Ending→World→Prop) (X:Nat→Prop) (wx w0:World) (g:Mg) (h:Hp) (qs:List Qb) (a:Mc) (c:Cal) (w:World) (H:RX 1 X wx w0 g w h qs a c) (op ia ib ic ii:Int) (args:List Int) (cb co:Nat) (Q:Option Addr) (q n:Nat) (A:AtI w a c ⟨op,ia,ib,ic,ii,args⟩ cb co Q q n) (hop:op=12) (v:Va) (bb:Bool) (hr:∀w',Bl w w'→Calls Tryz.prog 137 #[.pointer (some ⟨a.q,0,none⟩),.int .i64 ic,.int .i64 3] w' fun e w2=>e=.returned (mvV v)∧Bl w' w2) (hqq:∀w',Calls Tryz.prog 138 #[mvV v] w' fun e w2=>e=.returned (.bool bb)∧Bl w' w2) (hk:∀w',Bl w w'→Calls Tryz.prog 135 #[.pointer (some ⟨a.q,0,none⟩),.int .i64 ia,.bool bb] w' fun e w2=>e=.returned (.tuple #[])∧P e w2∧KpY (Xp noY w.heap.size w'.heap.size) w' w2) :
  Calls Tryz.prog 67 #[.pointer (some ⟨a.q,0,none⟩)] w P:=by
 have HH:=hid H
 obtain ⟨c11,fz,c8,hq,hcl,hlt,HAP,hn0,hn1,hd0,HT8,fzn,fzm⟩:=dpm H A
 have e10:(op==10)=false:=by simp;omega
 have e11:(op==11)=false:=by simp;omega
 have e12:(op==12)=true:=by simp [hop]
 have HR:=hid hr
 have HK:=hid hk
 have HQ:=hid hqq
 clear H A hop hr hk hqq
 go_enter Tryz.func67,Tryz.ntmps67
 go_wp2
 go_quiet (fail)
 go_wp2
 refine wp_region_held_drew (S:=fun w'=>w'.cell? ⟨a.q,8,none⟩=some (.slice (some ⟨cb,co,none⟩) c.m.code.length a.c)∧w'.cell? ⟨a.q,11,none⟩=some (.int .i64 (n:Int))∧w'.cell? ⟨cb,co+n*6,none⟩=some (.int .i64 op)∧w'.cell? ⟨cb,co+n*6+1,none⟩=some (.int .i64 ia)∧w'.cell? ⟨cb,co+n*6+2,none⟩=some (.int .i64 ib)∧w'.cell? ⟨cb,co+n*6+3,none⟩=some (.int .i64 ic)∧w'.cell? ⟨cb,co+n*6+4,none⟩=some (.int .i64 ii)∧w'.cell? ⟨cb,co+n*6+5,none⟩=some (.slice Q args.length q)) (by kernel_rfl) ?_ (fun hHeld0=>?_)
 ·exact HT8.out _ (bl_drewN (Bl.refl w) _).drew
 refine tk (i:=0) (d:=some 16) rfl rfl (by kernel_rfl) (fun _ _ _ h=>h) (by rfl) (by intro _ h;(try dsimp only at h);go_split_ands;go_simp<;>with_reducible rfl) hHeld0 ?_
 try simp only [aS,aN,aT,a0,a1]
 refine tk (i:=1) (d:=some 17) rfl rfl (by kernel_rfl) (fun _ _ _ h=>h) (by rfl) (by intro _ h;(try dsimp only at h);go_split_ands;go_simp<;>with_reducible rfl) hHeld0 ?_
 try simp only [aS,aN,aT,a0,a1]
 refine tk (i:=2) (d:=some 18) rfl rfl (by kernel_rfl) (fun _ _ _ h=>h) (by rfl) (by intro _ h;(try dsimp only at h);go_split_ands;go_simp<;>with_reducible rfl) hHeld0 ?_
 try simp only [aS,aN,aT,a0,a1]
 refine tk (i:=3) (d:=some 19) rfl rfl (by kernel_rfl) (fun _ _ _ h=>h) (by rfl) (by intro _ h;(try dsimp only at h);go_split_ands;go_simp<;>with_reducible rfl) hHeld0 ?_
 try simp only [aS,aN,aT,a0,a1]
 refine tk (i:=4) (d:=some 20) rfl rfl (by kernel_rfl) (fun _ _ _ h=>h) (by rfl) (by intro _ h;(try dsimp only at h);go_split_ands;go_simp<;>with_reducible rfl) hHeld0 ?_
 try simp only [aS,aN,aT,a0,a1]
 refine tk (i:=5) (d:=some 21) rfl rfl (by kernel_rfl) (fun _ _ _ h=>h) (by rfl) (by intro _ h;(try dsimp only at h);go_split_ands;go_simp<;>with_reducible rfl) hHeld0 ?_
 try simp only [aS,aN,aT,a0,a1]
 refine tk (i:=6) (d:=some 22) rfl rfl (by kernel_rfl) (fun _ _ _ h=>h) (by rfl) (by intro _ h;(try dsimp only at h);go_split_ands;go_simp<;>with_reducible rfl) hHeld0 ?_
 try simp only [aS,aN,aT,a0,a1]
 refine tk (i:=7) (d:=some 23) rfl rfl (by kernel_rfl) (fun _ _ _ h=>h) (by rfl) (by intro _ h;(try dsimp only at h);go_split_ands;go_simp<;>with_reducible rfl) hHeld0 ?_
 try simp only [aS,aN,aT,a0,a1]
 refine tk (i:=8) (d:=some 24) rfl rfl (by kernel_rfl) (fun _ _ _ h=>h) (by rfl) (by intro _ h;(try dsimp only at h);go_split_ands;go_simp<;>with_reducible rfl) hHeld0 ?_
 try simp only [aS,aN,aT,a0,a1]
 refine tk (i:=9) (d:=some 25) rfl rfl (by kernel_rfl) (fun _ _ _ h=>h) (by rfl) (by intro _ h;(try dsimp only at h);go_split_ands;go_simp<;>with_reducible rfl) hHeld0 ?_
 try simp only [aS,aN,aT,a0,a1]
 refine tk (i:=10) (d:=some 26) rfl rfl (by kernel_rfl) (fun _ _ _ h=>h) (by rfl) (by intro _ h;(try dsimp only at h);go_split_ands;go_simp<;>with_reducible rfl) hHeld0 ?_
 try simp only [aS,aN,aT,a0,a1]
 refine tk (i:=11) (d:=some 27) rfl rfl (by kernel_rfl) (fun _ _ _ h=>h) (by rfl) (by intro _ h;(try dsimp only at h);go_split_ands;go_simp<;>with_reducible rfl) hHeld0 ?_
 try simp only [aS,aN,aT,a0,a1]
 refine rd1 (i:=12) (by kernel_rfl) rfl fun K hK=>?_
 go_wp2_with fail
 refine hK.out _ _ (HT8.out _ ((bl_drewN (Bl.refl w) _).alloc _)) (fun hHeld1=>?_)
 try simp only [aS,aN,aT,a0,a1]
 refine rd1 (i:=13) (by kernel_rfl) rfl fun K hK=>?_
 obtain ⟨B,hBB⟩:∃B,B=w.heap.size:=⟨_,rfl⟩
 obtain ⟨hVb,v0,v1,v2,v3,v4,v5,fzV,qB,hB⟩:=insN w (nq+1) B hBB
 simp only [←hBB]
 clear hHeld1 hBB
 generalize (w.drewN (nq+1)).alloc (.cells #[.int .i64 0,.int .i64 0,.int .i64 0,.int .i64 0,.int .i64 0,.slice none 0 0] 58)=V at *
 go_wp2_with fail
 obtain ⟨hV6,hz,q6⟩:=insS hVb hB v0 v1 v2 v3 v4 v5 fzV qB (.int .i64 op) (.int .i64 ia) (.int .i64 ib) (.int .i64 ic) (.int .i64 ii) (.slice Q args.length q)
 generalize (((((V.setCell ⟨B,0,none⟩ (.int .i64 op)).setCell ⟨B,1,none⟩ (.int .i64 ia)).setCell ⟨B,2,none⟩ (.int .i64 ib)).setCell ⟨B,3,none⟩ (.int .i64 ic)).setCell ⟨B,4,none⟩ (.int .i64 ii)).setCell ⟨B,5,none⟩ (.slice Q args.length q)=V6 at *
 refine hK.out _ _ (HT8.out _ hV6.out) (fun hHeld2=>?_)
 clear v0 v1 v2 v3 v4 v5 fzV hVb qB hHeld2 V
 obtain ⟨z0,z1,z2,z3,z4,z5,fz6⟩:=hz.out
 try simp only [aS,aN,aT,a0,a1]
 refine wpAnyH_done (by kernel_rfl) ?_ _
 go_wp2
 refine wp_region_held_drew (S:=fun w'=>w'.cell? ⟨B,1,none⟩=some (.int .i64 ia)∧w'.cell? ⟨B,2,none⟩=some (.int .i64 ib)∧w'.cell? ⟨B,3,none⟩=some (.int .i64 ic)) (by kernel_rfl) ?_ (fun hHeld0=>?_)
 ·exact ⟨z1,z2,z3⟩
 refine tk (i:=0) (d:=some 65) rfl rfl (by kernel_rfl) (fun _ _ _ h=>h) (by rfl) (by intro _ h;(try dsimp only at h);go_split_ands;go_simp<;>with_reducible rfl) hHeld0 ?_
 try simp only [aS,aN,aT,a0,a1]
 refine tk (i:=1) (d:=some 66) rfl rfl (by kernel_rfl) (fun _ _ _ h=>h) (by rfl) (by intro _ h;(try dsimp only at h);go_split_ands;go_simp<;>with_reducible rfl) hHeld0 ?_
 try simp only [aS,aN,aT,a0,a1]
 refine tk (i:=2) (d:=some 67) rfl rfl (by kernel_rfl) (fun _ _ _ h=>h) (by rfl) (by intro _ h;(try dsimp only at h);go_split_ands;go_simp<;>with_reducible rfl) hHeld0 ?_
 try simp only [aS,aN,aT,a0,a1]
 refine tk (i:=3) (d:=some 68) rfl rfl (by kernel_rfl) (fun _ _ _ h=>h) (by rfl) (by intro _ h;(try dsimp only at h);go_split_ands;go_simp<;>with_reducible rfl) hHeld0 ?_
 try simp only [aS,aN,aT,a0,a1]
 refine tk (i:=4) (d:=some 69) rfl rfl (by kernel_rfl) (fun _ _ _ h=>h) (by rfl) (by intro _ h;(try dsimp only at h);go_split_ands;go_simp<;>with_reducible rfl) hHeld0 ?_
 try simp only [aS,aN,aT,a0,a1]
 refine tk (i:=5) (d:=some 70) rfl rfl (by kernel_rfl) (fun _ _ _ h=>h) (by rfl) (by intro _ h;(try dsimp only at h);go_split_ands;go_simp<;>with_reducible rfl) hHeld0 ?_
 try simp only [aS,aN,aT,a0,a1]
 refine rd1 (i:=6) (by kernel_rfl) rfl fun K hK=>?_
 go_simp
 go_at_call 137
 refine (HR.out _ hV6.out.drew).mono ?_
 rintro e w1 ⟨rfl,b1⟩
 have da0:=hid (b1.cell hHeld0.1)
 have da1:=hid (b1.cell hHeld0.2.1)
 have da2:=hid (b1.cell hHeld0.2.2)
 replace b1:=hid b1
 go_wp2_with fail
 refine hK.out _ _ (⟨da0.out,da1.out,da2.out⟩) (fun hHeld1=>?_)
 try simp only [aS,aN,aT,a0,a1]
 refine rd1 (i:=7) (by kernel_rfl) rfl fun K hK=>?_
 go_simp
 go_at_call 138
 refine (HQ.out _).mono ?_
 rintro e w2 ⟨rfl,b2⟩
 have db0:=hid (b2.cell hHeld1.1)
 have db1:=hid (b2.cell hHeld1.2.1)
 have db2:=hid (b2.cell hHeld1.2.2)
 replace b2:=hid b2
 go_wp2_with fail
 refine hK.out _ _ (⟨db0.out,db1.out,db2.out⟩) (fun hHeld2=>?_)
 try simp only [aS,aN,aT,a0,a1]
 refine rd1 (i:=8) (by kernel_rfl) rfl fun K hK=>?_
 go_simp
 go_at_call 135
 refine (HK.out _ ((hV6.out.drew.trans b1.out).trans b2.out)).mono ?_
 rintro e w4 ⟨rfl,pq,K4⟩
 have K4:=hid (K4.at (Xp.new hB.out (lt_some (bl_blk (b1.out.trans b2.out) q6.out))) (bl_blk (b1.out.trans b2.out) q6.out))
 replace pq:=hid pq
 go_wp2_with fail
 refine hK.out _ _ (⟨(insC K4.out).2.1,(insC K4.out).2.2.1,(insC K4.out).2.2.2.1⟩) (fun hHeld3=>?_)
 try simp only [aS,aN,aT,a0,a1]
 refine wpAnyH_done (by kernel_rfl) ?_ _
 go_wp2
 go_end0
 exact pq.out
end
theorem holds_bl (c a:Int) (w:World) :
  Calls Tryz.prog 136 #[.int .i64 c,.int .i64 a] w fun e w'=>e=.returned (.bool (hldB c a))∧Bl w w':=by
 have hmf:∀(fn:Fn) (first cap:Array Value) (w:World),(Instr.makeFunc fn first cap).run Tryz.prog w=.ok (.func fn first cap) w:=fun _ _ _ _=>rfl
 go_enter Tryz.func136,Tryz.ntmps136
 go_wp2_with (first|(go_at_call 198;go_in)|(go_at_call 260;refine (ask_any c _ _ _ (by show _=_;go_simp)).mono ?_;rintro e w' ⟨rfl,rfl⟩))
 go_ret
 exact ⟨rfl,by repeat (first|exact Bl.refl _|apply Bl.drew|apply Bl.alloc|exact bl_drewN (Bl.refl _) _)⟩
theorem do_did {X:Nat→Prop} {wx w0:World} {g:Mg} {qs:List Qb} {a:Mc} {c:Cal} {h:Hp} {d:Did} {w':World} (hs:h.stops=false) (e:d.h=h.fin 6) (H:RS 1 X wx w0 g w' h qs a c):DoQ X wx w0 g qs a c d (stopE 6 0 0) w':=by
 have q:DidQ X wx w0 g qs a c d (stopE 6 0 0) w':=did_fin (stops_not hs).1 e H.less
 exact ⟨q.how,q.stop,fun z=>by rw [e,fin_stops hs] at z;exact absurd z (by decide)⟩
theorem do_go {X:Nat→Prop} {wx w0:World} {g:Mg} {qs:List Qb} {a:Mc} {c:Cal} {h:Hp} {d:Did} {w':World} (hs:h.stops=false) (e:d.h=h) (H:RX 1 X wx w0 g w' h qs a { d.c with pc:=d.nx }):DoQ X wx w0 g qs a c d (.returned (.tuple #[])) w':=by
 subst e
 obtain ⟨ho,ht⟩:=stops_not hs
 exact ⟨by unfold DidE;rw [if_neg (by rw [ho];decide),if_neg ht],fun z=>by rw [hs] at z;exact absurd z (by decide),fun _=>H.less⟩
theorem branch_kp {s:Nat} {X:Nat→Prop} {wx w0 w w':World} {g:Mg} {h:Hp} {qs:List Qb} {a:Mc} {c:Cal} (H:RX s X wx w0 g w h qs a c) (hb:Bl w w') (to:Int) (bb:Bool) (hp:0≤c.pc∧c.pc<9223372036854775807) :
  Calls Tryz.prog 135 #[.pointer (some ⟨a.q,0,none⟩),.int .i64 to,.bool bb] w' fun e w2=>e=.returned (.tuple #[])∧RX s X wx w0 g w2 h qs a { c with giv:=va0,cau:=va0,pc:=if bb=true then to else c.pc+1 }∧KpY (Xp noY w.heap.size w'.heap.size) w' w2:=by
 cases bb with
 | true =>
  refine (H.y.useY hb (fun X wx w H=>branch_yes s X wx w0 g h qs a c w H to)).mono ?_
  rintro e w2 ⟨rfl,H2,K2⟩
  exact ⟨rfl,H2.x,K2⟩
 | false =>
  refine (H.y.useY hb (fun X wx w H=>branch_no s X wx w0 g h qs a c w H to hp)).mono ?_
  rintro e w2 ⟨rfl,H2,K2⟩
  exact ⟨rfl,H2.x,K2⟩
theorem DidE_stop {d:Did} (hs:d.h.stops=true):∃ch,DidE d=.panicked ch:=by
 unfold Hp.stops at hs
 rw [Bool.or_eq_true] at hs
 unfold DidE
 split
 ·exact ⟨_,rfl⟩
 ·rename_i hn
  rw [if_pos (of_decide_eq_true (hs.resolve_left hn))]
  exact ⟨_,rfl⟩
theorem DidE_go {d:Did} (hs:d.h.stops=false):DidE d=.returned (.tuple #[]):=by
 obtain ⟨ho,ht⟩:=stops_not hs
 unfold DidE;rw [if_neg (by rw [ho];decide),if_neg ht]
theorem mdo_any (X:Nat→Prop) (wx w0:World) (g:Mg) (h:Hp) (qs:List Qb) (a:Mc) (c:Cal) (i:In) (ms:List Me) (rt:Int) (hin:nth in0 c.m.code c.pc.toNat=i) (hp:0≤c.pc∧c.pc<c.m.code.length) (w:World) (H:RX 1 X wx w0 g w h qs a c) (S:Has w0 g h c ms rt i) (h18:i.op≠18) (h20:i.op≠20) :
  Calls Tryz.prog 67 #[.pointer (some ⟨a.q,0,none⟩)] w fun e w'=>DoQ X wx w0 g qs a c (doesP h c i) e w':=by
 obtain ⟨cb,co,Q,q,A⟩:=H.ati hp
 rw [hin] at A
 obtain ⟨op,ia,ib,ic,ii,args⟩:=i
 dsimp only at h18 h20
 have hs:=S.hs
 have ho:=S.ho.1
 have hpb:0≤c.pc∧c.pc<9223372036854775807:=by have:=(smeP S.gc.me).2.2.2.2.2.1;omega
 have hc:=S.ok.c
 dsimp only at hc
 by_cases h10:op=10
 ·subst h10
  have hd:doesP h c ⟨10,ia,ib,ic,ii,args⟩=⟨h,c.clr,ia⟩:=rfl
  rw [hd]
  refine do_goto _ X wx w0 g h qs a c w H 10 ia ib ic ii args cb co Q q _ A rfl (fun w' hb=>(branch_yes 1 X wx w0 g h qs a c w' (H.bl hb) ia).mono ?_)
  rintro e w2 ⟨rfl,H2⟩
  exact ⟨rfl,do_go hs rfl H2⟩
 by_cases h11:op=11
 ·subst h11
  have hd:doesP h c ⟨11,ia,ib,ic,ii,args⟩=⟨h.rdH c ic 1,c.clr,if hldB ib (c.rd ic).n=true then ia else c.pc+1⟩:=rfl
  rw [hd]
  have hci:=S.reg (hc (by omega))
  by_cases e1:(c.rd ic).kind=1
  ·rw [rdH_yes e1]
   refine do_if_go _ X wx w0 g h qs a c w H 11 ia ib ic ii args cb co Q q _ A rfl (c.rd ic) (hldB ib (c.rd ic).n) (fun w' hb=>?_) (fun w'=>holds_bl ib (c.rd ic).n w') (fun w' hb=>(branch_kp H hb ia _ hpb).mono ?_)
   ·have:=rd_yes 1 X wx w0 g h qs a c ic 1 w' (H.bl hb) hci (by omega) (fun x=>by omega) e1
    rwa [im_num (by omega)] at this
   ·rintro e w2 ⟨rfl,H2,K2⟩
    exact ⟨rfl,do_go hs rfl H2,K2⟩
  ·rw [rdH_no e1]
   exact do_if_no _ X wx w0 g h qs a c w H 11 ia ib ic ii args cb co Q q _ A rfl (fun w' hb=>rd_no 1 X wx w0 g h qs a c ic 1 w' (H.bl hb) hci (by omega) (fun x=>by omega) e1) (fun w2 hb=>do_did hs rfl (H.bl hb).rs)
 by_cases h12:op=12
 ·subst h12
  have hd:doesP h c ⟨12,ia,ib,ic,ii,args⟩=⟨h.rdH c ic 3,c.clr,if (c.rd ic).n<0 then ia else c.pc+1⟩:=rfl
  rw [hd]
  have hci:=S.reg (hc (by omega))
  by_cases e1:(c.rd ic).kind=3
  ·rw [rdH_yes e1]
   have hv:=S.gd (hc (by omega)) e1
   refine do_ifnull_go _ X wx w0 g h qs a c w H 12 ia ib ic ii args cb co Q q _ A rfl (im (c.rd ic)) (decide ((c.rd ic).n<0)) (fun w' hb=>rd_yes 1 X wx w0 g h qs a c ic 3 w' (H.bl hb) hci (by omega) (fun x=>by omega) e1) (fun w'=>?_) (fun w' hb=>(branch_kp H hb ia _ hpb).mono ?_)
   ·have hN:isN (im (c.rd ic))=decide ((c.rd ic).n<0):=by
     by_cases hn:(c.rd ic).n<0
     ·rw [isN_yes e1 (by omega),decide_eq_true hn]
     ·rw [isN_no e1 (by omega),decide_eq_false hn]
    rw [←hN]
    exact isNothing_any _ _
   ·rintro e w2 ⟨rfl,H2,K2⟩
    refine ⟨rfl,do_go hs rfl ?_,K2⟩
    simp only [decide_eq_true_eq] at H2
    exact H2
  ·rw [rdH_no e1]
   exact do_ifnull_no _ X wx w0 g h qs a c w H 12 ia ib ic ii args cb co Q q _ A rfl (fun w' hb=>rd_no 1 X wx w0 g h qs a c ic 3 w' (H.bl hb) hci (by omega) (fun x=>by omega) e1) (fun w2 hb=>do_did hs rfl (H.bl hb).rs)
 have hw:∀w',Bl w w'→Calls Tryz.prog 142 #[.pointer (some ⟨a.q,0,none⟩),.agg #[.int .i64 op,.int .i64 ia,.int .i64 ib,.int .i64 ic,.int .i64 ii,.slice Q args.length q]] w' fun e w2=>DidQ X wx w0 g qs a c (doesP h c ⟨op,ia,ib,ic,ii,args⟩) e w2:=fun w' hb=>work_any X wx w0 g h qs a c op ia ib ic ii args ms rt Q args.length q w' (H.bl hb) S h10 h11 h12 h18 h20
 have hm:=does_m h c ⟨op,ia,ib,ic,ii,args⟩
 have hcau:=does_cau h c ⟨op,ia,ib,ic,ii,args⟩
 have hnx:=does_nx h c ⟨op,ia,ib,ic,ii,args⟩ h10 h11 h12
 generalize doesP h c ⟨op,ia,ib,ic,ii,args⟩=d at *
 cases hst:d.h.stops with
 | true =>
  obtain ⟨ch,he⟩:=DidE_stop hst
  refine do_work_no _ X wx w0 g h qs a c w H op ia ib ic ii args cb co Q q _ A h10 h11 h12 h18 h20 ch (fun w' hb=>(hw w' hb).mono ?_)
  intro e w2 q2
  exact ⟨q2.how.trans he,q2.how,q2.stop,fun z=>by rw [hst] at z;exact absurd z (by decide)⟩
 | false =>
  refine do_work_go _ X wx w0 g h qs a c w H op ia ib ic ii args cb co Q q _ A h10 h11 h12 h18 h20 d.h d.c.locs (fun w' hb=>(hw w' hb).mono ?_) (fun w2 H2=>?_)
  ·intro e w2 q2
   exact ⟨q2.how.trans (DidE_go hst),q2.go hst⟩
  ·refine ⟨(DidE_go hst).symm,fun z=>by rw [hst] at z;exact absurd z (by decide),fun _=>?_⟩
   have e:({ d.c with pc:=d.nx }:Cal)={ c with locs:=d.c.locs,giv:=va0,cau:=va0,pc:=c.pc+1 }:=by
    obtain ⟨m1,m2,m3⟩:=hm
    cases hdc:d.c
    rw [hdc] at m1 m2 m3 hcau
    dsimp only at m1 m2 m3 hcau ⊢
    rw [m1,m3,hcau,hnx]
   rw [e]
   exact H2

structure Kl where
 a:Mc
 c:Cal
 vs:Value
 l:List Va
def Kl.own (k:Kl) (b:Nat):Prop:=b=k.a.q∨b=k.a.lb∨k.vs.ownBlock=some b∨b=k.a.bx
def ownsL (L:List Kl) (b:Nat):Prop:=∃k∈L,k.own b
def KsAt (w0:World) (g:Mg) (w:World):List Kl→Prop
 | []=>True
 | k::L=>CA w0 g w k.a k.c k.l k.vs∧(∀b,ownsL L b→FarC k.a k.vs b)∧KsAt w0 g w L
def qsL (L:List Kl):List Qb:=(L.map (fun k=>k.a.qb)).reverse
def RR (s:Nat) (Z:Nat→Prop) (wx w0:World) (g:Mg) (w:World) (h:Hp) (L:List Kl):Prop:=∃vc vo vx,RH s w0 g w h (qsL L) vc vo vx∧KsAt w0 g w L∧(∀b,Z b→FarR g vc vo vx b)∧(∀b,Z b→∀k∈L,FarC k.a k.vs b)∧KeptX Z wx w
def andZ (L:List Kl) (Z:Nat→Prop) (b:Nat):Prop:=ownsL L b∨Z b
theorem CA.blks {w0 w:World} {g:Mg} {k:Kl} (H:CA w0 g w k.a k.c k.l k.vs) {b:Nat} (hb:k.own b):w0.heap.size≤b∧∃cs t,w.heap[b]?=some (.cells cs t (0,0))∧(t=119∨t=115∨t=108):=by
 rcases hb with rfl|rfl|hb|rfl
 ·exact ⟨H.own,_,_,H.blk,Or.inl rfl⟩
 ·exact ⟨H.ownl,_,_,H.loc,Or.inr (Or.inl rfl)⟩
 rotate_left 1
 ·exact ⟨H.ownb,_,_,H.box,Or.inr (Or.inr rfl)⟩
 ·rcases H.stk.2 with ⟨h0,-⟩|⟨gb,cap,cur,h1,h2,h3,-⟩
  ·rw [h0] at hb;simp [Value.ownBlock] at hb
  ·rw [h1] at hb
   simp [Value.ownBlock] at hb
   subst hb
   exact ⟨h2,_,_,h3,Or.inr (Or.inl rfl)⟩
theorem CA.farK {s:Nat} {w0 w:World} {g:Mg} {h:Hp} {qs:List Qb} {vc vo vx:Value} {k:Kl} (R:RH s w0 g w h qs vc vo vx) (H:CA w0 g w k.a k.c k.l k.vs) {b:Nat} (hb:k.own b):FarR g vc vo vx b:=by
 obtain ⟨-,cs,t,h1,ht⟩:=H.blks hb
 obtain ⟨n,D,F⟩:=R.fld
 refine ⟨blk_ne h1 R.run ?_,blk_ne h1 R.hp ?_,map_ne h1 F.own,own_far R.calls h1 ?_,own_far R.obs h1 ?_,own_far R.out h1 ?_⟩<;>rcases ht with rfl|rfl|rfl<;>decide
theorem CA.same {w0 w w':World} {g:Mg} {k:Kl} (H:CA w0 g w k.a k.c k.l k.vs) (hb:∀b,k.own b→w'.heap[b]?=w.heap[b]?):CA w0 g w' k.a k.c k.l k.vs:=by
 refine ⟨H.own,H.ownl,H.ownb,(hb _ (Or.inl rfl)).trans H.blk,(hb _ (Or.inr (Or.inr (Or.inr rfl)))).trans H.box,(hb _ (Or.inr (Or.inl rfl))).trans H.loc,H.rel,⟨H.stk.1,?_⟩,H.apart,H.me,H.short,H.kinds⟩
 rcases H.stk.2 with h0|⟨gb,cap,cur,h1,h2,h3,h4⟩
 ·exact Or.inl h0
 ·refine Or.inr ⟨gb,cap,cur,h1,h2,?_,h4⟩
  rw [hb gb (Or.inr (Or.inr (Or.inl (by rw [h1];rfl))))]
  exact h3
theorem KsAt.same {w0 w w':World} {g:Mg}:∀{L:List Kl},KsAt w0 g w L→(∀b,ownsL L b→w'.heap[b]?=w.heap[b]?)→KsAt w0 g w' L
 | [],_,_=>trivial
 | k::L,H,hb=>⟨H.1.same (fun b hk=>hb b ⟨k,List.mem_cons_self,hk⟩),H.2.1,KsAt.same H.2.2 (fun b ⟨x,hx,hk⟩=>hb b ⟨x,List.mem_cons_of_mem _ hx,hk⟩)⟩
theorem KsAt.blks {w0 w:World} {g:Mg}:∀{L:List Kl},KsAt w0 g w L→∀{b},ownsL L b→∃k∈L,k.own b∧CA w0 g w k.a k.c k.l k.vs
 | [],_,_,⟨x,hx,_⟩=>absurd hx (by simp)
 | k::L,H,b,⟨x,hx,hk⟩=>by
  rcases List.mem_cons.1 hx with rfl|hx
  ·exact ⟨x,List.mem_cons_self,hk,H.1⟩
  ·obtain ⟨y,hy,h1,h2⟩:=KsAt.blks H.2.2 ⟨x,hx,hk⟩
   exact ⟨y,List.mem_cons_of_mem _ hy,h1,h2⟩
theorem KsAt.lt {w0 w:World} {g:Mg} {L:List Kl} (H:KsAt w0 g w L) {b:Nat} (hb:ownsL L b):b<w.heap.size:=by
 obtain ⟨k,-,hk,hc⟩:=H.blks hb
 obtain ⟨-,cs,t,h1,-⟩:=hc.blks hk
 exact lt_some h1
theorem KsAt.kz {w0 w wx:World} {g:Mg} {L:List Kl} {Z:Nat→Prop} (H:KsAt w0 g w L) (K:KeptX Z wx w):KeptX (andZ L Z) w w :=
 ⟨Nat.le_refl _,fun b hb=>⟨hb.elim (fun z=>H.lt z) (fun z=>Nat.lt_of_lt_of_le (K.blk b z).1 K.size),rfl⟩⟩
theorem RR.top {s:Nat} {Z:Nat→Prop} {wx w0 w:World} {g:Mg} {h:Hp} {k:Kl} {L:List Kl} (H:RR s Z wx w0 g w h (k::L)):RX s (andZ L Z) w w0 g w h (qsL (k::L)) k.a k.c:=by
 obtain ⟨vc,vo,vx,R,⟨hc,hf,hl⟩,z1,z2,K⟩:=H
 refine ⟨vc,vo,vx,k.vs,k.l,R,hc,fun b hb=>?_,fun b hb=>?_,hl.kz K⟩
 ·rcases hb with hb|hb
  ·obtain ⟨y,-,hk,hy⟩:=hl.blks hb
   exact hy.farK R hk
  ·exact z1 b hb
 ·rcases hb with hb|hb
  ·exact hf b hb
  ·exact z2 b hb k List.mem_cons_self
theorem RR.hx {s:Nat} {Z:Nat→Prop} {wx w0 w:World} {g:Mg} {h:Hp} {L:List Kl} (H:RR s Z wx w0 g w h L):HX s (andZ L Z) w w0 g w h (qsL L):=by
 obtain ⟨vc,vo,vx,R,hl,z1,z2,K⟩:=H
 refine ⟨vc,vo,vx,R,fun b hb=>?_,hl.kz K⟩
 rcases hb with hb|hb
 ·obtain ⟨y,-,hk,hy⟩:=hl.blks hb
  exact hy.farK R hk
 ·exact z1 b hb
theorem KeptX.then {Z Z':Nat→Prop} {wx w w':World} (K:KeptX Z wx w) (K':KeptX Z' w w') (hz:∀b,Z b→Z' b):KeptX Z wx w':=⟨Nat.le_trans K.size K'.size,fun b hb=>⟨(K.blk b hb).1,((K'.blk b (hz b hb)).2).trans (K.blk b hb).2⟩⟩
theorem RR.of {s s':Nat} {Z:Nat→Prop} {wx w0 w w':World} {g:Mg} {h h':Hp} {k:Kl} {L:List Kl} {c:Cal} (H:RR s Z wx w0 g w h (k::L)) (H':RX s' (andZ L Z) w w0 g w' h' (qsL (k::L)) k.a c):∃vs l,RR s' Z wx w0 g w' h' (⟨k.a,c,vs,l⟩::L):=by
 obtain ⟨vc,vo,vx,R,⟨hc,hf,hl⟩,z1,z2,K⟩:=H
 obtain ⟨vc',vo',vx',vs,l,H'⟩:=H'
 refine ⟨vs,l,vc',vo',vx',H'.rh,⟨H'.ca,fun b hb=>H'.farc b (Or.inl hb),hl.same (fun b hb=>(H'.kept.blk b (Or.inl hb)).2)⟩,fun b hb=>H'.farr b (Or.inr hb),fun b hb y hy=>?_,K.then H'.kept (fun b hb=>Or.inr hb)⟩
 rcases List.mem_cons.1 hy with rfl|hy
 ·exact H'.farc b (Or.inr hb)
 ·exact z2 b hb y (List.mem_cons_of_mem _ hy)
theorem RR.ofx {s s':Nat} {Z:Nat→Prop} {wx w0 w w':World} {g:Mg} {h h':Hp} {L:List Kl} (H:RR s Z wx w0 g w h L) (H':HX s' (andZ L Z) w w0 g w' h' (qsL L)):RR s' Z wx w0 g w' h' L:=by
 obtain ⟨vc,vo,vx,R,hl,z1,z2,K⟩:=H
 obtain ⟨vc',vo',vx',R',f,K'⟩:=H'
 exact ⟨vc',vo',vx',R',hl.same (fun b hb=>(K'.blk b (Or.inl hb)).2),fun b hb=>f b (Or.inr hb),z2,K.then K' (fun b hb=>Or.inr hb)⟩
end Go.Proofs.YtgiiapenmjollabGreat
