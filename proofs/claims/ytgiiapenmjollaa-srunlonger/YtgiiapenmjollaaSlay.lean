import Derived.Test.YtgiiapenmjollaaSlax
namespace Go.Proofs.Ytgiiapenmjollaa
set_option linter.all false
set_option maxHeartbeats 40000000
open Go.RowKit
section
open Go.Maps (Keyed has)
set_option maxRecDepth 100000 in
theorem do_ifnull_no (X:Nat→Prop) (wx w0:World) (g:Mg) (h:Hp) (qs:List Nat) (a:Mc) (c:Cal) (w:World) (H:RX 1 X wx w0 g w h qs a c) (hs:h.stops=false) (op ia ib ic ii:Int) (args:List Int) (cb co:Nat) (Q:Option Addr) (q n:Nat) (A:AtI w a c ⟨op,ia,ib,ic,ii,args⟩ cb co Q q n) (hop:op=13) (d:Did) (hd:d.h=h.fin 6) (ht:c.stk=[]∨∃l v,c.stk=l++[v]∧v.kind≠3) :
  Calls Try.prog 66 #[.pointer (some ⟨a.q,0,none⟩)] w fun e w'=>DoQ X wx w0 g qs a c d e w':=by
 have HT:=hid ht
 have HDB:Hid (∀w',RS 1 X wx w0 g w' h qs a c→DoQ X wx w0 g qs a c d (stopE 6 0 0) w'):=fun w' H=>do_did hs hd H
 have HH:=hid H
 have HOP:=hid hop
 obtain ⟨c10,fz,c8,hq,hcl,hlt,HAP,hn0,hn1,hd0,HT8,fzn,fzm⟩:=dpm H A
 have e1:(op==11)=false:=by simp [hop]
 have e2:(op==12)=false:=by simp [hop]
 have e3:(op==13)=true:=by simp [hop]
 clear H hs A hop ht hd
 go_enter Try.func66,Try.ntmps66
 go_wp2
 go_quiet (fail)
 go_wp2
 refine wp_region_held_drew (S:=fun w'=>w'.cell? ⟨a.q,8,none⟩=some (.slice (some ⟨cb,co,none⟩) c.m.code.length a.c)∧w'.cell? ⟨a.q,10,none⟩=some (.int .i64 (n:Int))∧w'.cell? ⟨cb,co+n*6,none⟩=some (.int .i64 op)∧w'.cell? ⟨cb,co+n*6+1,none⟩=some (.int .i64 ia)∧w'.cell? ⟨cb,co+n*6+2,none⟩=some (.int .i64 ib)∧w'.cell? ⟨cb,co+n*6+3,none⟩=some (.int .i64 ic)∧w'.cell? ⟨cb,co+n*6+4,none⟩=some (.int .i64 ii)∧w'.cell? ⟨cb,co+n*6+5,none⟩=some (.slice Q args.length q)) (by kernel_rfl) ?_ (fun hHeld0=>?_)
 ·exact HT8.out _ (bl_drewN (Bl.refl w) _).drew
 refine tk (i:=0) (d:=some 15) rfl rfl (by kernel_rfl) (fun _ _ _ h=>h) (by rfl) (by intro _ h;(try dsimp only at h);go_split_ands;go_simp<;>with_reducible rfl) hHeld0 ?_
 try simp only [aS,aN,aT,a0,a1]
 refine tk (i:=1) (d:=some 16) rfl rfl (by kernel_rfl) (fun _ _ _ h=>h) (by rfl) (by intro _ h;(try dsimp only at h);go_split_ands;go_simp<;>with_reducible rfl) hHeld0 ?_
 try simp only [aS,aN,aT,a0,a1]
 refine tk (i:=2) (d:=some 17) rfl rfl (by kernel_rfl) (fun _ _ _ h=>h) (by rfl) (by intro _ h;(try dsimp only at h);go_split_ands;go_simp<;>with_reducible rfl) hHeld0 ?_
 try simp only [aS,aN,aT,a0,a1]
 refine tk (i:=3) (d:=some 18) rfl rfl (by kernel_rfl) (fun _ _ _ h=>h) (by rfl) (by intro _ h;(try dsimp only at h);go_split_ands;go_simp<;>with_reducible rfl) hHeld0 ?_
 try simp only [aS,aN,aT,a0,a1]
 refine tk (i:=4) (d:=some 19) rfl rfl (by kernel_rfl) (fun _ _ _ h=>h) (by rfl) (by intro _ h;(try dsimp only at h);go_split_ands;go_simp<;>with_reducible rfl) hHeld0 ?_
 try simp only [aS,aN,aT,a0,a1]
 refine tk (i:=5) (d:=some 20) rfl rfl (by kernel_rfl) (fun _ _ _ h=>h) (by rfl) (by intro _ h;(try dsimp only at h);go_split_ands;go_simp<;>with_reducible rfl) hHeld0 ?_
 try simp only [aS,aN,aT,a0,a1]
 refine tk (i:=6) (d:=some 21) rfl rfl (by kernel_rfl) (fun _ _ _ h=>h) (by rfl) (by intro _ h;(try dsimp only at h);go_split_ands;go_simp<;>with_reducible rfl) hHeld0 ?_
 try simp only [aS,aN,aT,a0,a1]
 refine tk (i:=7) (d:=some 22) rfl rfl (by kernel_rfl) (fun _ _ _ h=>h) (by rfl) (by intro _ h;(try dsimp only at h);go_split_ands;go_simp<;>with_reducible rfl) hHeld0 ?_
 try simp only [aS,aN,aT,a0,a1]
 refine tk (i:=8) (d:=some 23) rfl rfl (by kernel_rfl) (fun _ _ _ h=>h) (by rfl) (by intro _ h;(try dsimp only at h);go_split_ands;go_simp<;>with_reducible rfl) hHeld0 ?_
 try simp only [aS,aN,aT,a0,a1]
 refine tk (i:=9) (d:=some 24) rfl rfl (by kernel_rfl) (fun _ _ _ h=>h) (by rfl) (by intro _ h;(try dsimp only at h);go_split_ands;go_simp<;>with_reducible rfl) hHeld0 ?_
 try simp only [aS,aN,aT,a0,a1]
 refine tk (i:=10) (d:=some 25) rfl rfl (by kernel_rfl) (fun _ _ _ h=>h) (by rfl) (by intro _ h;(try dsimp only at h);go_split_ands;go_simp<;>with_reducible rfl) hHeld0 ?_
 try simp only [aS,aN,aT,a0,a1]
 refine rd1 (i:=11) (by kernel_rfl) rfl fun K hK=>?_
 go_wp2_with fail
 refine hK.out _ _ (HT8.out _ ((bl_drewN (Bl.refl w) _).alloc _)) (fun hHeld1=>?_)
 try simp only [aS,aN,aT,a0,a1]
 refine rd1 (i:=12) (by kernel_rfl) rfl fun K hK=>?_
 obtain ⟨B,hBB⟩:∃B,B=w.heap.size:=⟨_,rfl⟩
 obtain ⟨hVb,v0,v1,v2,v3,v4,v5,fzV,qB,hB⟩:=insN w (nq+1) B hBB
 simp only [←hBB]
 clear hHeld1 hBB
 generalize (w.drewN (nq+1)).alloc (.cells #[.int .i64 0,.int .i64 0,.int .i64 0,.int .i64 0,.int .i64 0,.slice none 0 0] 51)=V at *
 go_wp2_with fail
 obtain ⟨hV6,ZZ,q6⟩:=insS hVb hB v0 v1 v2 v3 v4 v5 fzV qB (.int .i64 op) (.int .i64 ia) (.int .i64 ib) (.int .i64 ic) (.int .i64 ii) (.slice Q args.length q)
 generalize (((((V.setCell ⟨B,0,none⟩ (.int .i64 op)).setCell ⟨B,1,none⟩ (.int .i64 ia)).setCell ⟨B,2,none⟩ (.int .i64 ib)).setCell ⟨B,3,none⟩ (.int .i64 ic)).setCell ⟨B,4,none⟩ (.int .i64 ii)).setCell ⟨B,5,none⟩ (.slice Q args.length q)=V6 at *
 refine hK.out _ _ (HT8.out _ hV6.out) (fun hHeld2=>?_)
 clear v0 v1 v2 v3 v4 v5 fzV hVb qB V
 obtain ⟨z0,z1,z2,z3,z4,z5,fz6⟩:=ZZ.out
 try simp only [aS,aN,aT,a0,a1]
 refine wpAnyH_done (by kernel_rfl) ?_ _
 go_wp2
 refine wp_region_held_drew (S:=fun w'=>w'.cell? ⟨B,1,none⟩=some (.int .i64 ia)∧w'.cell? ⟨B,2,none⟩=some (.int .i64 ib)) (by kernel_rfl) ?_ (fun hHeld0=>?_)
 ·exact ⟨z1,z2⟩
 refine tk (i:=0) (d:=some 59) rfl rfl (by kernel_rfl) (fun _ _ _ h=>h) (by rfl) (by intro _ h;(try dsimp only at h);go_split_ands;go_simp<;>with_reducible rfl) hHeld0 ?_
 try simp only [aS,aN,aT,a0,a1]
 refine tk (i:=1) (d:=some 60) rfl rfl (by kernel_rfl) (fun _ _ _ h=>h) (by rfl) (by intro _ h;(try dsimp only at h);go_split_ands;go_simp<;>with_reducible rfl) hHeld0 ?_
 try simp only [aS,aN,aT,a0,a1]
 refine tk (i:=2) (d:=some 61) rfl rfl (by kernel_rfl) (fun _ _ _ h=>h) (by rfl) (by intro _ h;(try dsimp only at h);go_split_ands;go_simp<;>with_reducible rfl) hHeld0 ?_
 try simp only [aS,aN,aT,a0,a1]
 refine tk (i:=3) (d:=some 62) rfl rfl (by kernel_rfl) (fun _ _ _ h=>h) (by rfl) (by intro _ h;(try dsimp only at h);go_split_ands;go_simp<;>with_reducible rfl) hHeld0 ?_
 try simp only [aS,aN,aT,a0,a1]
 refine rd1 (i:=4) (by kernel_rfl) rfl fun K hK=>?_
 go_simp
 go_at_call 89
 refine (HH.out.y.useN hV6.out.drew (fun X wx w H=>takeKind_no 1 X wx w0 g h qs a c 3 w H HT.out)).mono ?_
 rintro e w1 ⟨rfl,H1⟩
 exact ⟨rfl,HDB.out _ H1⟩
set_option maxRecDepth 100000 in
theorem do_ifnull_go (X:Nat→Prop) (wx w0:World) (g:Mg) (h:Hp) (qs:List Nat) (a:Mc) (c:Cal) (w:World) (H:RX 1 X wx w0 g w h qs a c) (hs:h.stops=false) (op ia ib ic ii:Int) (args:List Int) (cb co:Nat) (Q:Option Addr) (q n:Nat) (A:AtI w a c ⟨op,ia,ib,ic,ii,args⟩ cb co Q q n) (hop:op=13) (d:Did) (l:List Va) (v:Va) (h0:c.stk=l++[v]) (hv:v.kind=3) (hb:isN (im v)=true) (hd:d.h=h) (hc:{ d.c with pc:=d.nx }={ { c with stk:=l } with pc:=ia }) :
  Calls Try.prog 66 #[.pointer (some ⟨a.q,0,none⟩)] w fun e w'=>DoQ X wx w0 g qs a c d e w':=by
 have H0:=hid h0
 have HV:=hid hv
 have HBL:=hid hb
 skip
 skip
 have HPC:Hid (0≤c.pc∧c.pc<9223372036854775807):=by have h1:=A.pc;have h2:=A.lt;have h3:=A.len;unfold maxLen at h3;exact ⟨by omega,by omega⟩
 have HDB:Hid (∀w',RX 1 X wx w0 g w' h qs a { { c with stk:=l } with pc:=ia }→DoQ X wx w0 g qs a c d (.returned (.tuple #[])) w'):=fun w' H=>do_go hs hd (hc▸H)
 have HH:=hid H
 have HOP:=hid hop
 obtain ⟨c10,fz,c8,hq,hcl,hlt,HAP,hn0,hn1,hd0,HT8,fzn,fzm⟩:=dpm H A
 have e1:(op==11)=false:=by simp [hop]
 have e2:(op==12)=false:=by simp [hop]
 have e3:(op==13)=true:=by simp [hop]
 clear H hs A hop h0 hv hb hd hc
 go_enter Try.func66,Try.ntmps66
 go_wp2
 go_quiet (fail)
 go_wp2
 refine wp_region_held_drew (S:=fun w'=>w'.cell? ⟨a.q,8,none⟩=some (.slice (some ⟨cb,co,none⟩) c.m.code.length a.c)∧w'.cell? ⟨a.q,10,none⟩=some (.int .i64 (n:Int))∧w'.cell? ⟨cb,co+n*6,none⟩=some (.int .i64 op)∧w'.cell? ⟨cb,co+n*6+1,none⟩=some (.int .i64 ia)∧w'.cell? ⟨cb,co+n*6+2,none⟩=some (.int .i64 ib)∧w'.cell? ⟨cb,co+n*6+3,none⟩=some (.int .i64 ic)∧w'.cell? ⟨cb,co+n*6+4,none⟩=some (.int .i64 ii)∧w'.cell? ⟨cb,co+n*6+5,none⟩=some (.slice Q args.length q)) (by kernel_rfl) ?_ (fun hHeld0=>?_)
 ·exact HT8.out _ (bl_drewN (Bl.refl w) _).drew
 refine tk (i:=0) (d:=some 15) rfl rfl (by kernel_rfl) (fun _ _ _ h=>h) (by rfl) (by intro _ h;(try dsimp only at h);go_split_ands;go_simp<;>with_reducible rfl) hHeld0 ?_
 try simp only [aS,aN,aT,a0,a1]
 refine tk (i:=1) (d:=some 16) rfl rfl (by kernel_rfl) (fun _ _ _ h=>h) (by rfl) (by intro _ h;(try dsimp only at h);go_split_ands;go_simp<;>with_reducible rfl) hHeld0 ?_
 try simp only [aS,aN,aT,a0,a1]
 refine tk (i:=2) (d:=some 17) rfl rfl (by kernel_rfl) (fun _ _ _ h=>h) (by rfl) (by intro _ h;(try dsimp only at h);go_split_ands;go_simp<;>with_reducible rfl) hHeld0 ?_
 try simp only [aS,aN,aT,a0,a1]
 refine tk (i:=3) (d:=some 18) rfl rfl (by kernel_rfl) (fun _ _ _ h=>h) (by rfl) (by intro _ h;(try dsimp only at h);go_split_ands;go_simp<;>with_reducible rfl) hHeld0 ?_
 try simp only [aS,aN,aT,a0,a1]
 refine tk (i:=4) (d:=some 19) rfl rfl (by kernel_rfl) (fun _ _ _ h=>h) (by rfl) (by intro _ h;(try dsimp only at h);go_split_ands;go_simp<;>with_reducible rfl) hHeld0 ?_
 try simp only [aS,aN,aT,a0,a1]
 refine tk (i:=5) (d:=some 20) rfl rfl (by kernel_rfl) (fun _ _ _ h=>h) (by rfl) (by intro _ h;(try dsimp only at h);go_split_ands;go_simp<;>with_reducible rfl) hHeld0 ?_
 try simp only [aS,aN,aT,a0,a1]
 refine tk (i:=6) (d:=some 21) rfl rfl (by kernel_rfl) (fun _ _ _ h=>h) (by rfl) (by intro _ h;(try dsimp only at h);go_split_ands;go_simp<;>with_reducible rfl) hHeld0 ?_
 try simp only [aS,aN,aT,a0,a1]
 refine tk (i:=7) (d:=some 22) rfl rfl (by kernel_rfl) (fun _ _ _ h=>h) (by rfl) (by intro _ h;(try dsimp only at h);go_split_ands;go_simp<;>with_reducible rfl) hHeld0 ?_
 try simp only [aS,aN,aT,a0,a1]
 refine tk (i:=8) (d:=some 23) rfl rfl (by kernel_rfl) (fun _ _ _ h=>h) (by rfl) (by intro _ h;(try dsimp only at h);go_split_ands;go_simp<;>with_reducible rfl) hHeld0 ?_
 try simp only [aS,aN,aT,a0,a1]
 refine tk (i:=9) (d:=some 24) rfl rfl (by kernel_rfl) (fun _ _ _ h=>h) (by rfl) (by intro _ h;(try dsimp only at h);go_split_ands;go_simp<;>with_reducible rfl) hHeld0 ?_
 try simp only [aS,aN,aT,a0,a1]
 refine tk (i:=10) (d:=some 25) rfl rfl (by kernel_rfl) (fun _ _ _ h=>h) (by rfl) (by intro _ h;(try dsimp only at h);go_split_ands;go_simp<;>with_reducible rfl) hHeld0 ?_
 try simp only [aS,aN,aT,a0,a1]
 refine rd1 (i:=11) (by kernel_rfl) rfl fun K hK=>?_
 go_wp2_with fail
 refine hK.out _ _ (HT8.out _ ((bl_drewN (Bl.refl w) _).alloc _)) (fun hHeld1=>?_)
 try simp only [aS,aN,aT,a0,a1]
 refine rd1 (i:=12) (by kernel_rfl) rfl fun K hK=>?_
 obtain ⟨B,hBB⟩:∃B,B=w.heap.size:=⟨_,rfl⟩
 obtain ⟨hVb,v0,v1,v2,v3,v4,v5,fzV,qB,hB⟩:=insN w (nq+1) B hBB
 simp only [←hBB]
 clear hHeld1 hBB
 generalize (w.drewN (nq+1)).alloc (.cells #[.int .i64 0,.int .i64 0,.int .i64 0,.int .i64 0,.int .i64 0,.slice none 0 0] 51)=V at *
 go_wp2_with fail
 obtain ⟨hV6,ZZ,q6⟩:=insS hVb hB v0 v1 v2 v3 v4 v5 fzV qB (.int .i64 op) (.int .i64 ia) (.int .i64 ib) (.int .i64 ic) (.int .i64 ii) (.slice Q args.length q)
 generalize (((((V.setCell ⟨B,0,none⟩ (.int .i64 op)).setCell ⟨B,1,none⟩ (.int .i64 ia)).setCell ⟨B,2,none⟩ (.int .i64 ib)).setCell ⟨B,3,none⟩ (.int .i64 ic)).setCell ⟨B,4,none⟩ (.int .i64 ii)).setCell ⟨B,5,none⟩ (.slice Q args.length q)=V6 at *
 refine hK.out _ _ (HT8.out _ hV6.out) (fun hHeld2=>?_)
 clear v0 v1 v2 v3 v4 v5 fzV hVb qB V
 obtain ⟨z0,z1,z2,z3,z4,z5,fz6⟩:=ZZ.out
 try simp only [aS,aN,aT,a0,a1]
 refine wpAnyH_done (by kernel_rfl) ?_ _
 go_wp2
 refine wp_region_held_drew (S:=fun w'=>w'.cell? ⟨B,1,none⟩=some (.int .i64 ia)∧w'.cell? ⟨B,2,none⟩=some (.int .i64 ib)) (by kernel_rfl) ?_ (fun hHeld0=>?_)
 ·exact ⟨z1,z2⟩
 refine tk (i:=0) (d:=some 59) rfl rfl (by kernel_rfl) (fun _ _ _ h=>h) (by rfl) (by intro _ h;(try dsimp only at h);go_split_ands;go_simp<;>with_reducible rfl) hHeld0 ?_
 try simp only [aS,aN,aT,a0,a1]
 refine tk (i:=1) (d:=some 60) rfl rfl (by kernel_rfl) (fun _ _ _ h=>h) (by rfl) (by intro _ h;(try dsimp only at h);go_split_ands;go_simp<;>with_reducible rfl) hHeld0 ?_
 try simp only [aS,aN,aT,a0,a1]
 refine tk (i:=2) (d:=some 61) rfl rfl (by kernel_rfl) (fun _ _ _ h=>h) (by rfl) (by intro _ h;(try dsimp only at h);go_split_ands;go_simp<;>with_reducible rfl) hHeld0 ?_
 try simp only [aS,aN,aT,a0,a1]
 refine tk (i:=3) (d:=some 62) rfl rfl (by kernel_rfl) (fun _ _ _ h=>h) (by rfl) (by intro _ h;(try dsimp only at h);go_split_ands;go_simp<;>with_reducible rfl) hHeld0 ?_
 try simp only [aS,aN,aT,a0,a1]
 refine rd1 (i:=4) (by kernel_rfl) rfl fun K hK=>?_
 go_simp
 go_at_call 89
 refine (HH.out.y.useY hV6.out.drew (fun X wx w H=>takeKind_yes 1 X wx w0 g h qs a c l v 3 w H H0.out HV.out)).mono ?_
 rintro e w1 ⟨he,H1,K1⟩
 skip
 subst he
 have hbx:=K1.at (Xp.new hB.out (lt_some q6.out)) q6.out
 have d1:=hid (ins_of hbx).1
 have d2:=hid (ins_of hbx).2
 replace H1:=hid H1
 replace hbx:=hid hbx
 clear K1
 go_wp2_with fail
 refine hK.out _ _ (⟨d1.out,d2.out⟩) (fun hHeld1=>?_)
 try simp only [aS,aN,aT,a0,a1]
 refine rd1 (i:=5) (by kernel_rfl) rfl fun K hK=>?_
 go_simp
 go_at_call 90
 refine (isNothing_any (im v) _).mono ?_
 rintro e w2 ⟨he,b2⟩
 rw [HBL.out] at he
 subst he
 have hby:=bl_blk b2 hbx.out
 have f1:=hid (ins_of hby).1
 have f2:=hid (ins_of hby).2
 replace b2:=hid b2
 replace hby:=hid hby
 go_wp2_with fail
 refine hK.out _ _ (⟨f1.out,f2.out⟩) (fun hHeld2=>?_)
 try simp only [aS,aN,aT,a0,a1]
 refine rd1 (i:=6) (by kernel_rfl) rfl fun K hK=>?_
 go_simp
 go_at_call 88
 refine ((H1.out.bl b2.out).useY (Bl.refl _) (fun X wx w H=>branch_yes 1 X wx w0 g h qs a { c with stk:=l } w H ia)).mono ?_
 rintro e w3 ⟨rfl,H3,K3⟩
 have hbz:=K3.at (Xp.old (Xp.old (Xp.new hB.out (lt_some q6.out)))) hby.out
 have j1:=hid (ins_of hbz).1
 have j2:=hid (ins_of hbz).2
 replace H3:=hid H3
 replace hbz:=hid hbz
 clear K3
 go_wp2_with fail
 refine hK.out _ _ (⟨j1.out,j2.out⟩) (fun hHeld3=>?_)
 try simp only [aS,aN,aT,a0,a1]
 refine wpAnyH_done (by kernel_rfl) ?_ _
 go_wp2
 go_end0
 exact HDB.out _ H3.out.x
set_option maxRecDepth 100000 in
theorem do_ifnull_on (X:Nat→Prop) (wx w0:World) (g:Mg) (h:Hp) (qs:List Nat) (a:Mc) (c:Cal) (w:World) (H:RX 1 X wx w0 g w h qs a c) (hs:h.stops=false) (op ia ib ic ii:Int) (args:List Int) (cb co:Nat) (Q:Option Addr) (q n:Nat) (A:AtI w a c ⟨op,ia,ib,ic,ii,args⟩ cb co Q q n) (hop:op=13) (d:Did) (l:List Va) (v:Va) (h0:c.stk=l++[v]) (hv:v.kind=3) (hb:isN (im v)=false) (hd:d.h=h) (hc:{ d.c with pc:=d.nx }={ { c with stk:=l } with pc:=c.pc+1 }) :
  Calls Try.prog 66 #[.pointer (some ⟨a.q,0,none⟩)] w fun e w'=>DoQ X wx w0 g qs a c d e w':=by
 have H0:=hid h0
 have HV:=hid hv
 have HBL:=hid hb
 skip
 skip
 have HPC:Hid (0≤c.pc∧c.pc<9223372036854775807):=by have h1:=A.pc;have h2:=A.lt;have h3:=A.len;unfold maxLen at h3;exact ⟨by omega,by omega⟩
 have HDB:Hid (∀w',RX 1 X wx w0 g w' h qs a { { c with stk:=l } with pc:=c.pc+1 }→DoQ X wx w0 g qs a c d (.returned (.tuple #[])) w'):=fun w' H=>do_go hs hd (hc▸H)
 have HH:=hid H
 have HOP:=hid hop
 obtain ⟨c10,fz,c8,hq,hcl,hlt,HAP,hn0,hn1,hd0,HT8,fzn,fzm⟩:=dpm H A
 have e1:(op==11)=false:=by simp [hop]
 have e2:(op==12)=false:=by simp [hop]
 have e3:(op==13)=true:=by simp [hop]
 clear H hs A hop h0 hv hb hd hc
 go_enter Try.func66,Try.ntmps66
 go_wp2
 go_quiet (fail)
 go_wp2
 refine wp_region_held_drew (S:=fun w'=>w'.cell? ⟨a.q,8,none⟩=some (.slice (some ⟨cb,co,none⟩) c.m.code.length a.c)∧w'.cell? ⟨a.q,10,none⟩=some (.int .i64 (n:Int))∧w'.cell? ⟨cb,co+n*6,none⟩=some (.int .i64 op)∧w'.cell? ⟨cb,co+n*6+1,none⟩=some (.int .i64 ia)∧w'.cell? ⟨cb,co+n*6+2,none⟩=some (.int .i64 ib)∧w'.cell? ⟨cb,co+n*6+3,none⟩=some (.int .i64 ic)∧w'.cell? ⟨cb,co+n*6+4,none⟩=some (.int .i64 ii)∧w'.cell? ⟨cb,co+n*6+5,none⟩=some (.slice Q args.length q)) (by kernel_rfl) ?_ (fun hHeld0=>?_)
 ·exact HT8.out _ (bl_drewN (Bl.refl w) _).drew
 refine tk (i:=0) (d:=some 15) rfl rfl (by kernel_rfl) (fun _ _ _ h=>h) (by rfl) (by intro _ h;(try dsimp only at h);go_split_ands;go_simp<;>with_reducible rfl) hHeld0 ?_
 try simp only [aS,aN,aT,a0,a1]
 refine tk (i:=1) (d:=some 16) rfl rfl (by kernel_rfl) (fun _ _ _ h=>h) (by rfl) (by intro _ h;(try dsimp only at h);go_split_ands;go_simp<;>with_reducible rfl) hHeld0 ?_
 try simp only [aS,aN,aT,a0,a1]
 refine tk (i:=2) (d:=some 17) rfl rfl (by kernel_rfl) (fun _ _ _ h=>h) (by rfl) (by intro _ h;(try dsimp only at h);go_split_ands;go_simp<;>with_reducible rfl) hHeld0 ?_
 try simp only [aS,aN,aT,a0,a1]
 refine tk (i:=3) (d:=some 18) rfl rfl (by kernel_rfl) (fun _ _ _ h=>h) (by rfl) (by intro _ h;(try dsimp only at h);go_split_ands;go_simp<;>with_reducible rfl) hHeld0 ?_
 try simp only [aS,aN,aT,a0,a1]
 refine tk (i:=4) (d:=some 19) rfl rfl (by kernel_rfl) (fun _ _ _ h=>h) (by rfl) (by intro _ h;(try dsimp only at h);go_split_ands;go_simp<;>with_reducible rfl) hHeld0 ?_
 try simp only [aS,aN,aT,a0,a1]
 refine tk (i:=5) (d:=some 20) rfl rfl (by kernel_rfl) (fun _ _ _ h=>h) (by rfl) (by intro _ h;(try dsimp only at h);go_split_ands;go_simp<;>with_reducible rfl) hHeld0 ?_
 try simp only [aS,aN,aT,a0,a1]
 refine tk (i:=6) (d:=some 21) rfl rfl (by kernel_rfl) (fun _ _ _ h=>h) (by rfl) (by intro _ h;(try dsimp only at h);go_split_ands;go_simp<;>with_reducible rfl) hHeld0 ?_
 try simp only [aS,aN,aT,a0,a1]
 refine tk (i:=7) (d:=some 22) rfl rfl (by kernel_rfl) (fun _ _ _ h=>h) (by rfl) (by intro _ h;(try dsimp only at h);go_split_ands;go_simp<;>with_reducible rfl) hHeld0 ?_
 try simp only [aS,aN,aT,a0,a1]
 refine tk (i:=8) (d:=some 23) rfl rfl (by kernel_rfl) (fun _ _ _ h=>h) (by rfl) (by intro _ h;(try dsimp only at h);go_split_ands;go_simp<;>with_reducible rfl) hHeld0 ?_
 try simp only [aS,aN,aT,a0,a1]
 refine tk (i:=9) (d:=some 24) rfl rfl (by kernel_rfl) (fun _ _ _ h=>h) (by rfl) (by intro _ h;(try dsimp only at h);go_split_ands;go_simp<;>with_reducible rfl) hHeld0 ?_
 try simp only [aS,aN,aT,a0,a1]
 refine tk (i:=10) (d:=some 25) rfl rfl (by kernel_rfl) (fun _ _ _ h=>h) (by rfl) (by intro _ h;(try dsimp only at h);go_split_ands;go_simp<;>with_reducible rfl) hHeld0 ?_
 try simp only [aS,aN,aT,a0,a1]
 refine rd1 (i:=11) (by kernel_rfl) rfl fun K hK=>?_
 go_wp2_with fail
 refine hK.out _ _ (HT8.out _ ((bl_drewN (Bl.refl w) _).alloc _)) (fun hHeld1=>?_)
 try simp only [aS,aN,aT,a0,a1]
 refine rd1 (i:=12) (by kernel_rfl) rfl fun K hK=>?_
 obtain ⟨B,hBB⟩:∃B,B=w.heap.size:=⟨_,rfl⟩
 obtain ⟨hVb,v0,v1,v2,v3,v4,v5,fzV,qB,hB⟩:=insN w (nq+1) B hBB
 simp only [←hBB]
 clear hHeld1 hBB
 generalize (w.drewN (nq+1)).alloc (.cells #[.int .i64 0,.int .i64 0,.int .i64 0,.int .i64 0,.int .i64 0,.slice none 0 0] 51)=V at *
 go_wp2_with fail
 obtain ⟨hV6,ZZ,q6⟩:=insS hVb hB v0 v1 v2 v3 v4 v5 fzV qB (.int .i64 op) (.int .i64 ia) (.int .i64 ib) (.int .i64 ic) (.int .i64 ii) (.slice Q args.length q)
 generalize (((((V.setCell ⟨B,0,none⟩ (.int .i64 op)).setCell ⟨B,1,none⟩ (.int .i64 ia)).setCell ⟨B,2,none⟩ (.int .i64 ib)).setCell ⟨B,3,none⟩ (.int .i64 ic)).setCell ⟨B,4,none⟩ (.int .i64 ii)).setCell ⟨B,5,none⟩ (.slice Q args.length q)=V6 at *
 refine hK.out _ _ (HT8.out _ hV6.out) (fun hHeld2=>?_)
 clear v0 v1 v2 v3 v4 v5 fzV hVb qB V
 obtain ⟨z0,z1,z2,z3,z4,z5,fz6⟩:=ZZ.out
 try simp only [aS,aN,aT,a0,a1]
 refine wpAnyH_done (by kernel_rfl) ?_ _
 go_wp2
 refine wp_region_held_drew (S:=fun w'=>w'.cell? ⟨B,1,none⟩=some (.int .i64 ia)∧w'.cell? ⟨B,2,none⟩=some (.int .i64 ib)) (by kernel_rfl) ?_ (fun hHeld0=>?_)
 ·exact ⟨z1,z2⟩
 refine tk (i:=0) (d:=some 59) rfl rfl (by kernel_rfl) (fun _ _ _ h=>h) (by rfl) (by intro _ h;(try dsimp only at h);go_split_ands;go_simp<;>with_reducible rfl) hHeld0 ?_
 try simp only [aS,aN,aT,a0,a1]
 refine tk (i:=1) (d:=some 60) rfl rfl (by kernel_rfl) (fun _ _ _ h=>h) (by rfl) (by intro _ h;(try dsimp only at h);go_split_ands;go_simp<;>with_reducible rfl) hHeld0 ?_
 try simp only [aS,aN,aT,a0,a1]
 refine tk (i:=2) (d:=some 61) rfl rfl (by kernel_rfl) (fun _ _ _ h=>h) (by rfl) (by intro _ h;(try dsimp only at h);go_split_ands;go_simp<;>with_reducible rfl) hHeld0 ?_
 try simp only [aS,aN,aT,a0,a1]
 refine tk (i:=3) (d:=some 62) rfl rfl (by kernel_rfl) (fun _ _ _ h=>h) (by rfl) (by intro _ h;(try dsimp only at h);go_split_ands;go_simp<;>with_reducible rfl) hHeld0 ?_
 try simp only [aS,aN,aT,a0,a1]
 refine rd1 (i:=4) (by kernel_rfl) rfl fun K hK=>?_
 go_simp
 go_at_call 89
 refine (HH.out.y.useY hV6.out.drew (fun X wx w H=>takeKind_yes 1 X wx w0 g h qs a c l v 3 w H H0.out HV.out)).mono ?_
 rintro e w1 ⟨he,H1,K1⟩
 skip
 subst he
 have hbx:=K1.at (Xp.new hB.out (lt_some q6.out)) q6.out
 have d1:=hid (ins_of hbx).1
 have d2:=hid (ins_of hbx).2
 replace H1:=hid H1
 replace hbx:=hid hbx
 clear K1
 go_wp2_with fail
 refine hK.out _ _ (⟨d1.out,d2.out⟩) (fun hHeld1=>?_)
 try simp only [aS,aN,aT,a0,a1]
 refine rd1 (i:=5) (by kernel_rfl) rfl fun K hK=>?_
 go_simp
 go_at_call 90
 refine (isNothing_any (im v) _).mono ?_
 rintro e w2 ⟨he,b2⟩
 rw [HBL.out] at he
 subst he
 have hby:=bl_blk b2 hbx.out
 have f1:=hid (ins_of hby).1
 have f2:=hid (ins_of hby).2
 replace b2:=hid b2
 replace hby:=hid hby
 go_wp2_with fail
 refine hK.out _ _ (⟨f1.out,f2.out⟩) (fun hHeld2=>?_)
 try simp only [aS,aN,aT,a0,a1]
 refine rd1 (i:=6) (by kernel_rfl) rfl fun K hK=>?_
 go_simp
 go_at_call 88
 refine ((H1.out.bl b2.out).useY (Bl.refl _) (fun X wx w H=>branch_no 1 X wx w0 g h qs a { c with stk:=l } w H ia HPC.out)).mono ?_
 rintro e w3 ⟨rfl,H3,K3⟩
 have hbz:=K3.at (Xp.old (Xp.old (Xp.new hB.out (lt_some q6.out)))) hby.out
 have j1:=hid (ins_of hbz).1
 have j2:=hid (ins_of hbz).2
 replace H3:=hid H3
 replace hbz:=hid hbz
 clear K3
 go_wp2_with fail
 refine hK.out _ _ (⟨j1.out,j2.out⟩) (fun hHeld3=>?_)
 try simp only [aS,aN,aT,a0,a1]
 refine wpAnyH_done (by kernel_rfl) ?_ _
 go_wp2
 go_end0
 exact HDB.out _ H3.out.x
end
theorem RXY.c34 {s:Nat} {X Y:Nat→Prop} {wx w0 w:World} {g:Mg} {h:Hp} {qs:List Nat} {a:Mc} {c:Cal} (H:RXY s X Y wx w0 g w h qs a c):w.cell? ⟨a.q,3,none⟩=some (.int .i64 c.m.ret.kind)∧w.cell? ⟨a.q,4,none⟩=some (.int .i64 c.m.ret.cls):=by
 obtain ⟨vc,vo,vx,vs,l,H,-⟩:=H
 exact ⟨H.ca.cells.c3,H.ca.cells.c4⟩
set_option maxRecDepth 100000 in
theorem result_void (s:Nat) (X:Nat→Prop) (wx w0:World) (g:Mg) (h:Hp) (qs:List Nat) (a:Mc) (c:Cal) (w:World) (H:RX s X wx w0 g w h qs a c) (hr:c.m.ret.kind=0) :
  Calls Try.prog 93 #[.pointer (some ⟨a.q,0,none⟩)] w fun e w'=>e=.returned (mvV va0)∧RX s X wx w0 g w' h qs a c:=by
 have HH:=hid H
 have hq:=H.qlt
 have HB:Hid (Bl w (w.alloc mvZ)):=(Bl.refl w).alloc _
 obtain ⟨z3,z4⟩:=(H.y.bl HB.out).c34
 rw [hr] at z3
 have q0:=blk_new w #[.int .i64 0,.int .i64 0] 109
 have f0:=c0_of q0
 have f1:=c1_of q0
 have fz:=free_blk q0
 have HQ:=hid q0
 clear H hr q0
 go_enter Try.func93,Try.ntmps93
 go_wp2
 refine bodyPost_ret (results_cell_row rfl _ _ w.heap.size _ _ _ _ rfl HQ.out Try.underlying109 rfl info_mv) rfl ?_
 exact ⟨rfl,HH.out.bl HB.out⟩
set_option maxRecDepth 100000 in
theorem result_yes (s:Nat) (X:Nat→Prop) (wx w0:World) (g:Mg) (h:Hp) (qs:List Nat) (a:Mc) (c:Cal) (l:List Va) (v:Va) (w:World) (H:RX s X wx w0 g w h qs a c) (F:Fix w0 g h) (hf:h.objs.length≤100) (hr:c.m.ret.kind≠0) (hs:c.stk=l++[v])
  (hv:v.kind=3→-1≤v.n∧v.n<h.objs.length) (ho:h.of v c.m.ret=true) :
  Calls Try.prog 93 #[.pointer (some ⟨a.q,0,none⟩)] w fun e w'=>e=.returned (mvV (im v))∧RX s X wx w0 g w' h qs a { c with stk:=l }:=by
 have HH:=hid H
 have hq:=H.qlt
 have HB:Hid (Bl w (w.alloc mvZ)):=(Bl.refl w).alloc _
 obtain ⟨z3,z4⟩:=(H.y.bl HB.out).c34
 have HT:Hid (∀X wx w,RX s X wx w0 g w h qs a c→Calls Try.prog 114 #[.pointer (some ⟨a.q,0,none⟩),tyMV c.m.ret] w fun e w'=>e=.returned (mvV (im v))∧RX s X wx w0 g w' h qs a { c with stk:=l }):=fun X wx w H=>takeType_yes s X wx w0 g h qs a c l v c.m.ret w H F hf hs hv ho
 have HQ:=hid (blk_new w #[.int .i64 0,.int .i64 0] 109)
 have hr0:(c.m.ret.kind==0)=false:=by simpa using hr
 clear H hs F hf hv ho hr
 go_enter Try.func93,Try.ntmps93
 go_wp2_with (go_at_call 114;refine (HH.out.y.useY HB.out HT.out).mono ?_;rintro e w1 ⟨rfl,H1,K1⟩;have q1:=K1.at (Xp.new (Nat.le_refl _) (lt_w1 w _)) HQ.out;have c4:=c0_of q1;have c5:=c1_of q1;have fz:=free_blk q1;clear K1;replace H1:=hid H1;replace q1:=hid q1)
 refine bodyPost_ret (results_cell_row rfl _ _ w.heap.size _ _ _ _ rfl (set_two q1.out) Try.underlying109 rfl info_mv) rfl ?_
 refine ⟨rfl,RXY.x (RXY.set (RXY.set H1.out ?_ 0 _) ?_ 1 _)⟩<;>exact Xp.new (Nat.le_refl _) (lt_w1 w _)
set_option maxRecDepth 100000 in
theorem result_no (s:Nat) (X:Nat→Prop) (wx w0:World) (g:Mg) (h:Hp) (qs:List Nat) (a:Mc) (c:Cal) (w:World) (H:RX s X wx w0 g w h qs a c) (F:Fix w0 g h) (hf:h.objs.length≤100) (hr:c.m.ret.kind≠0)
  (hs:c.stk=[]∨∃(l:List Va) (v:Va),c.stk=l++[v]∧(v.kind=3→-1≤v.n∧v.n<h.objs.length)∧h.of v c.m.ret=false) :
  Calls Try.prog 93 #[.pointer (some ⟨a.q,0,none⟩)] w fun e w'=>e=stopE 6 0 0∧RS s X wx w0 g w' h qs a c:=by
 have HH:=hid H
 have hq:=H.qlt
 have HB:Hid (Bl w (w.alloc mvZ)):=(Bl.refl w).alloc _
 obtain ⟨z3,z4⟩:=(H.y.bl HB.out).c34
 have HT:Hid (∀X wx w,RX s X wx w0 g w h qs a c→Calls Try.prog 114 #[.pointer (some ⟨a.q,0,none⟩),tyMV c.m.ret] w fun e w'=>e=stopE 6 0 0∧RS s X wx w0 g w' h qs a c):=fun X wx w H=>takeType_no s X wx w0 g h qs a c c.m.ret w H F hf hs
 have hr0:(c.m.ret.kind==0)=false:=by simpa using hr
 clear H hs F hf hr
 go_enter Try.func93,Try.ntmps93
 go_wp2_with (go_at_call 114;refine (HH.out.y.useN HB.out HT.out).mono ?_;rintro e w1 ⟨rfl,H1⟩;replace H1:=hid H1)
 exact ⟨rfl,rfl,H1.out⟩
structure Kl where
 a:Mc
 c:Cal
 vs:Value
 l:List Va
def Kl.own (k:Kl) (b:Nat):Prop:=b=k.a.q∨b=k.a.lb∨k.vs.ownBlock=some b
def ownsL (L:List Kl) (b:Nat):Prop:=∃k∈L,k.own b
def KsAt (w0:World) (g:Mg) (w:World):List Kl→Prop
 | []=>True
 | k::L=>CA w0 g w k.a k.c k.l k.vs∧(∀b,ownsL L b→FarC k.a k.vs b)∧KsAt w0 g w L
def qsL (L:List Kl):List Nat:=(L.map (fun k=>k.a.q)).reverse
def RR (s:Nat) (Z:Nat→Prop) (wx w0:World) (g:Mg) (w:World) (h:Hp) (L:List Kl):Prop:=∃vc vo vx,RH s w0 g w h (qsL L) vc vo vx∧KsAt w0 g w L∧(∀b,Z b→FarR g vc vo vx b)∧(∀b,Z b→∀k∈L,FarC k.a k.vs b)∧KeptX Z wx w
def andZ (L:List Kl) (Z:Nat→Prop) (b:Nat):Prop:=ownsL L b∨Z b
theorem CA.blks {w0 w:World} {g:Mg} {k:Kl} (H:CA w0 g w k.a k.c k.l k.vs) {b:Nat} (hb:k.own b):w0.heap.size≤b∧∃cs t,w.heap[b]?=some (.cells cs t (0,0))∧(t=102∨t=109):=by
 rcases hb with rfl|rfl|hb
 ·exact ⟨H.own,_,_,H.blk,Or.inl rfl⟩
 ·exact ⟨H.ownl,_,_,H.loc,Or.inr rfl⟩
 ·rcases H.stk.2 with ⟨h0,-⟩|⟨gb,cap,cur,h1,h2,h3,-⟩
  ·rw [h0] at hb;simp [Value.ownBlock] at hb
  ·rw [h1] at hb
   simp [Value.ownBlock] at hb
   subst hb
   exact ⟨h2,_,_,h3,Or.inr rfl⟩
theorem CA.farK {s:Nat} {w0 w:World} {g:Mg} {h:Hp} {qs:List Nat} {vc vo vx:Value} {k:Kl} (R:RH s w0 g w h qs vc vo vx) (H:CA w0 g w k.a k.c k.l k.vs) {b:Nat} (hb:k.own b):FarR g vc vo vx b:=by
 obtain ⟨-,cs,t,h1,ht⟩:=H.blks hb
 obtain ⟨n,D,F⟩:=R.fld
 refine ⟨blk_ne h1 R.run ?_,blk_ne h1 R.hp ?_,map_ne h1 F.own,own_far R.calls h1 ?_,own_far R.obs h1 ?_,own_far R.out h1 ?_⟩<;>rcases ht with rfl|rfl<;>decide
theorem CA.same {w0 w w':World} {g:Mg} {k:Kl} (H:CA w0 g w k.a k.c k.l k.vs) (hb:∀b,k.own b→w'.heap[b]?=w.heap[b]?):CA w0 g w' k.a k.c k.l k.vs:=by
 refine ⟨H.own,H.ownl,(hb _ (Or.inl rfl)).trans H.blk,(hb _ (Or.inr (Or.inl rfl))).trans H.loc,H.rel,⟨H.stk.1,?_⟩,H.apart,H.me,H.short,H.kinds⟩
 rcases H.stk.2 with h0|⟨gb,cap,cur,h1,h2,h3,h4⟩
 ·exact Or.inl h0
 ·refine Or.inr ⟨gb,cap,cur,h1,h2,?_,h4⟩
  rw [hb gb (Or.inr (Or.inr (by rw [h1];rfl)))]
  exact h3
theorem KsAt.same {w0 w w':World} {g:Mg}:∀{L:List Kl},KsAt w0 g w L→(∀b,ownsL L b→w'.heap[b]?=w.heap[b]?)→KsAt w0 g w' L
 | [],_,_=>trivial
 | k::L,H,hb=>⟨H.1.same (fun b hk=>hb b ⟨k,List.mem_cons_self,hk⟩),H.2.1,KsAt.same H.2.2 (fun b ⟨x,hx,hk⟩=>hb b ⟨x,List.mem_cons_of_mem _ hx,hk⟩)⟩
theorem KsAt.blks {w0 w:World} {g:Mg}:∀{L:List Kl},KsAt w0 g w L→∀{b},ownsL L b→∃k∈L,k.own b∧CA w0 g w k.a k.c k.l k.vs
 | [],_,_,⟨x,hx,_⟩=>absurd hx (by simp)
 | k::L,H,b,⟨x,hx,hk⟩=>by
  rcases List.mem_cons.1 hx with rfl|hx
  ·exact ⟨x,List.mem_cons_self,hk,H.1⟩
  ·obtain ⟨y,hy,h1,h2⟩:=KsAt.blks H.2.2 ⟨x,hx,hk⟩
   exact ⟨y,List.mem_cons_of_mem _ hy,h1,h2⟩
theorem KsAt.lt {w0 w:World} {g:Mg} {L:List Kl} (H:KsAt w0 g w L) {b:Nat} (hb:ownsL L b):b<w.heap.size:=by
 obtain ⟨k,-,hk,hc⟩:=H.blks hb
 obtain ⟨-,cs,t,h1,-⟩:=hc.blks hk
 exact lt_some h1
theorem KsAt.kz {w0 w wx:World} {g:Mg} {L:List Kl} {Z:Nat→Prop} (H:KsAt w0 g w L) (K:KeptX Z wx w):KeptX (andZ L Z) w w :=
 ⟨Nat.le_refl _,fun b hb=>⟨hb.elim (fun z=>H.lt z) (fun z=>Nat.lt_of_lt_of_le (K.blk b z).1 K.size),rfl⟩⟩
theorem RR.top {s:Nat} {Z:Nat→Prop} {wx w0 w:World} {g:Mg} {h:Hp} {k:Kl} {L:List Kl} (H:RR s Z wx w0 g w h (k::L)):RX s (andZ L Z) w w0 g w h (qsL (k::L)) k.a k.c:=by
 obtain ⟨vc,vo,vx,R,⟨hc,hf,hl⟩,z1,z2,K⟩:=H
 refine ⟨vc,vo,vx,k.vs,k.l,R,hc,fun b hb=>?_,fun b hb=>?_,hl.kz K⟩
 ·rcases hb with hb|hb
  ·obtain ⟨y,-,hk,hy⟩:=hl.blks hb
   exact hy.farK R hk
  ·exact z1 b hb
 ·rcases hb with hb|hb
  ·exact hf b hb
  ·exact z2 b hb k List.mem_cons_self
theorem RR.hx {s:Nat} {Z:Nat→Prop} {wx w0 w:World} {g:Mg} {h:Hp} {L:List Kl} (H:RR s Z wx w0 g w h L):HX s (andZ L Z) w w0 g w h (qsL L):=by
 obtain ⟨vc,vo,vx,R,hl,z1,z2,K⟩:=H
 refine ⟨vc,vo,vx,R,fun b hb=>?_,hl.kz K⟩
 rcases hb with hb|hb
 ·obtain ⟨y,-,hk,hy⟩:=hl.blks hb
  exact hy.farK R hk
 ·exact z1 b hb
theorem KeptX.then {Z Z':Nat→Prop} {wx w w':World} (K:KeptX Z wx w) (K':KeptX Z' w w') (hz:∀b,Z b→Z' b):KeptX Z wx w':=⟨Nat.le_trans K.size K'.size,fun b hb=>⟨(K.blk b hb).1,((K'.blk b (hz b hb)).2).trans (K.blk b hb).2⟩⟩
theorem RR.of {s s':Nat} {Z:Nat→Prop} {wx w0 w w':World} {g:Mg} {h h':Hp} {k:Kl} {L:List Kl} {c:Cal} (H:RR s Z wx w0 g w h (k::L)) (H':RX s' (andZ L Z) w w0 g w' h' (qsL (k::L)) k.a c):∃vs l,RR s' Z wx w0 g w' h' (⟨k.a,c,vs,l⟩::L):=by
 obtain ⟨vc,vo,vx,R,⟨hc,hf,hl⟩,z1,z2,K⟩:=H
 obtain ⟨vc',vo',vx',vs,l,H'⟩:=H'
 refine ⟨vs,l,vc',vo',vx',H'.rh,⟨H'.ca,fun b hb=>H'.farc b (Or.inl hb),hl.same (fun b hb=>(H'.kept.blk b (Or.inl hb)).2)⟩,fun b hb=>H'.farr b (Or.inr hb),fun b hb y hy=>?_,K.then H'.kept (fun b hb=>Or.inr hb)⟩
 rcases List.mem_cons.1 hy with rfl|hy
 ·exact H'.farc b (Or.inr hb)
 ·exact z2 b hb y (List.mem_cons_of_mem _ hy)
theorem RR.ofx {s s':Nat} {Z:Nat→Prop} {wx w0 w w':World} {g:Mg} {h h':Hp} {L:List Kl} (H:RR s Z wx w0 g w h L) (H':HX s' (andZ L Z) w w0 g w' h' (qsL L)):RR s' Z wx w0 g w' h' L:=by
 obtain ⟨vc,vo,vx,R,hl,z1,z2,K⟩:=H
 obtain ⟨vc',vo',vx',R',f,K'⟩:=H'
 exact ⟨vc',vo',vx',R',hl.same (fun b hb=>(K'.blk b (Or.inl hb)).2),fun b hb=>f b (Or.inr hb),z2,K.then K' (fun b hb=>Or.inr hb)⟩
end Go.Proofs.Ytgiiapenmjollaa
