import Derived.Test.YtgiiapenmjollaaSlaw
namespace Go.Proofs.Ytgiiapenmjollaa
set_option linter.all false
set_option maxHeartbeats 40000000
open Go.RowKit
section
open Go.Maps (Keyed has)
theorem holds_bl (c a:Int) (w:World) :
  Calls Try.prog 17 #[.int .i64 c,.int .i64 a] w fun e w'=>e=.returned (.bool (hldB c a))∧Bl w w':=by
 have hmf:∀(fn:Fn) (first cap:Array Value) (w:World),(Instr.makeFunc fn first cap).run Try.prog w=.ok (.func fn first cap) w:=fun _ _ _ _=>rfl
 go_enter Try.func17,Try.ntmps17
 go_wp2_with (first|(go_at_call 36;go_in)|(go_at_call 57;refine (ask_any c _ _ _ (by go_simp)).mono ?_;rintro e w' ⟨rfl,rfl⟩))
 go_ret
 exact ⟨rfl,by repeat (first|exact Bl.refl _|apply Bl.drew|apply Bl.alloc|exact bl_drewN (Bl.refl _) _)⟩
theorem do_did {X:Nat→Prop} {wx w0:World} {g:Mg} {qs:List Nat} {a:Mc} {c:Cal} {h:Hp} {d:Did} {w':World} (hs:h.stops=false) (e:d.h=h.fin 6) (H:RS 1 X wx w0 g w' h qs a c):DoQ X wx w0 g qs a c d (stopE 6 0 0) w':=by
 have q:DidQ X wx w0 g qs a c d (stopE 6 0 0) w':=did_fin (s:=0) (hs_over hs) e H.less
 exact ⟨q.how,q.stop,fun z=>by rw [e,fin_stops hs] at z;exact absurd z (by decide)⟩
theorem do_go {X:Nat→Prop} {wx w0:World} {g:Mg} {qs:List Nat} {a:Mc} {c:Cal} {h:Hp} {d:Did} {w':World} (hs:h.stops=false) (e:d.h=h) (H:RX 1 X wx w0 g w' h qs a { d.c with pc:=d.nx }):DoQ X wx w0 g qs a c d (.returned (.tuple #[])) w':=by
 subst e
 exact ⟨by unfold DidE;rw [if_neg (by rw [hs_over hs];decide),if_neg (hs_thr hs)],fun z=>by rw [hs] at z;exact absurd z (by decide),fun _=>H.less⟩
set_option maxRecDepth 100000 in
theorem do_if_no (X:Nat→Prop) (wx w0:World) (g:Mg) (h:Hp) (qs:List Nat) (a:Mc) (c:Cal) (w:World) (H:RX 1 X wx w0 g w h qs a c) (hs:h.stops=false) (op ia ib ic ii:Int) (args:List Int) (cb co:Nat) (Q:Option Addr) (q n:Nat) (A:AtI w a c ⟨op,ia,ib,ic,ii,args⟩ cb co Q q n) (hop:op=12) (d:Did) (hd:d.h=h.fin 6) (ht:c.stk=[]∨∃l v,c.stk=l++[v]∧v.kind≠1) :
  Calls Try.prog 66 #[.pointer (some ⟨a.q,0,none⟩)] w fun e w'=>DoQ X wx w0 g qs a c d e w':=by
 have HT:=hid ht
 have HDB:Hid (∀w',RS 1 X wx w0 g w' h qs a c→DoQ X wx w0 g qs a c d (stopE 6 0 0) w'):=fun w' H=>do_did hs hd H
 have HH:=hid H
 have HOP:=hid hop
 obtain ⟨c10,fz,c8,hq,hcl,hlt,HAP,hn0,hn1,hd0,HT8,fzn,fzm⟩:=dpm H A
 have e1:(op==11)=false:=by simp [hop]
 have e2:(op==12)=true:=by simp [hop]
 clear H hs A hop ht hd
 go_enter Try.func66,Try.ntmps66
 go_wp2
 go_quiet (fail)
 go_wp2
 refine wp_region_held_drew (S:=fun w'=>w'.cell? ⟨a.q,8,none⟩=some (.slice (some ⟨cb,co,none⟩) c.m.code.length a.c)∧w'.cell? ⟨a.q,10,none⟩=some (.int .i64 (n:Int))∧w'.cell? ⟨cb,co+n*6,none⟩=some (.int .i64 op)∧w'.cell? ⟨cb,co+n*6+1,none⟩=some (.int .i64 ia)∧w'.cell? ⟨cb,co+n*6+2,none⟩=some (.int .i64 ib)∧w'.cell? ⟨cb,co+n*6+3,none⟩=some (.int .i64 ic)∧w'.cell? ⟨cb,co+n*6+4,none⟩=some (.int .i64 ii)∧w'.cell? ⟨cb,co+n*6+5,none⟩=some (.slice Q args.length q)) (by kernel_rfl) ?_ (fun hHeld0=>?_)
 ·exact HT8.out _ (bl_drewN (Bl.refl w) _).drew
 refine tk (i:=0) (d:=some 15) rfl rfl (by kernel_rfl) (fun _ _ _ h=>h) (by rfl) (by intro _ h;(try dsimp only at h);go_split_ands;go_simp<;>with_reducible rfl) hHeld0 ?_
 try simp only [aS,aN,aT,a0,a1]
 refine tk (i:=1) (d:=some 16) rfl rfl (by kernel_rfl) (fun _ _ _ h=>h) (by rfl) (by intro _ h;(try dsimp only at h);go_split_ands;go_simp<;>with_reducible rfl) hHeld0 ?_
 try simp only [aS,aN,aT,a0,a1]
 refine tk (i:=2) (d:=some 17) rfl rfl (by kernel_rfl) (fun _ _ _ h=>h) (by rfl) (by intro _ h;(try dsimp only at h);go_split_ands;go_simp<;>with_reducible rfl) hHeld0 ?_
 try simp only [aS,aN,aT,a0,a1]
 refine tk (i:=3) (d:=some 18) rfl rfl (by kernel_rfl) (fun _ _ _ h=>h) (by rfl) (by intro _ h;(try dsimp only at h);go_split_ands;go_simp<;>with_reducible rfl) hHeld0 ?_
 try simp only [aS,aN,aT,a0,a1]
 refine tk (i:=4) (d:=some 19) rfl rfl (by kernel_rfl) (fun _ _ _ h=>h) (by rfl) (by intro _ h;(try dsimp only at h);go_split_ands;go_simp<;>with_reducible rfl) hHeld0 ?_
 try simp only [aS,aN,aT,a0,a1]
 refine tk (i:=5) (d:=some 20) rfl rfl (by kernel_rfl) (fun _ _ _ h=>h) (by rfl) (by intro _ h;(try dsimp only at h);go_split_ands;go_simp<;>with_reducible rfl) hHeld0 ?_
 try simp only [aS,aN,aT,a0,a1]
 refine tk (i:=6) (d:=some 21) rfl rfl (by kernel_rfl) (fun _ _ _ h=>h) (by rfl) (by intro _ h;(try dsimp only at h);go_split_ands;go_simp<;>with_reducible rfl) hHeld0 ?_
 try simp only [aS,aN,aT,a0,a1]
 refine tk (i:=7) (d:=some 22) rfl rfl (by kernel_rfl) (fun _ _ _ h=>h) (by rfl) (by intro _ h;(try dsimp only at h);go_split_ands;go_simp<;>with_reducible rfl) hHeld0 ?_
 try simp only [aS,aN,aT,a0,a1]
 refine tk (i:=8) (d:=some 23) rfl rfl (by kernel_rfl) (fun _ _ _ h=>h) (by rfl) (by intro _ h;(try dsimp only at h);go_split_ands;go_simp<;>with_reducible rfl) hHeld0 ?_
 try simp only [aS,aN,aT,a0,a1]
 refine tk (i:=9) (d:=some 24) rfl rfl (by kernel_rfl) (fun _ _ _ h=>h) (by rfl) (by intro _ h;(try dsimp only at h);go_split_ands;go_simp<;>with_reducible rfl) hHeld0 ?_
 try simp only [aS,aN,aT,a0,a1]
 refine tk (i:=10) (d:=some 25) rfl rfl (by kernel_rfl) (fun _ _ _ h=>h) (by rfl) (by intro _ h;(try dsimp only at h);go_split_ands;go_simp<;>with_reducible rfl) hHeld0 ?_
 try simp only [aS,aN,aT,a0,a1]
 refine rd1 (i:=11) (by kernel_rfl) rfl fun K hK=>?_
 go_wp2_with fail
 refine hK.out _ _ (HT8.out _ ((bl_drewN (Bl.refl w) _).alloc _)) (fun hHeld1=>?_)
 try simp only [aS,aN,aT,a0,a1]
 refine rd1 (i:=12) (by kernel_rfl) rfl fun K hK=>?_
 obtain ⟨B,hBB⟩:∃B,B=w.heap.size:=⟨_,rfl⟩
 obtain ⟨hVb,v0,v1,v2,v3,v4,v5,fzV,qB,hB⟩:=insN w (nq+1) B hBB
 simp only [←hBB]
 clear hHeld1 hBB
 generalize (w.drewN (nq+1)).alloc (.cells #[.int .i64 0,.int .i64 0,.int .i64 0,.int .i64 0,.int .i64 0,.slice none 0 0] 51)=V at *
 go_wp2_with fail
 obtain ⟨hV6,ZZ,q6⟩:=insS hVb hB v0 v1 v2 v3 v4 v5 fzV qB (.int .i64 op) (.int .i64 ia) (.int .i64 ib) (.int .i64 ic) (.int .i64 ii) (.slice Q args.length q)
 generalize (((((V.setCell ⟨B,0,none⟩ (.int .i64 op)).setCell ⟨B,1,none⟩ (.int .i64 ia)).setCell ⟨B,2,none⟩ (.int .i64 ib)).setCell ⟨B,3,none⟩ (.int .i64 ic)).setCell ⟨B,4,none⟩ (.int .i64 ii)).setCell ⟨B,5,none⟩ (.slice Q args.length q)=V6 at *
 refine hK.out _ _ (HT8.out _ hV6.out) (fun hHeld2=>?_)
 clear v0 v1 v2 v3 v4 v5 fzV hVb qB V
 obtain ⟨z0,z1,z2,z3,z4,z5,fz6⟩:=ZZ.out
 try simp only [aS,aN,aT,a0,a1]
 refine wpAnyH_done (by kernel_rfl) ?_ _
 go_wp2
 refine wp_region_held_drew (S:=fun w'=>w'.cell? ⟨B,1,none⟩=some (.int .i64 ia)∧w'.cell? ⟨B,2,none⟩=some (.int .i64 ib)) (by kernel_rfl) ?_ (fun hHeld0=>?_)
 ·exact ⟨z1,z2⟩
 refine tk (i:=0) (d:=some 47) rfl rfl (by kernel_rfl) (fun _ _ _ h=>h) (by rfl) (by intro _ h;(try dsimp only at h);go_split_ands;go_simp<;>with_reducible rfl) hHeld0 ?_
 try simp only [aS,aN,aT,a0,a1]
 refine tk (i:=1) (d:=some 48) rfl rfl (by kernel_rfl) (fun _ _ _ h=>h) (by rfl) (by intro _ h;(try dsimp only at h);go_split_ands;go_simp<;>with_reducible rfl) hHeld0 ?_
 try simp only [aS,aN,aT,a0,a1]
 refine tk (i:=2) (d:=some 49) rfl rfl (by kernel_rfl) (fun _ _ _ h=>h) (by rfl) (by intro _ h;(try dsimp only at h);go_split_ands;go_simp<;>with_reducible rfl) hHeld0 ?_
 try simp only [aS,aN,aT,a0,a1]
 refine tk (i:=3) (d:=some 50) rfl rfl (by kernel_rfl) (fun _ _ _ h=>h) (by rfl) (by intro _ h;(try dsimp only at h);go_split_ands;go_simp<;>with_reducible rfl) hHeld0 ?_
 try simp only [aS,aN,aT,a0,a1]
 refine tk (i:=4) (d:=some 51) rfl rfl (by kernel_rfl) (fun _ _ _ h=>h) (by rfl) (by intro _ h;(try dsimp only at h);go_split_ands;go_simp<;>with_reducible rfl) hHeld0 ?_
 try simp only [aS,aN,aT,a0,a1]
 refine tk (i:=5) (d:=some 52) rfl rfl (by kernel_rfl) (fun _ _ _ h=>h) (by rfl) (by intro _ h;(try dsimp only at h);go_split_ands;go_simp<;>with_reducible rfl) hHeld0 ?_
 try simp only [aS,aN,aT,a0,a1]
 refine rd1 (i:=6) (by kernel_rfl) rfl fun K hK=>?_
 go_simp
 go_at_call 89
 refine (HH.out.y.useN hV6.out.drew (fun X wx w H=>takeKind_no 1 X wx w0 g h qs a c 1 w H HT.out)).mono ?_
 rintro e w1 ⟨rfl,H1⟩
 exact ⟨rfl,HDB.out _ H1⟩
set_option maxRecDepth 100000 in
theorem do_if_go (X:Nat→Prop) (wx w0:World) (g:Mg) (h:Hp) (qs:List Nat) (a:Mc) (c:Cal) (w:World) (H:RX 1 X wx w0 g w h qs a c) (hs:h.stops=false) (op ia ib ic ii:Int) (args:List Int) (cb co:Nat) (Q:Option Addr) (q n:Nat) (A:AtI w a c ⟨op,ia,ib,ic,ii,args⟩ cb co Q q n) (hop:op=12) (d:Did) (l:List Va) (v:Va) (h0:c.stk=l++[v]) (hv:v.kind=1) (hb:hldB ib v.n=true) (hd:d.h=h) (hc:{ d.c with pc:=d.nx }={ { c with stk:=l } with pc:=ia }) :
  Calls Try.prog 66 #[.pointer (some ⟨a.q,0,none⟩)] w fun e w'=>DoQ X wx w0 g qs a c d e w':=by
 have H0:=hid h0
 have HV:=hid hv
 have HBL:=hid hb
 have HM:Hid (im v=v):=im_num (by rw [hv];decide)
 have hfd:=fun w=>mv_field v.kind v.n w
 have HPC:Hid (0≤c.pc∧c.pc<9223372036854775807):=by have h1:=A.pc;have h2:=A.lt;have h3:=A.len;unfold maxLen at h3;exact ⟨by omega,by omega⟩
 have HDB:Hid (∀w',RX 1 X wx w0 g w' h qs a { { c with stk:=l } with pc:=ia }→DoQ X wx w0 g qs a c d (.returned (.tuple #[])) w'):=fun w' H=>do_go hs hd (hc▸H)
 have HH:=hid H
 have HOP:=hid hop
 obtain ⟨c10,fz,c8,hq,hcl,hlt,HAP,hn0,hn1,hd0,HT8,fzn,fzm⟩:=dpm H A
 have e1:(op==11)=false:=by simp [hop]
 have e2:(op==12)=true:=by simp [hop]
 clear H hs A hop h0 hv hb hd hc
 go_enter Try.func66,Try.ntmps66
 go_wp2
 go_quiet (fail)
 go_wp2
 refine wp_region_held_drew (S:=fun w'=>w'.cell? ⟨a.q,8,none⟩=some (.slice (some ⟨cb,co,none⟩) c.m.code.length a.c)∧w'.cell? ⟨a.q,10,none⟩=some (.int .i64 (n:Int))∧w'.cell? ⟨cb,co+n*6,none⟩=some (.int .i64 op)∧w'.cell? ⟨cb,co+n*6+1,none⟩=some (.int .i64 ia)∧w'.cell? ⟨cb,co+n*6+2,none⟩=some (.int .i64 ib)∧w'.cell? ⟨cb,co+n*6+3,none⟩=some (.int .i64 ic)∧w'.cell? ⟨cb,co+n*6+4,none⟩=some (.int .i64 ii)∧w'.cell? ⟨cb,co+n*6+5,none⟩=some (.slice Q args.length q)) (by kernel_rfl) ?_ (fun hHeld0=>?_)
 ·exact HT8.out _ (bl_drewN (Bl.refl w) _).drew
 refine tk (i:=0) (d:=some 15) rfl rfl (by kernel_rfl) (fun _ _ _ h=>h) (by rfl) (by intro _ h;(try dsimp only at h);go_split_ands;go_simp<;>with_reducible rfl) hHeld0 ?_
 try simp only [aS,aN,aT,a0,a1]
 refine tk (i:=1) (d:=some 16) rfl rfl (by kernel_rfl) (fun _ _ _ h=>h) (by rfl) (by intro _ h;(try dsimp only at h);go_split_ands;go_simp<;>with_reducible rfl) hHeld0 ?_
 try simp only [aS,aN,aT,a0,a1]
 refine tk (i:=2) (d:=some 17) rfl rfl (by kernel_rfl) (fun _ _ _ h=>h) (by rfl) (by intro _ h;(try dsimp only at h);go_split_ands;go_simp<;>with_reducible rfl) hHeld0 ?_
 try simp only [aS,aN,aT,a0,a1]
 refine tk (i:=3) (d:=some 18) rfl rfl (by kernel_rfl) (fun _ _ _ h=>h) (by rfl) (by intro _ h;(try dsimp only at h);go_split_ands;go_simp<;>with_reducible rfl) hHeld0 ?_
 try simp only [aS,aN,aT,a0,a1]
 refine tk (i:=4) (d:=some 19) rfl rfl (by kernel_rfl) (fun _ _ _ h=>h) (by rfl) (by intro _ h;(try dsimp only at h);go_split_ands;go_simp<;>with_reducible rfl) hHeld0 ?_
 try simp only [aS,aN,aT,a0,a1]
 refine tk (i:=5) (d:=some 20) rfl rfl (by kernel_rfl) (fun _ _ _ h=>h) (by rfl) (by intro _ h;(try dsimp only at h);go_split_ands;go_simp<;>with_reducible rfl) hHeld0 ?_
 try simp only [aS,aN,aT,a0,a1]
 refine tk (i:=6) (d:=some 21) rfl rfl (by kernel_rfl) (fun _ _ _ h=>h) (by rfl) (by intro _ h;(try dsimp only at h);go_split_ands;go_simp<;>with_reducible rfl) hHeld0 ?_
 try simp only [aS,aN,aT,a0,a1]
 refine tk (i:=7) (d:=some 22) rfl rfl (by kernel_rfl) (fun _ _ _ h=>h) (by rfl) (by intro _ h;(try dsimp only at h);go_split_ands;go_simp<;>with_reducible rfl) hHeld0 ?_
 try simp only [aS,aN,aT,a0,a1]
 refine tk (i:=8) (d:=some 23) rfl rfl (by kernel_rfl) (fun _ _ _ h=>h) (by rfl) (by intro _ h;(try dsimp only at h);go_split_ands;go_simp<;>with_reducible rfl) hHeld0 ?_
 try simp only [aS,aN,aT,a0,a1]
 refine tk (i:=9) (d:=some 24) rfl rfl (by kernel_rfl) (fun _ _ _ h=>h) (by rfl) (by intro _ h;(try dsimp only at h);go_split_ands;go_simp<;>with_reducible rfl) hHeld0 ?_
 try simp only [aS,aN,aT,a0,a1]
 refine tk (i:=10) (d:=some 25) rfl rfl (by kernel_rfl) (fun _ _ _ h=>h) (by rfl) (by intro _ h;(try dsimp only at h);go_split_ands;go_simp<;>with_reducible rfl) hHeld0 ?_
 try simp only [aS,aN,aT,a0,a1]
 refine rd1 (i:=11) (by kernel_rfl) rfl fun K hK=>?_
 go_wp2_with fail
 refine hK.out _ _ (HT8.out _ ((bl_drewN (Bl.refl w) _).alloc _)) (fun hHeld1=>?_)
 try simp only [aS,aN,aT,a0,a1]
 refine rd1 (i:=12) (by kernel_rfl) rfl fun K hK=>?_
 obtain ⟨B,hBB⟩:∃B,B=w.heap.size:=⟨_,rfl⟩
 obtain ⟨hVb,v0,v1,v2,v3,v4,v5,fzV,qB,hB⟩:=insN w (nq+1) B hBB
 simp only [←hBB]
 clear hHeld1 hBB
 generalize (w.drewN (nq+1)).alloc (.cells #[.int .i64 0,.int .i64 0,.int .i64 0,.int .i64 0,.int .i64 0,.slice none 0 0] 51)=V at *
 go_wp2_with fail
 obtain ⟨hV6,ZZ,q6⟩:=insS hVb hB v0 v1 v2 v3 v4 v5 fzV qB (.int .i64 op) (.int .i64 ia) (.int .i64 ib) (.int .i64 ic) (.int .i64 ii) (.slice Q args.length q)
 generalize (((((V.setCell ⟨B,0,none⟩ (.int .i64 op)).setCell ⟨B,1,none⟩ (.int .i64 ia)).setCell ⟨B,2,none⟩ (.int .i64 ib)).setCell ⟨B,3,none⟩ (.int .i64 ic)).setCell ⟨B,4,none⟩ (.int .i64 ii)).setCell ⟨B,5,none⟩ (.slice Q args.length q)=V6 at *
 refine hK.out _ _ (HT8.out _ hV6.out) (fun hHeld2=>?_)
 clear v0 v1 v2 v3 v4 v5 fzV hVb qB V
 obtain ⟨z0,z1,z2,z3,z4,z5,fz6⟩:=ZZ.out
 try simp only [aS,aN,aT,a0,a1]
 refine wpAnyH_done (by kernel_rfl) ?_ _
 go_wp2
 refine wp_region_held_drew (S:=fun w'=>w'.cell? ⟨B,1,none⟩=some (.int .i64 ia)∧w'.cell? ⟨B,2,none⟩=some (.int .i64 ib)) (by kernel_rfl) ?_ (fun hHeld0=>?_)
 ·exact ⟨z1,z2⟩
 refine tk (i:=0) (d:=some 47) rfl rfl (by kernel_rfl) (fun _ _ _ h=>h) (by rfl) (by intro _ h;(try dsimp only at h);go_split_ands;go_simp<;>with_reducible rfl) hHeld0 ?_
 try simp only [aS,aN,aT,a0,a1]
 refine tk (i:=1) (d:=some 48) rfl rfl (by kernel_rfl) (fun _ _ _ h=>h) (by rfl) (by intro _ h;(try dsimp only at h);go_split_ands;go_simp<;>with_reducible rfl) hHeld0 ?_
 try simp only [aS,aN,aT,a0,a1]
 refine tk (i:=2) (d:=some 49) rfl rfl (by kernel_rfl) (fun _ _ _ h=>h) (by rfl) (by intro _ h;(try dsimp only at h);go_split_ands;go_simp<;>with_reducible rfl) hHeld0 ?_
 try simp only [aS,aN,aT,a0,a1]
 refine tk (i:=3) (d:=some 50) rfl rfl (by kernel_rfl) (fun _ _ _ h=>h) (by rfl) (by intro _ h;(try dsimp only at h);go_split_ands;go_simp<;>with_reducible rfl) hHeld0 ?_
 try simp only [aS,aN,aT,a0,a1]
 refine tk (i:=4) (d:=some 51) rfl rfl (by kernel_rfl) (fun _ _ _ h=>h) (by rfl) (by intro _ h;(try dsimp only at h);go_split_ands;go_simp<;>with_reducible rfl) hHeld0 ?_
 try simp only [aS,aN,aT,a0,a1]
 refine tk (i:=5) (d:=some 52) rfl rfl (by kernel_rfl) (fun _ _ _ h=>h) (by rfl) (by intro _ h;(try dsimp only at h);go_split_ands;go_simp<;>with_reducible rfl) hHeld0 ?_
 try simp only [aS,aN,aT,a0,a1]
 refine rd1 (i:=6) (by kernel_rfl) rfl fun K hK=>?_
 go_simp
 go_at_call 89
 refine (HH.out.y.useY hV6.out.drew (fun X wx w H=>takeKind_yes 1 X wx w0 g h qs a c l v 1 w H H0.out HV.out)).mono ?_
 rintro e w1 ⟨he,H1,K1⟩
 rw [HM.out] at he
 subst he
 have hbx:=K1.at (Xp.new hB.out (lt_some q6.out)) q6.out
 have d1:=hid (ins_of hbx).1
 have d2:=hid (ins_of hbx).2
 replace H1:=hid H1
 replace hbx:=hid hbx
 clear K1
 go_wp2_with fail
 refine hK.out _ _ (⟨d1.out,d2.out⟩) (fun hHeld1=>?_)
 try simp only [aS,aN,aT,a0,a1]
 refine tk (i:=7) (d:=some 54) rfl rfl (by kernel_rfl) (fun _ _ _ h=>h) (by rfl) (by intro _ h;(try dsimp only at h);go_split_ands;go_simp<;>with_reducible rfl) hHeld1 ?_
 try simp only [aS,aN,aT,a0,a1]
 refine rd1 (i:=8) (by kernel_rfl) rfl fun K hK=>?_
 go_simp
 go_at_call 17
 refine (holds_bl ib v.n _).mono ?_
 rintro e w2 ⟨he,b2⟩
 rw [HBL.out] at he
 subst he
 have hby:=bl_blk b2 hbx.out
 have f1:=hid (ins_of hby).1
 have f2:=hid (ins_of hby).2
 replace b2:=hid b2
 replace hby:=hid hby
 go_wp2_with fail
 refine hK.out _ _ (⟨f1.out,f2.out⟩) (fun hHeld2=>?_)
 try simp only [aS,aN,aT,a0,a1]
 refine rd1 (i:=9) (by kernel_rfl) rfl fun K hK=>?_
 go_simp
 go_at_call 88
 refine ((H1.out.bl b2.out).useY (Bl.refl _) (fun X wx w H=>branch_yes 1 X wx w0 g h qs a { c with stk:=l } w H ia)).mono ?_
 rintro e w3 ⟨rfl,H3,K3⟩
 have hbz:=K3.at (Xp.old (Xp.old (Xp.new hB.out (lt_some q6.out)))) hby.out
 have j1:=hid (ins_of hbz).1
 have j2:=hid (ins_of hbz).2
 replace H3:=hid H3
 replace hbz:=hid hbz
 clear K3
 go_wp2_with fail
 refine hK.out _ _ (⟨j1.out,j2.out⟩) (fun hHeld3=>?_)
 try simp only [aS,aN,aT,a0,a1]
 refine wpAnyH_done (by kernel_rfl) ?_ _
 go_wp2
 go_end0
 exact HDB.out _ H3.out.x
set_option maxRecDepth 100000 in
theorem do_if_on (X:Nat→Prop) (wx w0:World) (g:Mg) (h:Hp) (qs:List Nat) (a:Mc) (c:Cal) (w:World) (H:RX 1 X wx w0 g w h qs a c) (hs:h.stops=false) (op ia ib ic ii:Int) (args:List Int) (cb co:Nat) (Q:Option Addr) (q n:Nat) (A:AtI w a c ⟨op,ia,ib,ic,ii,args⟩ cb co Q q n) (hop:op=12) (d:Did) (l:List Va) (v:Va) (h0:c.stk=l++[v]) (hv:v.kind=1) (hb:hldB ib v.n=false) (hd:d.h=h) (hc:{ d.c with pc:=d.nx }={ { c with stk:=l } with pc:=c.pc+1 }) :
  Calls Try.prog 66 #[.pointer (some ⟨a.q,0,none⟩)] w fun e w'=>DoQ X wx w0 g qs a c d e w':=by
 have H0:=hid h0
 have HV:=hid hv
 have HBL:=hid hb
 have HM:Hid (im v=v):=im_num (by rw [hv];decide)
 have hfd:=fun w=>mv_field v.kind v.n w
 have HPC:Hid (0≤c.pc∧c.pc<9223372036854775807):=by have h1:=A.pc;have h2:=A.lt;have h3:=A.len;unfold maxLen at h3;exact ⟨by omega,by omega⟩
 have HDB:Hid (∀w',RX 1 X wx w0 g w' h qs a { { c with stk:=l } with pc:=c.pc+1 }→DoQ X wx w0 g qs a c d (.returned (.tuple #[])) w'):=fun w' H=>do_go hs hd (hc▸H)
 have HH:=hid H
 have HOP:=hid hop
 obtain ⟨c10,fz,c8,hq,hcl,hlt,HAP,hn0,hn1,hd0,HT8,fzn,fzm⟩:=dpm H A
 have e1:(op==11)=false:=by simp [hop]
 have e2:(op==12)=true:=by simp [hop]
 clear H hs A hop h0 hv hb hd hc
 go_enter Try.func66,Try.ntmps66
 go_wp2
 go_quiet (fail)
 go_wp2
 refine wp_region_held_drew (S:=fun w'=>w'.cell? ⟨a.q,8,none⟩=some (.slice (some ⟨cb,co,none⟩) c.m.code.length a.c)∧w'.cell? ⟨a.q,10,none⟩=some (.int .i64 (n:Int))∧w'.cell? ⟨cb,co+n*6,none⟩=some (.int .i64 op)∧w'.cell? ⟨cb,co+n*6+1,none⟩=some (.int .i64 ia)∧w'.cell? ⟨cb,co+n*6+2,none⟩=some (.int .i64 ib)∧w'.cell? ⟨cb,co+n*6+3,none⟩=some (.int .i64 ic)∧w'.cell? ⟨cb,co+n*6+4,none⟩=some (.int .i64 ii)∧w'.cell? ⟨cb,co+n*6+5,none⟩=some (.slice Q args.length q)) (by kernel_rfl) ?_ (fun hHeld0=>?_)
 ·exact HT8.out _ (bl_drewN (Bl.refl w) _).drew
 refine tk (i:=0) (d:=some 15) rfl rfl (by kernel_rfl) (fun _ _ _ h=>h) (by rfl) (by intro _ h;(try dsimp only at h);go_split_ands;go_simp<;>with_reducible rfl) hHeld0 ?_
 try simp only [aS,aN,aT,a0,a1]
 refine tk (i:=1) (d:=some 16) rfl rfl (by kernel_rfl) (fun _ _ _ h=>h) (by rfl) (by intro _ h;(try dsimp only at h);go_split_ands;go_simp<;>with_reducible rfl) hHeld0 ?_
 try simp only [aS,aN,aT,a0,a1]
 refine tk (i:=2) (d:=some 17) rfl rfl (by kernel_rfl) (fun _ _ _ h=>h) (by rfl) (by intro _ h;(try dsimp only at h);go_split_ands;go_simp<;>with_reducible rfl) hHeld0 ?_
 try simp only [aS,aN,aT,a0,a1]
 refine tk (i:=3) (d:=some 18) rfl rfl (by kernel_rfl) (fun _ _ _ h=>h) (by rfl) (by intro _ h;(try dsimp only at h);go_split_ands;go_simp<;>with_reducible rfl) hHeld0 ?_
 try simp only [aS,aN,aT,a0,a1]
 refine tk (i:=4) (d:=some 19) rfl rfl (by kernel_rfl) (fun _ _ _ h=>h) (by rfl) (by intro _ h;(try dsimp only at h);go_split_ands;go_simp<;>with_reducible rfl) hHeld0 ?_
 try simp only [aS,aN,aT,a0,a1]
 refine tk (i:=5) (d:=some 20) rfl rfl (by kernel_rfl) (fun _ _ _ h=>h) (by rfl) (by intro _ h;(try dsimp only at h);go_split_ands;go_simp<;>with_reducible rfl) hHeld0 ?_
 try simp only [aS,aN,aT,a0,a1]
 refine tk (i:=6) (d:=some 21) rfl rfl (by kernel_rfl) (fun _ _ _ h=>h) (by rfl) (by intro _ h;(try dsimp only at h);go_split_ands;go_simp<;>with_reducible rfl) hHeld0 ?_
 try simp only [aS,aN,aT,a0,a1]
 refine tk (i:=7) (d:=some 22) rfl rfl (by kernel_rfl) (fun _ _ _ h=>h) (by rfl) (by intro _ h;(try dsimp only at h);go_split_ands;go_simp<;>with_reducible rfl) hHeld0 ?_
 try simp only [aS,aN,aT,a0,a1]
 refine tk (i:=8) (d:=some 23) rfl rfl (by kernel_rfl) (fun _ _ _ h=>h) (by rfl) (by intro _ h;(try dsimp only at h);go_split_ands;go_simp<;>with_reducible rfl) hHeld0 ?_
 try simp only [aS,aN,aT,a0,a1]
 refine tk (i:=9) (d:=some 24) rfl rfl (by kernel_rfl) (fun _ _ _ h=>h) (by rfl) (by intro _ h;(try dsimp only at h);go_split_ands;go_simp<;>with_reducible rfl) hHeld0 ?_
 try simp only [aS,aN,aT,a0,a1]
 refine tk (i:=10) (d:=some 25) rfl rfl (by kernel_rfl) (fun _ _ _ h=>h) (by rfl) (by intro _ h;(try dsimp only at h);go_split_ands;go_simp<;>with_reducible rfl) hHeld0 ?_
 try simp only [aS,aN,aT,a0,a1]
 refine rd1 (i:=11) (by kernel_rfl) rfl fun K hK=>?_
 go_wp2_with fail
 refine hK.out _ _ (HT8.out _ ((bl_drewN (Bl.refl w) _).alloc _)) (fun hHeld1=>?_)
 try simp only [aS,aN,aT,a0,a1]
 refine rd1 (i:=12) (by kernel_rfl) rfl fun K hK=>?_
 obtain ⟨B,hBB⟩:∃B,B=w.heap.size:=⟨_,rfl⟩
 obtain ⟨hVb,v0,v1,v2,v3,v4,v5,fzV,qB,hB⟩:=insN w (nq+1) B hBB
 simp only [←hBB]
 clear hHeld1 hBB
 generalize (w.drewN (nq+1)).alloc (.cells #[.int .i64 0,.int .i64 0,.int .i64 0,.int .i64 0,.int .i64 0,.slice none 0 0] 51)=V at *
 go_wp2_with fail
 obtain ⟨hV6,ZZ,q6⟩:=insS hVb hB v0 v1 v2 v3 v4 v5 fzV qB (.int .i64 op) (.int .i64 ia) (.int .i64 ib) (.int .i64 ic) (.int .i64 ii) (.slice Q args.length q)
 generalize (((((V.setCell ⟨B,0,none⟩ (.int .i64 op)).setCell ⟨B,1,none⟩ (.int .i64 ia)).setCell ⟨B,2,none⟩ (.int .i64 ib)).setCell ⟨B,3,none⟩ (.int .i64 ic)).setCell ⟨B,4,none⟩ (.int .i64 ii)).setCell ⟨B,5,none⟩ (.slice Q args.length q)=V6 at *
 refine hK.out _ _ (HT8.out _ hV6.out) (fun hHeld2=>?_)
 clear v0 v1 v2 v3 v4 v5 fzV hVb qB V
 obtain ⟨z0,z1,z2,z3,z4,z5,fz6⟩:=ZZ.out
 try simp only [aS,aN,aT,a0,a1]
 refine wpAnyH_done (by kernel_rfl) ?_ _
 go_wp2
 refine wp_region_held_drew (S:=fun w'=>w'.cell? ⟨B,1,none⟩=some (.int .i64 ia)∧w'.cell? ⟨B,2,none⟩=some (.int .i64 ib)) (by kernel_rfl) ?_ (fun hHeld0=>?_)
 ·exact ⟨z1,z2⟩
 refine tk (i:=0) (d:=some 47) rfl rfl (by kernel_rfl) (fun _ _ _ h=>h) (by rfl) (by intro _ h;(try dsimp only at h);go_split_ands;go_simp<;>with_reducible rfl) hHeld0 ?_
 try simp only [aS,aN,aT,a0,a1]
 refine tk (i:=1) (d:=some 48) rfl rfl (by kernel_rfl) (fun _ _ _ h=>h) (by rfl) (by intro _ h;(try dsimp only at h);go_split_ands;go_simp<;>with_reducible rfl) hHeld0 ?_
 try simp only [aS,aN,aT,a0,a1]
 refine tk (i:=2) (d:=some 49) rfl rfl (by kernel_rfl) (fun _ _ _ h=>h) (by rfl) (by intro _ h;(try dsimp only at h);go_split_ands;go_simp<;>with_reducible rfl) hHeld0 ?_
 try simp only [aS,aN,aT,a0,a1]
 refine tk (i:=3) (d:=some 50) rfl rfl (by kernel_rfl) (fun _ _ _ h=>h) (by rfl) (by intro _ h;(try dsimp only at h);go_split_ands;go_simp<;>with_reducible rfl) hHeld0 ?_
 try simp only [aS,aN,aT,a0,a1]
 refine tk (i:=4) (d:=some 51) rfl rfl (by kernel_rfl) (fun _ _ _ h=>h) (by rfl) (by intro _ h;(try dsimp only at h);go_split_ands;go_simp<;>with_reducible rfl) hHeld0 ?_
 try simp only [aS,aN,aT,a0,a1]
 refine tk (i:=5) (d:=some 52) rfl rfl (by kernel_rfl) (fun _ _ _ h=>h) (by rfl) (by intro _ h;(try dsimp only at h);go_split_ands;go_simp<;>with_reducible rfl) hHeld0 ?_
 try simp only [aS,aN,aT,a0,a1]
 refine rd1 (i:=6) (by kernel_rfl) rfl fun K hK=>?_
 go_simp
 go_at_call 89
 refine (HH.out.y.useY hV6.out.drew (fun X wx w H=>takeKind_yes 1 X wx w0 g h qs a c l v 1 w H H0.out HV.out)).mono ?_
 rintro e w1 ⟨he,H1,K1⟩
 rw [HM.out] at he
 subst he
 have hbx:=K1.at (Xp.new hB.out (lt_some q6.out)) q6.out
 have d1:=hid (ins_of hbx).1
 have d2:=hid (ins_of hbx).2
 replace H1:=hid H1
 replace hbx:=hid hbx
 clear K1
 go_wp2_with fail
 refine hK.out _ _ (⟨d1.out,d2.out⟩) (fun hHeld1=>?_)
 try simp only [aS,aN,aT,a0,a1]
 refine tk (i:=7) (d:=some 54) rfl rfl (by kernel_rfl) (fun _ _ _ h=>h) (by rfl) (by intro _ h;(try dsimp only at h);go_split_ands;go_simp<;>with_reducible rfl) hHeld1 ?_
 try simp only [aS,aN,aT,a0,a1]
 refine rd1 (i:=8) (by kernel_rfl) rfl fun K hK=>?_
 go_simp
 go_at_call 17
 refine (holds_bl ib v.n _).mono ?_
 rintro e w2 ⟨he,b2⟩
 rw [HBL.out] at he
 subst he
 have hby:=bl_blk b2 hbx.out
 have f1:=hid (ins_of hby).1
 have f2:=hid (ins_of hby).2
 replace b2:=hid b2
 replace hby:=hid hby
 go_wp2_with fail
 refine hK.out _ _ (⟨f1.out,f2.out⟩) (fun hHeld2=>?_)
 try simp only [aS,aN,aT,a0,a1]
 refine rd1 (i:=9) (by kernel_rfl) rfl fun K hK=>?_
 go_simp
 go_at_call 88
 refine ((H1.out.bl b2.out).useY (Bl.refl _) (fun X wx w H=>branch_no 1 X wx w0 g h qs a { c with stk:=l } w H ia HPC.out)).mono ?_
 rintro e w3 ⟨rfl,H3,K3⟩
 have hbz:=K3.at (Xp.old (Xp.old (Xp.new hB.out (lt_some q6.out)))) hby.out
 have j1:=hid (ins_of hbz).1
 have j2:=hid (ins_of hbz).2
 replace H3:=hid H3
 replace hbz:=hid hbz
 clear K3
 go_wp2_with fail
 refine hK.out _ _ (⟨j1.out,j2.out⟩) (fun hHeld3=>?_)
 try simp only [aS,aN,aT,a0,a1]
 refine wpAnyH_done (by kernel_rfl) ?_ _
 go_wp2
 go_end0
 exact HDB.out _ H3.out.x
end
end Go.Proofs.Ytgiiapenmjollaa
