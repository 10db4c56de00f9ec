import Derived.Test.YtgiiapenmjollaaSlbf
namespace Go.Proofs.Ytgiiapenmjollaa
set_option linter.all false
set_option maxHeartbeats 40000000
open Go.RowKit
section
open Go.Maps (Keyed has)
theorem s13 {s:Nat} {Z:Nat→Prop} {W w0 w':World} {g:Mg} {h:Hp} {L:List Kl} {n B mb mo:Nat} {a:Mc} {y:Kl} {op ia ib ic ii:Int} {Q P:Option Addr} {nq q nt p:Nat} (H:RR s (Xp Z n W.heap.size) W w0 g w' h L) (hy:y∈L) (hya:y.a=a) (hB:n≤B)
  (hBo:W.heap[B]?=some (.cells #[.int .i64 op,.int .i64 ia,.int .i64 ib,.int .i64 ic,.int .i64 ii,.slice Q nq q] 51 (0,0))) (hM:g.M=some ⟨mb,mo,none⟩) (hp:w0.cell? ⟨mb,mo+ia.toNat * 8,none⟩=some (.slice P nt p)) :
  w'.cell? ⟨a.q,1,none⟩=some (.pointer (some ⟨g.r,0,none⟩))∧w'.cell? ⟨B,1,none⟩=some (.int .i64 ia)∧w'.cell? ⟨g.r,1,none⟩=some (.slice (some ⟨mb,mo,none⟩) h.file.methods.length g.m)∧w'.cell? ⟨mb,mo+ia.toNat * 8,none⟩=some (.slice P nt p):=by
 have hb:=H.own (w':=W) hB hBo
 obtain ⟨vc,vo,vx,R,hl,-,-,-⟩:=H
 have hc:=(hl.mem hy).blk
 rw [hya] at hc
 refine ⟨?_,?_,?_,R.bl.cell hp⟩
 ·rw [cell_blk hc];rfl
 ·rw [cell_blk hb];rfl
 ·rw [cell_blk R.run,←hM];rfl
set_option maxRecDepth 100000 in
theorem do_call_go (Z:Nat→Prop) (wx w0:World) (g:Mg) (h:Hp) (a:Mc) (c:Cal) (vs0:Value) (l0:List Va) (L:List Kl) (w:World) (H0:RR 1 Z wx w0 g w h (⟨a,c,vs0,l0⟩::L)) (op ia ib ic ii:Int) (args:List Int) (cb co:Nat) (Q:Option Addr) (q n:Nat) (A:AtI w a c ⟨op,ia,ib,ic,ii,args⟩ cb co Q q n) (hop:op=19) (mb mo:Nat) (P:Option Addr) (p:Nat) (ts:List Ty) (hM:g.M=some ⟨mb,mo,none⟩) (hia:0≤ia∧ia<(h.file.methods.length:Int)) (hmp:w0.cell? ⟨mb,mo+ia.toNat * 8,none⟩=some (.slice P ts.length p)) (hlen:h.file.methods.length≤8) (us:List Va) (c':Cal) (PK:Kl→Prop) (hT:∀Z wx w,RR 1 Z wx w0 g w h (⟨a,c,vs0,l0⟩::L)→Calls Try.prog 91 #[.pointer (some ⟨a.q,0,none⟩),.slice P ts.length p] w fun e w'=>∃b,e=.returned (.slice (some ⟨b,0,none⟩) ts.length ts.length)∧LBox w' b us∧∃vs' l',RR 1 Z wx w0 g w' h (⟨a,c',vs',l'⟩::L))
  (hC:∀Z wx w b vs' l',RR 1 Z wx w0 g w h (⟨a,c',vs',l'⟩::L)→LBox w b us→Calls Try.prog 71 #[.pointer (some ⟨g.r,0,none⟩),.int .i64 ia,.slice (some ⟨b,0,none⟩) ts.length ts.length] w fun e w'=>e=.returned (.tuple #[])∧∃k2,PK k2∧RR 1 Z wx w0 g w' h (k2::⟨a,c',vs',l'⟩::L)) :
  Calls Try.prog 66 #[.pointer (some ⟨a.q,0,none⟩)] w fun e w'=>e=.returned (.tuple #[])∧∃k2 vs' l',PK k2∧RR 1 Z wx w0 g w' h (k2::⟨a,c',vs',l'⟩::L):=by
 have HTT:=hid hT
 have HCC:=hid hC
 have HR:=hid H0
 have H:=H0.top
 dsimp only at H
 have HM:=hid hM
 have HMP:=hid hmp
 obtain ⟨hia0,hia1⟩:=hia
 have HH:=hid H
 have HOP:=hid hop
 obtain ⟨c10,fz,c8,hq,hcl,hlt,HAP,hn0,hn1,hd0,HT8,fzn,fzm⟩:=dpm H A
 have e1:(op==11)=false:=by simp [hop]
 have e2:(op==12)=false:=by simp [hop]
 have e3:(op==13)=false:=by simp [hop]
 have e4:(op==19)=true:=by simp [hop]
 clear H H0 hM hmp A hop hT hC
 go_enter Try.func66,Try.ntmps66
 go_wp2
 go_quiet (fail)
 go_wp2
 refine wp_region_held_drew (S:=fun w'=>w'.cell? ⟨a.q,8,none⟩=some (.slice (some ⟨cb,co,none⟩) c.m.code.length a.c)∧w'.cell? ⟨a.q,10,none⟩=some (.int .i64 (n:Int))∧w'.cell? ⟨cb,co+n*6,none⟩=some (.int .i64 op)∧w'.cell? ⟨cb,co+n*6+1,none⟩=some (.int .i64 ia)∧w'.cell? ⟨cb,co+n*6+2,none⟩=some (.int .i64 ib)∧w'.cell? ⟨cb,co+n*6+3,none⟩=some (.int .i64 ic)∧w'.cell? ⟨cb,co+n*6+4,none⟩=some (.int .i64 ii)∧w'.cell? ⟨cb,co+n*6+5,none⟩=some (.slice Q args.length q)) (by kernel_rfl) ?_ (fun hHeld0=>?_)
 ·exact HT8.out _ (bl_drewN (Bl.refl w) _).drew
 refine tk (i:=0) (d:=some 15) rfl rfl (by kernel_rfl) (fun _ _ _ h=>h) (by rfl) (by intro _ h;(try dsimp only at h);go_split_ands;go_simp<;>with_reducible rfl) hHeld0 ?_
 try simp only [aS,aN,aT,a0,a1]
 refine tk (i:=1) (d:=some 16) rfl rfl (by kernel_rfl) (fun _ _ _ h=>h) (by rfl) (by intro _ h;(try dsimp only at h);go_split_ands;go_simp<;>with_reducible rfl) hHeld0 ?_
 try simp only [aS,aN,aT,a0,a1]
 refine tk (i:=2) (d:=some 17) rfl rfl (by kernel_rfl) (fun _ _ _ h=>h) (by rfl) (by intro _ h;(try dsimp only at h);go_split_ands;go_simp<;>with_reducible rfl) hHeld0 ?_
 try simp only [aS,aN,aT,a0,a1]
 refine tk (i:=3) (d:=some 18) rfl rfl (by kernel_rfl) (fun _ _ _ h=>h) (by rfl) (by intro _ h;(try dsimp only at h);go_split_ands;go_simp<;>with_reducible rfl) hHeld0 ?_
 try simp only [aS,aN,aT,a0,a1]
 refine tk (i:=4) (d:=some 19) rfl rfl (by kernel_rfl) (fun _ _ _ h=>h) (by rfl) (by intro _ h;(try dsimp only at h);go_split_ands;go_simp<;>with_reducible rfl) hHeld0 ?_
 try simp only [aS,aN,aT,a0,a1]
 refine tk (i:=5) (d:=some 20) rfl rfl (by kernel_rfl) (fun _ _ _ h=>h) (by rfl) (by intro _ h;(try dsimp only at h);go_split_ands;go_simp<;>with_reducible rfl) hHeld0 ?_
 try simp only [aS,aN,aT,a0,a1]
 refine tk (i:=6) (d:=some 21) rfl rfl (by kernel_rfl) (fun _ _ _ h=>h) (by rfl) (by intro _ h;(try dsimp only at h);go_split_ands;go_simp<;>with_reducible rfl) hHeld0 ?_
 try simp only [aS,aN,aT,a0,a1]
 refine tk (i:=7) (d:=some 22) rfl rfl (by kernel_rfl) (fun _ _ _ h=>h) (by rfl) (by intro _ h;(try dsimp only at h);go_split_ands;go_simp<;>with_reducible rfl) hHeld0 ?_
 try simp only [aS,aN,aT,a0,a1]
 refine tk (i:=8) (d:=some 23) rfl rfl (by kernel_rfl) (fun _ _ _ h=>h) (by rfl) (by intro _ h;(try dsimp only at h);go_split_ands;go_simp<;>with_reducible rfl) hHeld0 ?_
 try simp only [aS,aN,aT,a0,a1]
 refine tk (i:=9) (d:=some 24) rfl rfl (by kernel_rfl) (fun _ _ _ h=>h) (by rfl) (by intro _ h;(try dsimp only at h);go_split_ands;go_simp<;>with_reducible rfl) hHeld0 ?_
 try simp only [aS,aN,aT,a0,a1]
 refine tk (i:=10) (d:=some 25) rfl rfl (by kernel_rfl) (fun _ _ _ h=>h) (by rfl) (by intro _ h;(try dsimp only at h);go_split_ands;go_simp<;>with_reducible rfl) hHeld0 ?_
 try simp only [aS,aN,aT,a0,a1]
 refine rd1 (i:=11) (by kernel_rfl) rfl fun K hK=>?_
 go_wp2_with fail
 refine hK.out _ _ (HT8.out _ ((bl_drewN (Bl.refl w) _).alloc _)) (fun hHeld1=>?_)
 try simp only [aS,aN,aT,a0,a1]
 refine rd1 (i:=12) (by kernel_rfl) rfl fun K hK=>?_
 obtain ⟨B,hBB⟩:∃B,B=w.heap.size:=⟨_,rfl⟩
 obtain ⟨hVb,v0,v1,v2,v3,v4,v5,fzV,qB,hB⟩:=insN w (nq+1) B hBB
 simp only [←hBB]
 clear hHeld1 hBB
 generalize (w.drewN (nq+1)).alloc (.cells #[.int .i64 0,.int .i64 0,.int .i64 0,.int .i64 0,.int .i64 0,.slice none 0 0] 51)=V at *
 go_wp2_with fail
 obtain ⟨hV6,ZZ,q6⟩:=insS hVb hB v0 v1 v2 v3 v4 v5 fzV qB (.int .i64 op) (.int .i64 ia) (.int .i64 ib) (.int .i64 ic) (.int .i64 ii) (.slice Q args.length q)
 generalize (((((V.setCell ⟨B,0,none⟩ (.int .i64 op)).setCell ⟨B,1,none⟩ (.int .i64 ia)).setCell ⟨B,2,none⟩ (.int .i64 ib)).setCell ⟨B,3,none⟩ (.int .i64 ic)).setCell ⟨B,4,none⟩ (.int .i64 ii)).setCell ⟨B,5,none⟩ (.slice Q args.length q)=V6 at *
 refine hK.out _ _ (HT8.out _ hV6.out) (fun hHeld2=>?_)
 clear v0 v1 v2 v3 v4 v5 fzV hVb qB V
 obtain ⟨z0,z1,z2,z3,z4,z5,fz6⟩:=ZZ.out
 try simp only [aS,aN,aT,a0,a1]
 refine wpAnyH_done (by kernel_rfl) ?_ _
 go_wp2
 refine wp_region_held_drew (S:=fun w'=>w'.cell? ⟨a.q,1,none⟩=some (.pointer (some ⟨g.r,0,none⟩))∧w'.cell? ⟨B,1,none⟩=some (.int .i64 ia)∧w'.cell? ⟨g.r,1,none⟩=some (.slice (some ⟨mb,mo,none⟩) h.file.methods.length g.m)∧w'.cell? ⟨mb,mo+ia.toNat * 8,none⟩=some (.slice P ts.length p)) (by kernel_rfl) ?_ (fun hHeld0=>?_)
 ·exact s13 (HR.out.wide hV6.out.drew) List.mem_cons_self rfl hB.out (show V6.drew.heap[B]?=_ from q6.out) HM.out HMP.out
 refine tk (i:=0) (d:=some 68) rfl rfl (by kernel_rfl) (fun _ _ _ h=>h) (by rfl) (by intro _ h;(try dsimp only at h);go_split_ands;go_simp<;>with_reducible rfl) hHeld0 ?_
 try simp only [aS,aN,aT,a0,a1]
 refine tk (i:=1) (d:=some 69) rfl rfl (by kernel_rfl) (fun _ _ _ h=>h) (by rfl) (by intro _ h;(try dsimp only at h);go_split_ands;go_simp<;>with_reducible rfl) hHeld0 ?_
 try simp only [aS,aN,aT,a0,a1]
 refine tk (i:=2) (d:=some 70) rfl rfl (by kernel_rfl) (fun _ _ _ h=>h) (by rfl) (by intro _ h;(try dsimp only at h);go_split_ands;go_simp<;>with_reducible rfl) hHeld0 ?_
 try simp only [aS,aN,aT,a0,a1]
 refine tk (i:=3) (d:=some 71) rfl rfl (by kernel_rfl) (fun _ _ _ h=>h) (by rfl) (by intro _ h;(try dsimp only at h);go_split_ands;go_simp<;>with_reducible rfl) hHeld0 ?_
 try simp only [aS,aN,aT,a0,a1]
 refine tk (i:=4) (d:=some 72) rfl rfl (by kernel_rfl) (fun _ _ _ h=>h) (by rfl) (by intro _ h;(try dsimp only at h);go_split_ands;go_simp<;>with_reducible rfl) hHeld0 ?_
 try simp only [aS,aN,aT,a0,a1]
 refine tk (i:=5) (d:=some 73) rfl rfl (by kernel_rfl) (fun _ _ _ h=>h) (by rfl) (by intro _ h;(try dsimp only at h);go_split_ands;go_simp<;>with_reducible rfl) hHeld0 ?_
 try simp only [aS,aN,aT,a0,a1]
 refine tk (i:=6) (d:=some 74) rfl rfl (by kernel_rfl) (fun _ _ _ h=>h) (by rfl) (by intro _ h;(try dsimp only at h);go_split_ands;go_simp<;>with_reducible rfl) hHeld0 ?_
 try simp only [aS,aN,aT,a0,a1]
 refine tk (i:=7) (d:=some 75) rfl rfl (by kernel_rfl) (fun _ _ _ h=>h) (by rfl) (by intro _ h;(try dsimp only at h);go_split_ands;go_simp<;>with_reducible rfl) hHeld0 ?_
 try simp only [aS,aN,aT,a0,a1]
 refine tk (i:=8) (d:=some 76) rfl rfl (by kernel_rfl) (fun _ _ _ h=>h) (by rfl) (by intro _ h;(try dsimp only at h);go_split_ands;go_simp<;>with_reducible rfl) hHeld0 ?_
 try simp only [aS,aN,aT,a0,a1]
 refine tk (i:=9) (d:=some 77) rfl rfl (by kernel_rfl) (fun _ _ _ h=>h) (by rfl) (by intro _ h;(try dsimp only at h);go_split_ands;go_simp<;>with_reducible rfl) hHeld0 ?_
 try simp only [aS,aN,aT,a0,a1]
 refine tk (i:=10) (d:=some 78) rfl rfl (by kernel_rfl) (fun _ _ _ h=>h) (by rfl) (by intro _ h;(try dsimp only at h);go_split_ands;go_simp<;>with_reducible rfl) hHeld0 ?_
 try simp only [aS,aN,aT,a0,a1]
 refine tk (i:=11) (d:=some 79) rfl rfl (by kernel_rfl) (fun _ _ _ h=>h) (by rfl) (by intro _ h;(try dsimp only at h);go_split_ands;go_simp<;>with_reducible rfl) hHeld0 ?_
 try simp only [aS,aN,aT,a0,a1]
 refine tk (i:=12) (d:=some 80) rfl rfl (by kernel_rfl) (fun _ _ _ h=>h) (by rfl) (by intro _ h;(try dsimp only at h);go_split_ands;go_simp<;>with_reducible rfl) hHeld0 ?_
 try simp only [aS,aN,aT,a0,a1]
 refine tk (i:=13) (d:=some 81) rfl rfl (by kernel_rfl) (fun _ _ _ h=>h) (by rfl) (by intro _ h;(try dsimp only at h);go_split_ands;go_simp<;>with_reducible rfl) hHeld0 ?_
 try simp only [aS,aN,aT,a0,a1]
 refine tk (i:=14) (d:=some 82) rfl rfl (by kernel_rfl) (fun _ _ _ h=>h) (by rfl) (by intro _ h;(try dsimp only at h);go_split_ands;go_simp<;>with_reducible rfl) hHeld0 ?_
 try simp only [aS,aN,aT,a0,a1]
 refine tk (i:=15) (d:=some 83) rfl rfl (by kernel_rfl) (fun _ _ _ h=>h) (by rfl) (by intro _ h;(try dsimp only at h);go_split_ands;go_simp<;>with_reducible rfl) hHeld0 ?_
 try simp only [aS,aN,aT,a0,a1]
 refine tk (i:=16) (d:=some 84) rfl rfl (by kernel_rfl) (fun _ _ _ h=>h) (by rfl) (by intro _ h;(try dsimp only at h);go_split_ands;go_simp<;>with_reducible rfl) hHeld0 ?_
 try simp only [aS,aN,aT,a0,a1]
 refine tk (i:=17) (d:=some 85) rfl rfl (by kernel_rfl) (fun _ _ _ h=>h) (by rfl) (by intro _ h;(try dsimp only at h);go_split_ands;go_simp<;>with_reducible rfl) hHeld0 ?_
 try simp only [aS,aN,aT,a0,a1]
 refine tk (i:=18) (d:=some 86) rfl rfl (by kernel_rfl) (fun _ _ _ h=>h) (by rfl) (by intro _ h;(try dsimp only at h);go_split_ands;go_simp<;>with_reducible rfl) hHeld0 ?_
 try simp only [aS,aN,aT,a0,a1]
 refine rd1 (i:=19) (by kernel_rfl) rfl fun K hK=>?_
 go_simp
 go_at_call 91
 refine (HTT.out _ _ _ (HR.out.wide hV6.out.drew)).mono ?_
 rintro e w1 ⟨b,rfl,LB,vs',l',H1⟩
 have s1:=s13 H1 List.mem_cons_self rfl hB.out (show V6.drew.heap[B]?=_ from q6.out) HM.out HMP.out
 have hs1:=hid s1
 have hLB:=hid LB
 replace H1:=hid H1
 clear s1 LB
 go_wp2_with fail
 refine hK.out _ _ (hs1.out) (fun hHeld1=>?_)
 try simp only [aS,aN,aT,a0,a1]
 refine rd1 (i:=20) (by kernel_rfl) rfl fun K hK=>?_
 go_simp
 go_at_call 71
 refine (HCC.out _ _ _ b vs' l' H1.out hLB.out).mono ?_
 rintro e w2 ⟨rfl,k2,hk2,H2⟩
 have s2:=s13 H2 (List.mem_cons_of_mem _ List.mem_cons_self) rfl hB.out (show V6.drew.heap[B]?=_ from q6.out) HM.out HMP.out
 have hs2:=hid s2
 replace H2:=hid H2
 clear s2
 go_wp2_with fail
 refine hK.out _ _ (hs2.out) (fun hHeld2=>?_)
 try simp only [aS,aN,aT,a0,a1]
 refine wpAnyH_done (by kernel_rfl) ?_ _
 go_wp2
 go_end0
 exact ⟨rfl,k2,vs',l',hk2,HR.out.back hV6.out.drew H2.out⟩
set_option maxRecDepth 100000 in
theorem do_call_deep (Z:Nat→Prop) (wx w0:World) (g:Mg) (h:Hp) (a:Mc) (c:Cal) (vs0:Value) (l0:List Va) (L:List Kl) (w:World) (H0:RR 1 Z wx w0 g w h (⟨a,c,vs0,l0⟩::L)) (op ia ib ic ii:Int) (args:List Int) (cb co:Nat) (Q:Option Addr) (q n:Nat) (A:AtI w a c ⟨op,ia,ib,ic,ii,args⟩ cb co Q q n) (hop:op=19) (mb mo:Nat) (P:Option Addr) (p:Nat) (ts:List Ty) (hM:g.M=some ⟨mb,mo,none⟩) (hia:0≤ia∧ia<(h.file.methods.length:Int)) (hmp:w0.cell? ⟨mb,mo+ia.toNat * 8,none⟩=some (.slice P ts.length p)) (hlen:h.file.methods.length≤8) (us:List Va) (c':Cal) (hT:∀Z wx w,RR 1 Z wx w0 g w h (⟨a,c,vs0,l0⟩::L)→Calls Try.prog 91 #[.pointer (some ⟨a.q,0,none⟩),.slice P ts.length p] w fun e w'=>∃b,e=.returned (.slice (some ⟨b,0,none⟩) ts.length ts.length)∧LBox w' b us∧∃vs' l',RR 1 Z wx w0 g w' h (⟨a,c',vs',l'⟩::L))
  (hC:∀Z wx w b vs' l',RR 1 Z wx w0 g w h (⟨a,c',vs',l'⟩::L)→LBox w b us→Calls Try.prog 71 #[.pointer (some ⟨g.r,0,none⟩),.int .i64 ia,.slice (some ⟨b,0,none⟩) ts.length ts.length] w fun e w'=>e=stopE 5 0 0∧RR 1 Z wx w0 g w' h (⟨a,c',vs',l'⟩::L)) :
  Calls Try.prog 66 #[.pointer (some ⟨a.q,0,none⟩)] w fun e w'=>e=stopE 5 0 0∧∃vs' l',RR 1 Z wx w0 g w' h (⟨a,c',vs',l'⟩::L):=by
 have HTT:=hid hT
 have HCC:=hid hC
 have HR:=hid H0
 have H:=H0.top
 dsimp only at H
 have HM:=hid hM
 have HMP:=hid hmp
 obtain ⟨hia0,hia1⟩:=hia
 have HH:=hid H
 have HOP:=hid hop
 obtain ⟨c10,fz,c8,hq,hcl,hlt,HAP,hn0,hn1,hd0,HT8,fzn,fzm⟩:=dpm H A
 have e1:(op==11)=false:=by simp [hop]
 have e2:(op==12)=false:=by simp [hop]
 have e3:(op==13)=false:=by simp [hop]
 have e4:(op==19)=true:=by simp [hop]
 clear H H0 hM hmp A hop hT hC
 go_enter Try.func66,Try.ntmps66
 go_wp2
 go_quiet (fail)
 go_wp2
 refine wp_region_held_drew (S:=fun w'=>w'.cell? ⟨a.q,8,none⟩=some (.slice (some ⟨cb,co,none⟩) c.m.code.length a.c)∧w'.cell? ⟨a.q,10,none⟩=some (.int .i64 (n:Int))∧w'.cell? ⟨cb,co+n*6,none⟩=some (.int .i64 op)∧w'.cell? ⟨cb,co+n*6+1,none⟩=some (.int .i64 ia)∧w'.cell? ⟨cb,co+n*6+2,none⟩=some (.int .i64 ib)∧w'.cell? ⟨cb,co+n*6+3,none⟩=some (.int .i64 ic)∧w'.cell? ⟨cb,co+n*6+4,none⟩=some (.int .i64 ii)∧w'.cell? ⟨cb,co+n*6+5,none⟩=some (.slice Q args.length q)) (by kernel_rfl) ?_ (fun hHeld0=>?_)
 ·exact HT8.out _ (bl_drewN (Bl.refl w) _).drew
 refine tk (i:=0) (d:=some 15) rfl rfl (by kernel_rfl) (fun _ _ _ h=>h) (by rfl) (by intro _ h;(try dsimp only at h);go_split_ands;go_simp<;>with_reducible rfl) hHeld0 ?_
 try simp only [aS,aN,aT,a0,a1]
 refine tk (i:=1) (d:=some 16) rfl rfl (by kernel_rfl) (fun _ _ _ h=>h) (by rfl) (by intro _ h;(try dsimp only at h);go_split_ands;go_simp<;>with_reducible rfl) hHeld0 ?_
 try simp only [aS,aN,aT,a0,a1]
 refine tk (i:=2) (d:=some 17) rfl rfl (by kernel_rfl) (fun _ _ _ h=>h) (by rfl) (by intro _ h;(try dsimp only at h);go_split_ands;go_simp<;>with_reducible rfl) hHeld0 ?_
 try simp only [aS,aN,aT,a0,a1]
 refine tk (i:=3) (d:=some 18) rfl rfl (by kernel_rfl) (fun _ _ _ h=>h) (by rfl) (by intro _ h;(try dsimp only at h);go_split_ands;go_simp<;>with_reducible rfl) hHeld0 ?_
 try simp only [aS,aN,aT,a0,a1]
 refine tk (i:=4) (d:=some 19) rfl rfl (by kernel_rfl) (fun _ _ _ h=>h) (by rfl) (by intro _ h;(try dsimp only at h);go_split_ands;go_simp<;>with_reducible rfl) hHeld0 ?_
 try simp only [aS,aN,aT,a0,a1]
 refine tk (i:=5) (d:=some 20) rfl rfl (by kernel_rfl) (fun _ _ _ h=>h) (by rfl) (by intro _ h;(try dsimp only at h);go_split_ands;go_simp<;>with_reducible rfl) hHeld0 ?_
 try simp only [aS,aN,aT,a0,a1]
 refine tk (i:=6) (d:=some 21) rfl rfl (by kernel_rfl) (fun _ _ _ h=>h) (by rfl) (by intro _ h;(try dsimp only at h);go_split_ands;go_simp<;>with_reducible rfl) hHeld0 ?_
 try simp only [aS,aN,aT,a0,a1]
 refine tk (i:=7) (d:=some 22) rfl rfl (by kernel_rfl) (fun _ _ _ h=>h) (by rfl) (by intro _ h;(try dsimp only at h);go_split_ands;go_simp<;>with_reducible rfl) hHeld0 ?_
 try simp only [aS,aN,aT,a0,a1]
 refine tk (i:=8) (d:=some 23) rfl rfl (by kernel_rfl) (fun _ _ _ h=>h) (by rfl) (by intro _ h;(try dsimp only at h);go_split_ands;go_simp<;>with_reducible rfl) hHeld0 ?_
 try simp only [aS,aN,aT,a0,a1]
 refine tk (i:=9) (d:=some 24) rfl rfl (by kernel_rfl) (fun _ _ _ h=>h) (by rfl) (by intro _ h;(try dsimp only at h);go_split_ands;go_simp<;>with_reducible rfl) hHeld0 ?_
 try simp only [aS,aN,aT,a0,a1]
 refine tk (i:=10) (d:=some 25) rfl rfl (by kernel_rfl) (fun _ _ _ h=>h) (by rfl) (by intro _ h;(try dsimp only at h);go_split_ands;go_simp<;>with_reducible rfl) hHeld0 ?_
 try simp only [aS,aN,aT,a0,a1]
 refine rd1 (i:=11) (by kernel_rfl) rfl fun K hK=>?_
 go_wp2_with fail
 refine hK.out _ _ (HT8.out _ ((bl_drewN (Bl.refl w) _).alloc _)) (fun hHeld1=>?_)
 try simp only [aS,aN,aT,a0,a1]
 refine rd1 (i:=12) (by kernel_rfl) rfl fun K hK=>?_
 obtain ⟨B,hBB⟩:∃B,B=w.heap.size:=⟨_,rfl⟩
 obtain ⟨hVb,v0,v1,v2,v3,v4,v5,fzV,qB,hB⟩:=insN w (nq+1) B hBB
 simp only [←hBB]
 clear hHeld1 hBB
 generalize (w.drewN (nq+1)).alloc (.cells #[.int .i64 0,.int .i64 0,.int .i64 0,.int .i64 0,.int .i64 0,.slice none 0 0] 51)=V at *
 go_wp2_with fail
 obtain ⟨hV6,ZZ,q6⟩:=insS hVb hB v0 v1 v2 v3 v4 v5 fzV qB (.int .i64 op) (.int .i64 ia) (.int .i64 ib) (.int .i64 ic) (.int .i64 ii) (.slice Q args.length q)
 generalize (((((V.setCell ⟨B,0,none⟩ (.int .i64 op)).setCell ⟨B,1,none⟩ (.int .i64 ia)).setCell ⟨B,2,none⟩ (.int .i64 ib)).setCell ⟨B,3,none⟩ (.int .i64 ic)).setCell ⟨B,4,none⟩ (.int .i64 ii)).setCell ⟨B,5,none⟩ (.slice Q args.length q)=V6 at *
 refine hK.out _ _ (HT8.out _ hV6.out) (fun hHeld2=>?_)
 clear v0 v1 v2 v3 v4 v5 fzV hVb qB V
 obtain ⟨z0,z1,z2,z3,z4,z5,fz6⟩:=ZZ.out
 try simp only [aS,aN,aT,a0,a1]
 refine wpAnyH_done (by kernel_rfl) ?_ _
 go_wp2
 refine wp_region_held_drew (S:=fun w'=>w'.cell? ⟨a.q,1,none⟩=some (.pointer (some ⟨g.r,0,none⟩))∧w'.cell? ⟨B,1,none⟩=some (.int .i64 ia)∧w'.cell? ⟨g.r,1,none⟩=some (.slice (some ⟨mb,mo,none⟩) h.file.methods.length g.m)∧w'.cell? ⟨mb,mo+ia.toNat * 8,none⟩=some (.slice P ts.length p)) (by kernel_rfl) ?_ (fun hHeld0=>?_)
 ·exact s13 (HR.out.wide hV6.out.drew) List.mem_cons_self rfl hB.out (show V6.drew.heap[B]?=_ from q6.out) HM.out HMP.out
 refine tk (i:=0) (d:=some 68) rfl rfl (by kernel_rfl) (fun _ _ _ h=>h) (by rfl) (by intro _ h;(try dsimp only at h);go_split_ands;go_simp<;>with_reducible rfl) hHeld0 ?_
 try simp only [aS,aN,aT,a0,a1]
 refine tk (i:=1) (d:=some 69) rfl rfl (by kernel_rfl) (fun _ _ _ h=>h) (by rfl) (by intro _ h;(try dsimp only at h);go_split_ands;go_simp<;>with_reducible rfl) hHeld0 ?_
 try simp only [aS,aN,aT,a0,a1]
 refine tk (i:=2) (d:=some 70) rfl rfl (by kernel_rfl) (fun _ _ _ h=>h) (by rfl) (by intro _ h;(try dsimp only at h);go_split_ands;go_simp<;>with_reducible rfl) hHeld0 ?_
 try simp only [aS,aN,aT,a0,a1]
 refine tk (i:=3) (d:=some 71) rfl rfl (by kernel_rfl) (fun _ _ _ h=>h) (by rfl) (by intro _ h;(try dsimp only at h);go_split_ands;go_simp<;>with_reducible rfl) hHeld0 ?_
 try simp only [aS,aN,aT,a0,a1]
 refine tk (i:=4) (d:=some 72) rfl rfl (by kernel_rfl) (fun _ _ _ h=>h) (by rfl) (by intro _ h;(try dsimp only at h);go_split_ands;go_simp<;>with_reducible rfl) hHeld0 ?_
 try simp only [aS,aN,aT,a0,a1]
 refine tk (i:=5) (d:=some 73) rfl rfl (by kernel_rfl) (fun _ _ _ h=>h) (by rfl) (by intro _ h;(try dsimp only at h);go_split_ands;go_simp<;>with_reducible rfl) hHeld0 ?_
 try simp only [aS,aN,aT,a0,a1]
 refine tk (i:=6) (d:=some 74) rfl rfl (by kernel_rfl) (fun _ _ _ h=>h) (by rfl) (by intro _ h;(try dsimp only at h);go_split_ands;go_simp<;>with_reducible rfl) hHeld0 ?_
 try simp only [aS,aN,aT,a0,a1]
 refine tk (i:=7) (d:=some 75) rfl rfl (by kernel_rfl) (fun _ _ _ h=>h) (by rfl) (by intro _ h;(try dsimp only at h);go_split_ands;go_simp<;>with_reducible rfl) hHeld0 ?_
 try simp only [aS,aN,aT,a0,a1]
 refine tk (i:=8) (d:=some 76) rfl rfl (by kernel_rfl) (fun _ _ _ h=>h) (by rfl) (by intro _ h;(try dsimp only at h);go_split_ands;go_simp<;>with_reducible rfl) hHeld0 ?_
 try simp only [aS,aN,aT,a0,a1]
 refine tk (i:=9) (d:=some 77) rfl rfl (by kernel_rfl) (fun _ _ _ h=>h) (by rfl) (by intro _ h;(try dsimp only at h);go_split_ands;go_simp<;>with_reducible rfl) hHeld0 ?_
 try simp only [aS,aN,aT,a0,a1]
 refine tk (i:=10) (d:=some 78) rfl rfl (by kernel_rfl) (fun _ _ _ h=>h) (by rfl) (by intro _ h;(try dsimp only at h);go_split_ands;go_simp<;>with_reducible rfl) hHeld0 ?_
 try simp only [aS,aN,aT,a0,a1]
 refine tk (i:=11) (d:=some 79) rfl rfl (by kernel_rfl) (fun _ _ _ h=>h) (by rfl) (by intro _ h;(try dsimp only at h);go_split_ands;go_simp<;>with_reducible rfl) hHeld0 ?_
 try simp only [aS,aN,aT,a0,a1]
 refine tk (i:=12) (d:=some 80) rfl rfl (by kernel_rfl) (fun _ _ _ h=>h) (by rfl) (by intro _ h;(try dsimp only at h);go_split_ands;go_simp<;>with_reducible rfl) hHeld0 ?_
 try simp only [aS,aN,aT,a0,a1]
 refine tk (i:=13) (d:=some 81) rfl rfl (by kernel_rfl) (fun _ _ _ h=>h) (by rfl) (by intro _ h;(try dsimp only at h);go_split_ands;go_simp<;>with_reducible rfl) hHeld0 ?_
 try simp only [aS,aN,aT,a0,a1]
 refine tk (i:=14) (d:=some 82) rfl rfl (by kernel_rfl) (fun _ _ _ h=>h) (by rfl) (by intro _ h;(try dsimp only at h);go_split_ands;go_simp<;>with_reducible rfl) hHeld0 ?_
 try simp only [aS,aN,aT,a0,a1]
 refine tk (i:=15) (d:=some 83) rfl rfl (by kernel_rfl) (fun _ _ _ h=>h) (by rfl) (by intro _ h;(try dsimp only at h);go_split_ands;go_simp<;>with_reducible rfl) hHeld0 ?_
 try simp only [aS,aN,aT,a0,a1]
 refine tk (i:=16) (d:=some 84) rfl rfl (by kernel_rfl) (fun _ _ _ h=>h) (by rfl) (by intro _ h;(try dsimp only at h);go_split_ands;go_simp<;>with_reducible rfl) hHeld0 ?_
 try simp only [aS,aN,aT,a0,a1]
 refine tk (i:=17) (d:=some 85) rfl rfl (by kernel_rfl) (fun _ _ _ h=>h) (by rfl) (by intro _ h;(try dsimp only at h);go_split_ands;go_simp<;>with_reducible rfl) hHeld0 ?_
 try simp only [aS,aN,aT,a0,a1]
 refine tk (i:=18) (d:=some 86) rfl rfl (by kernel_rfl) (fun _ _ _ h=>h) (by rfl) (by intro _ h;(try dsimp only at h);go_split_ands;go_simp<;>with_reducible rfl) hHeld0 ?_
 try simp only [aS,aN,aT,a0,a1]
 refine rd1 (i:=19) (by kernel_rfl) rfl fun K hK=>?_
 go_simp
 go_at_call 91
 refine (HTT.out _ _ _ (HR.out.wide hV6.out.drew)).mono ?_
 rintro e w1 ⟨b,rfl,LB,vs',l',H1⟩
 have s1:=s13 H1 List.mem_cons_self rfl hB.out (show V6.drew.heap[B]?=_ from q6.out) HM.out HMP.out
 have hs1:=hid s1
 have hLB:=hid LB
 replace H1:=hid H1
 clear s1 LB
 go_wp2_with fail
 refine hK.out _ _ (hs1.out) (fun hHeld1=>?_)
 try simp only [aS,aN,aT,a0,a1]
 refine rd1 (i:=20) (by kernel_rfl) rfl fun K hK=>?_
 go_simp
 go_at_call 71
 refine (HCC.out _ _ _ b vs' l' H1.out hLB.out).mono ?_
 rintro e w2 ⟨rfl,H2⟩
 exact ⟨rfl,rfl,vs',l',HR.out.back hV6.out.drew H2⟩
set_option maxRecDepth 100000 in
theorem do_call_no (Z:Nat→Prop) (wx w0:World) (g:Mg) (h:Hp) (a:Mc) (c:Cal) (vs0:Value) (l0:List Va) (L:List Kl) (w:World) (H0:RR 1 Z wx w0 g w h (⟨a,c,vs0,l0⟩::L)) (op ia ib ic ii:Int) (args:List Int) (cb co:Nat) (Q:Option Addr) (q n:Nat) (A:AtI w a c ⟨op,ia,ib,ic,ii,args⟩ cb co Q q n) (hop:op=19) (mb mo:Nat) (P:Option Addr) (p:Nat) (ts:List Ty) (hM:g.M=some ⟨mb,mo,none⟩) (hia:0≤ia∧ia<(h.file.methods.length:Int)) (hmp:w0.cell? ⟨mb,mo+ia.toNat * 8,none⟩=some (.slice P ts.length p)) (hlen:h.file.methods.length≤8) (hT:∀Z wx w,RR 1 Z wx w0 g w h (⟨a,c,vs0,l0⟩::L)→Calls Try.prog 91 #[.pointer (some ⟨a.q,0,none⟩),.slice P ts.length p] w fun e w'=>e=stopE 6 0 0∧∃k':Kl,k'.a=a∧k'.c.m=c.m∧k'.c.pc=c.pc∧RR 1 Z wx w0 g w' h (k'::L)) :
  Calls Try.prog 66 #[.pointer (some ⟨a.q,0,none⟩)] w fun e w'=>e=stopE 6 0 0∧∃k':Kl,k'.a=a∧k'.c.m=c.m∧k'.c.pc=c.pc∧RR 1 Z wx w0 g w' h (k'::L):=by
 have HTT:=hid hT
 have HR:=hid H0
 have H:=H0.top
 dsimp only at H
 have HM:=hid hM
 have HMP:=hid hmp
 obtain ⟨hia0,hia1⟩:=hia
 have HH:=hid H
 have HOP:=hid hop
 obtain ⟨c10,fz,c8,hq,hcl,hlt,HAP,hn0,hn1,hd0,HT8,fzn,fzm⟩:=dpm H A
 have e1:(op==11)=false:=by simp [hop]
 have e2:(op==12)=false:=by simp [hop]
 have e3:(op==13)=false:=by simp [hop]
 have e4:(op==19)=true:=by simp [hop]
 clear H H0 hM hmp A hop hT
 go_enter Try.func66,Try.ntmps66
 go_wp2
 go_quiet (fail)
 go_wp2
 refine wp_region_held_drew (S:=fun w'=>w'.cell? ⟨a.q,8,none⟩=some (.slice (some ⟨cb,co,none⟩) c.m.code.length a.c)∧w'.cell? ⟨a.q,10,none⟩=some (.int .i64 (n:Int))∧w'.cell? ⟨cb,co+n*6,none⟩=some (.int .i64 op)∧w'.cell? ⟨cb,co+n*6+1,none⟩=some (.int .i64 ia)∧w'.cell? ⟨cb,co+n*6+2,none⟩=some (.int .i64 ib)∧w'.cell? ⟨cb,co+n*6+3,none⟩=some (.int .i64 ic)∧w'.cell? ⟨cb,co+n*6+4,none⟩=some (.int .i64 ii)∧w'.cell? ⟨cb,co+n*6+5,none⟩=some (.slice Q args.length q)) (by kernel_rfl) ?_ (fun hHeld0=>?_)
 ·exact HT8.out _ (bl_drewN (Bl.refl w) _).drew
 refine tk (i:=0) (d:=some 15) rfl rfl (by kernel_rfl) (fun _ _ _ h=>h) (by rfl) (by intro _ h;(try dsimp only at h);go_split_ands;go_simp<;>with_reducible rfl) hHeld0 ?_
 try simp only [aS,aN,aT,a0,a1]
 refine tk (i:=1) (d:=some 16) rfl rfl (by kernel_rfl) (fun _ _ _ h=>h) (by rfl) (by intro _ h;(try dsimp only at h);go_split_ands;go_simp<;>with_reducible rfl) hHeld0 ?_
 try simp only [aS,aN,aT,a0,a1]
 refine tk (i:=2) (d:=some 17) rfl rfl (by kernel_rfl) (fun _ _ _ h=>h) (by rfl) (by intro _ h;(try dsimp only at h);go_split_ands;go_simp<;>with_reducible rfl) hHeld0 ?_
 try simp only [aS,aN,aT,a0,a1]
 refine tk (i:=3) (d:=some 18) rfl rfl (by kernel_rfl) (fun _ _ _ h=>h) (by rfl) (by intro _ h;(try dsimp only at h);go_split_ands;go_simp<;>with_reducible rfl) hHeld0 ?_
 try simp only [aS,aN,aT,a0,a1]
 refine tk (i:=4) (d:=some 19) rfl rfl (by kernel_rfl) (fun _ _ _ h=>h) (by rfl) (by intro _ h;(try dsimp only at h);go_split_ands;go_simp<;>with_reducible rfl) hHeld0 ?_
 try simp only [aS,aN,aT,a0,a1]
 refine tk (i:=5) (d:=some 20) rfl rfl (by kernel_rfl) (fun _ _ _ h=>h) (by rfl) (by intro _ h;(try dsimp only at h);go_split_ands;go_simp<;>with_reducible rfl) hHeld0 ?_
 try simp only [aS,aN,aT,a0,a1]
 refine tk (i:=6) (d:=some 21) rfl rfl (by kernel_rfl) (fun _ _ _ h=>h) (by rfl) (by intro _ h;(try dsimp only at h);go_split_ands;go_simp<;>with_reducible rfl) hHeld0 ?_
 try simp only [aS,aN,aT,a0,a1]
 refine tk (i:=7) (d:=some 22) rfl rfl (by kernel_rfl) (fun _ _ _ h=>h) (by rfl) (by intro _ h;(try dsimp only at h);go_split_ands;go_simp<;>with_reducible rfl) hHeld0 ?_
 try simp only [aS,aN,aT,a0,a1]
 refine tk (i:=8) (d:=some 23) rfl rfl (by kernel_rfl) (fun _ _ _ h=>h) (by rfl) (by intro _ h;(try dsimp only at h);go_split_ands;go_simp<;>with_reducible rfl) hHeld0 ?_
 try simp only [aS,aN,aT,a0,a1]
 refine tk (i:=9) (d:=some 24) rfl rfl (by kernel_rfl) (fun _ _ _ h=>h) (by rfl) (by intro _ h;(try dsimp only at h);go_split_ands;go_simp<;>with_reducible rfl) hHeld0 ?_
 try simp only [aS,aN,aT,a0,a1]
 refine tk (i:=10) (d:=some 25) rfl rfl (by kernel_rfl) (fun _ _ _ h=>h) (by rfl) (by intro _ h;(try dsimp only at h);go_split_ands;go_simp<;>with_reducible rfl) hHeld0 ?_
 try simp only [aS,aN,aT,a0,a1]
 refine rd1 (i:=11) (by kernel_rfl) rfl fun K hK=>?_
 go_wp2_with fail
 refine hK.out _ _ (HT8.out _ ((bl_drewN (Bl.refl w) _).alloc _)) (fun hHeld1=>?_)
 try simp only [aS,aN,aT,a0,a1]
 refine rd1 (i:=12) (by kernel_rfl) rfl fun K hK=>?_
 obtain ⟨B,hBB⟩:∃B,B=w.heap.size:=⟨_,rfl⟩
 obtain ⟨hVb,v0,v1,v2,v3,v4,v5,fzV,qB,hB⟩:=insN w (nq+1) B hBB
 simp only [←hBB]
 clear hHeld1 hBB
 generalize (w.drewN (nq+1)).alloc (.cells #[.int .i64 0,.int .i64 0,.int .i64 0,.int .i64 0,.int .i64 0,.slice none 0 0] 51)=V at *
 go_wp2_with fail
 obtain ⟨hV6,ZZ,q6⟩:=insS hVb hB v0 v1 v2 v3 v4 v5 fzV qB (.int .i64 op) (.int .i64 ia) (.int .i64 ib) (.int .i64 ic) (.int .i64 ii) (.slice Q args.length q)
 generalize (((((V.setCell ⟨B,0,none⟩ (.int .i64 op)).setCell ⟨B,1,none⟩ (.int .i64 ia)).setCell ⟨B,2,none⟩ (.int .i64 ib)).setCell ⟨B,3,none⟩ (.int .i64 ic)).setCell ⟨B,4,none⟩ (.int .i64 ii)).setCell ⟨B,5,none⟩ (.slice Q args.length q)=V6 at *
 refine hK.out _ _ (HT8.out _ hV6.out) (fun hHeld2=>?_)
 clear v0 v1 v2 v3 v4 v5 fzV hVb qB V
 obtain ⟨z0,z1,z2,z3,z4,z5,fz6⟩:=ZZ.out
 try simp only [aS,aN,aT,a0,a1]
 refine wpAnyH_done (by kernel_rfl) ?_ _
 go_wp2
 refine wp_region_held_drew (S:=fun w'=>w'.cell? ⟨a.q,1,none⟩=some (.pointer (some ⟨g.r,0,none⟩))∧w'.cell? ⟨B,1,none⟩=some (.int .i64 ia)∧w'.cell? ⟨g.r,1,none⟩=some (.slice (some ⟨mb,mo,none⟩) h.file.methods.length g.m)∧w'.cell? ⟨mb,mo+ia.toNat * 8,none⟩=some (.slice P ts.length p)) (by kernel_rfl) ?_ (fun hHeld0=>?_)
 ·exact s13 (HR.out.wide hV6.out.drew) List.mem_cons_self rfl hB.out (show V6.drew.heap[B]?=_ from q6.out) HM.out HMP.out
 refine tk (i:=0) (d:=some 68) rfl rfl (by kernel_rfl) (fun _ _ _ h=>h) (by rfl) (by intro _ h;(try dsimp only at h);go_split_ands;go_simp<;>with_reducible rfl) hHeld0 ?_
 try simp only [aS,aN,aT,a0,a1]
 refine tk (i:=1) (d:=some 69) rfl rfl (by kernel_rfl) (fun _ _ _ h=>h) (by rfl) (by intro _ h;(try dsimp only at h);go_split_ands;go_simp<;>with_reducible rfl) hHeld0 ?_
 try simp only [aS,aN,aT,a0,a1]
 refine tk (i:=2) (d:=some 70) rfl rfl (by kernel_rfl) (fun _ _ _ h=>h) (by rfl) (by intro _ h;(try dsimp only at h);go_split_ands;go_simp<;>with_reducible rfl) hHeld0 ?_
 try simp only [aS,aN,aT,a0,a1]
 refine tk (i:=3) (d:=some 71) rfl rfl (by kernel_rfl) (fun _ _ _ h=>h) (by rfl) (by intro _ h;(try dsimp only at h);go_split_ands;go_simp<;>with_reducible rfl) hHeld0 ?_
 try simp only [aS,aN,aT,a0,a1]
 refine tk (i:=4) (d:=some 72) rfl rfl (by kernel_rfl) (fun _ _ _ h=>h) (by rfl) (by intro _ h;(try dsimp only at h);go_split_ands;go_simp<;>with_reducible rfl) hHeld0 ?_
 try simp only [aS,aN,aT,a0,a1]
 refine tk (i:=5) (d:=some 73) rfl rfl (by kernel_rfl) (fun _ _ _ h=>h) (by rfl) (by intro _ h;(try dsimp only at h);go_split_ands;go_simp<;>with_reducible rfl) hHeld0 ?_
 try simp only [aS,aN,aT,a0,a1]
 refine tk (i:=6) (d:=some 74) rfl rfl (by kernel_rfl) (fun _ _ _ h=>h) (by rfl) (by intro _ h;(try dsimp only at h);go_split_ands;go_simp<;>with_reducible rfl) hHeld0 ?_
 try simp only [aS,aN,aT,a0,a1]
 refine tk (i:=7) (d:=some 75) rfl rfl (by kernel_rfl) (fun _ _ _ h=>h) (by rfl) (by intro _ h;(try dsimp only at h);go_split_ands;go_simp<;>with_reducible rfl) hHeld0 ?_
 try simp only [aS,aN,aT,a0,a1]
 refine tk (i:=8) (d:=some 76) rfl rfl (by kernel_rfl) (fun _ _ _ h=>h) (by rfl) (by intro _ h;(try dsimp only at h);go_split_ands;go_simp<;>with_reducible rfl) hHeld0 ?_
 try simp only [aS,aN,aT,a0,a1]
 refine tk (i:=9) (d:=some 77) rfl rfl (by kernel_rfl) (fun _ _ _ h=>h) (by rfl) (by intro _ h;(try dsimp only at h);go_split_ands;go_simp<;>with_reducible rfl) hHeld0 ?_
 try simp only [aS,aN,aT,a0,a1]
 refine tk (i:=10) (d:=some 78) rfl rfl (by kernel_rfl) (fun _ _ _ h=>h) (by rfl) (by intro _ h;(try dsimp only at h);go_split_ands;go_simp<;>with_reducible rfl) hHeld0 ?_
 try simp only [aS,aN,aT,a0,a1]
 refine tk (i:=11) (d:=some 79) rfl rfl (by kernel_rfl) (fun _ _ _ h=>h) (by rfl) (by intro _ h;(try dsimp only at h);go_split_ands;go_simp<;>with_reducible rfl) hHeld0 ?_
 try simp only [aS,aN,aT,a0,a1]
 refine tk (i:=12) (d:=some 80) rfl rfl (by kernel_rfl) (fun _ _ _ h=>h) (by rfl) (by intro _ h;(try dsimp only at h);go_split_ands;go_simp<;>with_reducible rfl) hHeld0 ?_
 try simp only [aS,aN,aT,a0,a1]
 refine tk (i:=13) (d:=some 81) rfl rfl (by kernel_rfl) (fun _ _ _ h=>h) (by rfl) (by intro _ h;(try dsimp only at h);go_split_ands;go_simp<;>with_reducible rfl) hHeld0 ?_
 try simp only [aS,aN,aT,a0,a1]
 refine tk (i:=14) (d:=some 82) rfl rfl (by kernel_rfl) (fun _ _ _ h=>h) (by rfl) (by intro _ h;(try dsimp only at h);go_split_ands;go_simp<;>with_reducible rfl) hHeld0 ?_
 try simp only [aS,aN,aT,a0,a1]
 refine tk (i:=15) (d:=some 83) rfl rfl (by kernel_rfl) (fun _ _ _ h=>h) (by rfl) (by intro _ h;(try dsimp only at h);go_split_ands;go_simp<;>with_reducible rfl) hHeld0 ?_
 try simp only [aS,aN,aT,a0,a1]
 refine tk (i:=16) (d:=some 84) rfl rfl (by kernel_rfl) (fun _ _ _ h=>h) (by rfl) (by intro _ h;(try dsimp only at h);go_split_ands;go_simp<;>with_reducible rfl) hHeld0 ?_
 try simp only [aS,aN,aT,a0,a1]
 refine tk (i:=17) (d:=some 85) rfl rfl (by kernel_rfl) (fun _ _ _ h=>h) (by rfl) (by intro _ h;(try dsimp only at h);go_split_ands;go_simp<;>with_reducible rfl) hHeld0 ?_
 try simp only [aS,aN,aT,a0,a1]
 refine tk (i:=18) (d:=some 86) rfl rfl (by kernel_rfl) (fun _ _ _ h=>h) (by rfl) (by intro _ h;(try dsimp only at h);go_split_ands;go_simp<;>with_reducible rfl) hHeld0 ?_
 try simp only [aS,aN,aT,a0,a1]
 refine rd1 (i:=19) (by kernel_rfl) rfl fun K hK=>?_
 go_simp
 go_at_call 91
 refine (HTT.out _ _ _ (HR.out.wide hV6.out.drew)).mono ?_
 rintro e w1 ⟨rfl,k',d1,d2,d3,H1⟩
 exact ⟨rfl,rfl,k',d1,d2,d3,HR.out.back hV6.out.drew H1⟩
end
end Go.Proofs.Ytgiiapenmjollaa
