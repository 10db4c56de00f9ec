import Derived.Test.YtgiiapenmjollaaGreatSraz
namespace Go.Proofs.YtgiiapenmjollaaGreat
set_option linter.all false
set_option maxHeartbeats 40000000
set_option maxRecDepth 100000
open Go.RowKit
open Go.Value (int)
open Go.IntKind (i64)
variable {h:Hp}
section
open Go.Maps (Keyed has)
theorem NU {s:Nat} {Z:Nat->Prop} {W w0 w':World} {g:Mg} {L:List Kl} {n B mb mo:Nat} {a:Mc} {y:Kl} {op ia ib ic ii:Int} {Q P:Option Addr} {nq q nt p:Nat} (H:RR s (Xp Z n W.heap.size) W w0 g w' h L) (hy:y∈L) (Xz:y.a=a) (hB:n<=B) (XB:W.heap[B]?=some (.cells #[int i64 op,int i64 ia,int i64 ib,int i64 ic,int i64 ii,.slice Q nq q] 55 (0,0))) (hM:g.M=some ⟨mb,mo,none⟩) (hp:w0.cell? ⟨mb,mo+ia.toNat * 8,none⟩=some (.slice P nt p)) :
  w'.cell? ⟨a.q,1,none⟩=some (.pointer (some ⟨g.r,0,none⟩))/\w'.cell? ⟨B,1,none⟩=some (int i64 ia)/\w'.cell? ⟨g.r,1,none⟩=some (.slice (some ⟨mb,mo,none⟩) h.file.methods.length g.m)/\w'.cell? ⟨mb,mo+ia.toNat * 8,none⟩=some (.slice P nt p):=by
 have hb:=H.own (w':=W) hB XB
 obtain ⟨vc,vo,vx,R,hl,-,-,-⟩:=H
 have hc:=(hl.mem hy).blk
 rw [Xz] at hc
 refine ⟨?_,?_,?_,R.bl.cell hp⟩
 ·rw [aa hc];rfl
 ·rw [aa hb];rfl
 ·rw [aa R.run,<-hM];rfl
section
variable (Z:Nat->Prop) (wx w0:World) (g:Mg) (h:Hp) (a:Mc) (c:aH) (Ni:Value) (l0:List Va) (L:List Kl) (w:World)
theorem zl (H0:RR 1 Z wx w0 g w h (⟨a,c,Ni,l0⟩::L)) (op ia ib ic ii:Int) (args:List Int) (cb co:Nat) (Q:Option Addr) (q n:Nat) (A:rU w a c ⟨op,ia,ib,ic,ii,args⟩ cb co Q q n) (hop:op=19) (mb mo:Nat) (P:Option Addr) (p:Nat) (ts:List Ty) (hM:g.M=some ⟨mb,mo,none⟩) (pq:0<=ia/\ia<(h.file.methods.length:Int)) (IY:w0.cell? ⟨mb,mo+ia.toNat * 8,none⟩=some (.slice P ts.length p)) (hlen:h.file.methods.length<=8) (us:List Va) (c':aH) (PK:Kl->Prop) (hT:∀Z wx w,RR 1 Z wx w0 g w h (⟨a,c,Ni,l0⟩::L)->Calls Tryz.prog 91 #[.pointer (some ⟨a.q,0,none⟩),.slice P ts.length p] w fun e w'=>∃b,e=.returned (.slice (some ⟨b,0,none⟩) ts.length ts.length)/\cu w' b us/\∃il l',RR 1 Z wx w0 g w' h (⟨a,c',il,l'⟩::L)) (hC:∀Z wx w b il l',RR 1 Z wx w0 g w h (⟨a,c',il,l'⟩::L)->cu w b us->Calls Tryz.prog 45 #[.pointer (some ⟨g.r,0,none⟩),int i64 ia,.slice (some ⟨b,0,none⟩) ts.length ts.length] w fun e w'=>e=.returned (.tuple #[])/\∃k2,PK k2/\RR 1 Z wx w0 g w' h (k2::⟨a,c',il,l'⟩::L)) :
  Calls Tryz.prog 40 #[.pointer (some ⟨a.q,0,none⟩)] w fun e w'=>e=.returned (.tuple #[])/\∃k2 il l',PK k2/\RR 1 Z wx w0 g w' h (k2::⟨a,c',il,l'⟩::L):=by
 have KQ:=ab hT
 have Su:=ab hC
 have HR:=ab H0
 have H:=H0.top
 dsimp only at H
 have HM:=ab hM
 have Lw:=ab IY
 obtain ⟨PD,PE⟩:=pq
 have HH:=ab H
 have Dn:=ab hop
 obtain ⟨c10,fz,c8,hq,hcl,hlt,CP,kv,kg,eD,gF,xZ,CQ⟩:=Av H A
 have e1:(op==11)=false:=by simp [hop]
 have e2:(op==12)=false:=by simp [hop]
 have e3:(op==13)=false:=by simp [hop]
 have e4:(op==19)=true:=by simp [hop]
 clear H H0 hM IY A hop hT hC
 go_enter Tryz.func40,Tryz.ntmps40
 go_wp2
 go_quiet (fail)
 go_wp2
 refine wp_region_held_drew (S:=fun w'=>w'.cell? ⟨a.q,8,none⟩=some (.slice (some ⟨cb,co,none⟩) c.m.code.length a.c)/\w'.cell? ⟨a.q,10,none⟩=some (int i64 (n:Int))/\w'.cell? ⟨cb,co+n*6,none⟩=some (int i64 op)/\w'.cell? ⟨cb,co+n*6+1,none⟩=some (int i64 ia)/\w'.cell? ⟨cb,co+n*6+2,none⟩=some (int i64 ib)/\w'.cell? ⟨cb,co+n*6+3,none⟩=some (int i64 ic)/\w'.cell? ⟨cb,co+n*6+4,none⟩=some (int i64 ii)/\w'.cell? ⟨cb,co+n*6+5,none⟩=some (.slice Q args.length q)) (by kernel_rfl) ?_ (fun ae=>?_)
 ·exact gF.out _ (aR (Bl.refl w) _).drew
 iterate 11 (refine tn rfl (by kernel_rfl) (fun _ _ _ h=>h) (by intro _ h;go_split_ands;go_simp<;>with_reducible rfl) ae ?_;try simp only [aS,aN,aT,a0,a1])
 refine bI (i:=11) (by kernel_rfl) rfl fun K hK=>?_
 go_wp2_with fail
 refine hK.out _ _ (gF.out _ ((aR (Bl.refl w) _).alloc _)) (fun ah=>?_)
 try simp only [aS,aN,aT,a0,a1]
 refine bI (i:=12) (by kernel_rfl) rfl fun K hK=>?_
 obtain ⟨B,dQ⟩:∃B,B=w.heap.size:=⟨_,rfl⟩
 obtain ⟨iQ,v0,v1,v2,v3,v4,v5,jA,qB,hB⟩:=mS w (nq+1) B dQ
 simp only [<-dQ]
 clear ah dQ
 generalize (w.drewN (nq+1)).alloc (.cells #[int i64 0,int i64 0,int i64 0,int i64 0,int i64 0,.slice none 0 0] 55)=V at *
 go_wp2_with fail
 obtain ⟨gG,ZZ,q6⟩:=mT iQ hB v0 v1 v2 v3 v4 v5 jA qB (int i64 op) (int i64 ia) (int i64 ib) (int i64 ic) (int i64 ii) (.slice Q args.length q)
 generalize (((((V.setCell ⟨B,0,none⟩ (int i64 op)).setCell ⟨B,1,none⟩ (int i64 ia)).setCell ⟨B,2,none⟩ (int i64 ib)).setCell ⟨B,3,none⟩ (int i64 ic)).setCell ⟨B,4,none⟩ (int i64 ii)).setCell ⟨B,5,none⟩ (.slice Q args.length q)=V6 at *
 refine hK.out _ _ (gF.out _ gG.out) (fun aX=>?_)
 clear v0 v1 v2 v3 v4 v5 jA iQ qB V
 obtain ⟨z0,z1,z2,z3,z4,z5,xu⟩:=ZZ.out
 try simp only [aS,aN,aT,a0,a1]
 refine wpAnyH_done (by kernel_rfl) ?_ _
 go_wp2
 refine wp_region_held_drew (S:=fun w'=>w'.cell? ⟨a.q,1,none⟩=some (.pointer (some ⟨g.r,0,none⟩))/\w'.cell? ⟨B,1,none⟩=some (int i64 ia)/\w'.cell? ⟨g.r,1,none⟩=some (.slice (some ⟨mb,mo,none⟩) h.file.methods.length g.m)/\w'.cell? ⟨mb,mo+ia.toNat * 8,none⟩=some (.slice P ts.length p)) (by kernel_rfl) ?_ (fun ae=>?_)
 ·exact NU (HR.out.wide gG.out.drew) List.mem_cons_self rfl hB.out (show V6.drew.heap[B]?=_ from q6.out) HM.out Lw.out
 iterate 19 (refine tn rfl (by kernel_rfl) (fun _ _ _ h=>h) (by intro _ h;go_split_ands;go_simp<;>with_reducible rfl) ae ?_;try simp only [aS,aN,aT,a0,a1])
 refine bI (i:=19) (by kernel_rfl) rfl fun K hK=>?_
 go_simp
 go_at_call 91
 refine (KQ.out _ _ _ (HR.out.wide gG.out.drew)).mono ?_
 rintro e w1 ⟨b,rfl,LB,il,l',H1⟩
 have s1:=NU H1 List.mem_cons_self rfl hB.out (show V6.drew.heap[B]?=_ from q6.out) HM.out Lw.out
 have xU:=ab s1
 have S0:=ab LB
 replace H1:=ab H1
 clear s1 LB
 go_wp2_with fail
 refine hK.out _ _ (xU.out) (fun ah=>?_)
 try simp only [aS,aN,aT,a0,a1]
 refine bI (i:=20) (by kernel_rfl) rfl fun K hK=>?_
 go_simp
 go_at_call 45
 refine (Su.out _ _ _ b il l' H1.out S0.out).mono ?_
 rintro e w2 ⟨rfl,k2,mw,H2⟩
 have s2:=NU H2 (List.mem_cons_of_mem _ List.mem_cons_self) rfl hB.out (show V6.drew.heap[B]?=_ from q6.out) HM.out Lw.out
 have tf:=ab s2
 replace H2:=ab H2
 clear s2
 go_wp2_with fail
 refine hK.out _ _ (tf.out) (fun aX=>?_)
 try simp only [aS,aN,aT,a0,a1]
 refine wpAnyH_done (by kernel_rfl) ?_ _
 go_wp2
 go_end0
 exact ⟨rfl,k2,il,l',mw,HR.out.back gG.out.drew H2.out⟩
theorem tX (H0:RR 1 Z wx w0 g w h (⟨a,c,Ni,l0⟩::L)) (op ia ib ic ii:Int) (args:List Int) (cb co:Nat) (Q:Option Addr) (q n:Nat) (A:rU w a c ⟨op,ia,ib,ic,ii,args⟩ cb co Q q n) (hop:op=19) (mb mo:Nat) (P:Option Addr) (p:Nat) (ts:List Ty) (hM:g.M=some ⟨mb,mo,none⟩) (pq:0<=ia/\ia<(h.file.methods.length:Int)) (IY:w0.cell? ⟨mb,mo+ia.toNat * 8,none⟩=some (.slice P ts.length p)) (hlen:h.file.methods.length<=8) (us:List Va) (c':aH) (hT:∀Z wx w,RR 1 Z wx w0 g w h (⟨a,c,Ni,l0⟩::L)->Calls Tryz.prog 91 #[.pointer (some ⟨a.q,0,none⟩),.slice P ts.length p] w fun e w'=>∃b,e=.returned (.slice (some ⟨b,0,none⟩) ts.length ts.length)/\cu w' b us/\∃il l',RR 1 Z wx w0 g w' h (⟨a,c',il,l'⟩::L)) (hC:∀Z wx w b il l',RR 1 Z wx w0 g w h (⟨a,c',il,l'⟩::L)->cu w b us->Calls Tryz.prog 45 #[.pointer (some ⟨g.r,0,none⟩),int i64 ia,.slice (some ⟨b,0,none⟩) ts.length ts.length] w fun e w'=>e=aV 5 0 0/\RR 1 Z wx w0 g w' h (⟨a,c',il,l'⟩::L)) :
  Calls Tryz.prog 40 #[.pointer (some ⟨a.q,0,none⟩)] w fun e w'=>e=aV 5 0 0/\∃il l',RR 1 Z wx w0 g w' h (⟨a,c',il,l'⟩::L):=by
 have KQ:=ab hT
 have Su:=ab hC
 have HR:=ab H0
 have H:=H0.top
 dsimp only at H
 have HM:=ab hM
 have Lw:=ab IY
 obtain ⟨PD,PE⟩:=pq
 have HH:=ab H
 have Dn:=ab hop
 obtain ⟨c10,fz,c8,hq,hcl,hlt,CP,kv,kg,eD,gF,xZ,CQ⟩:=Av H A
 have e1:(op==11)=false:=by simp [hop]
 have e2:(op==12)=false:=by simp [hop]
 have e3:(op==13)=false:=by simp [hop]
 have e4:(op==19)=true:=by simp [hop]
 clear H H0 hM IY A hop hT hC
 go_enter Tryz.func40,Tryz.ntmps40
 go_wp2
 go_quiet (fail)
 go_wp2
 refine wp_region_held_drew (S:=fun w'=>w'.cell? ⟨a.q,8,none⟩=some (.slice (some ⟨cb,co,none⟩) c.m.code.length a.c)/\w'.cell? ⟨a.q,10,none⟩=some (int i64 (n:Int))/\w'.cell? ⟨cb,co+n*6,none⟩=some (int i64 op)/\w'.cell? ⟨cb,co+n*6+1,none⟩=some (int i64 ia)/\w'.cell? ⟨cb,co+n*6+2,none⟩=some (int i64 ib)/\w'.cell? ⟨cb,co+n*6+3,none⟩=some (int i64 ic)/\w'.cell? ⟨cb,co+n*6+4,none⟩=some (int i64 ii)/\w'.cell? ⟨cb,co+n*6+5,none⟩=some (.slice Q args.length q)) (by kernel_rfl) ?_ (fun ae=>?_)
 ·exact gF.out _ (aR (Bl.refl w) _).drew
 iterate 11 (refine tn rfl (by kernel_rfl) (fun _ _ _ h=>h) (by intro _ h;go_split_ands;go_simp<;>with_reducible rfl) ae ?_;try simp only [aS,aN,aT,a0,a1])
 refine bI (i:=11) (by kernel_rfl) rfl fun K hK=>?_
 go_wp2_with fail
 refine hK.out _ _ (gF.out _ ((aR (Bl.refl w) _).alloc _)) (fun ah=>?_)
 try simp only [aS,aN,aT,a0,a1]
 refine bI (i:=12) (by kernel_rfl) rfl fun K hK=>?_
 obtain ⟨B,dQ⟩:∃B,B=w.heap.size:=⟨_,rfl⟩
 obtain ⟨iQ,v0,v1,v2,v3,v4,v5,jA,qB,hB⟩:=mS w (nq+1) B dQ
 simp only [<-dQ]
 clear ah dQ
 generalize (w.drewN (nq+1)).alloc (.cells #[int i64 0,int i64 0,int i64 0,int i64 0,int i64 0,.slice none 0 0] 55)=V at *
 go_wp2_with fail
 obtain ⟨gG,ZZ,q6⟩:=mT iQ hB v0 v1 v2 v3 v4 v5 jA qB (int i64 op) (int i64 ia) (int i64 ib) (int i64 ic) (int i64 ii) (.slice Q args.length q)
 generalize (((((V.setCell ⟨B,0,none⟩ (int i64 op)).setCell ⟨B,1,none⟩ (int i64 ia)).setCell ⟨B,2,none⟩ (int i64 ib)).setCell ⟨B,3,none⟩ (int i64 ic)).setCell ⟨B,4,none⟩ (int i64 ii)).setCell ⟨B,5,none⟩ (.slice Q args.length q)=V6 at *
 refine hK.out _ _ (gF.out _ gG.out) (fun aX=>?_)
 clear v0 v1 v2 v3 v4 v5 jA iQ qB V
 obtain ⟨z0,z1,z2,z3,z4,z5,xu⟩:=ZZ.out
 try simp only [aS,aN,aT,a0,a1]
 refine wpAnyH_done (by kernel_rfl) ?_ _
 go_wp2
 refine wp_region_held_drew (S:=fun w'=>w'.cell? ⟨a.q,1,none⟩=some (.pointer (some ⟨g.r,0,none⟩))/\w'.cell? ⟨B,1,none⟩=some (int i64 ia)/\w'.cell? ⟨g.r,1,none⟩=some (.slice (some ⟨mb,mo,none⟩) h.file.methods.length g.m)/\w'.cell? ⟨mb,mo+ia.toNat * 8,none⟩=some (.slice P ts.length p)) (by kernel_rfl) ?_ (fun ae=>?_)
 ·exact NU (HR.out.wide gG.out.drew) List.mem_cons_self rfl hB.out (show V6.drew.heap[B]?=_ from q6.out) HM.out Lw.out
 iterate 19 (refine tn rfl (by kernel_rfl) (fun _ _ _ h=>h) (by intro _ h;go_split_ands;go_simp<;>with_reducible rfl) ae ?_;try simp only [aS,aN,aT,a0,a1])
 refine bI (i:=19) (by kernel_rfl) rfl fun K hK=>?_
 go_simp
 go_at_call 91
 refine (KQ.out _ _ _ (HR.out.wide gG.out.drew)).mono ?_
 rintro e w1 ⟨b,rfl,LB,il,l',H1⟩
 have s1:=NU H1 List.mem_cons_self rfl hB.out (show V6.drew.heap[B]?=_ from q6.out) HM.out Lw.out
 have xU:=ab s1
 have S0:=ab LB
 replace H1:=ab H1
 clear s1 LB
 go_wp2_with fail
 refine hK.out _ _ (xU.out) (fun ah=>?_)
 try simp only [aS,aN,aT,a0,a1]
 refine bI (i:=20) (by kernel_rfl) rfl fun K hK=>?_
 go_simp
 go_at_call 45
 refine (Su.out _ _ _ b il l' H1.out S0.out).mono ?_
 rintro e w2 ⟨rfl,H2⟩
 exact ⟨rfl,rfl,il,l',HR.out.back gG.out.drew H2⟩
theorem zr (H0:RR 1 Z wx w0 g w h (⟨a,c,Ni,l0⟩::L)) (op ia ib ic ii:Int) (args:List Int) (cb co:Nat) (Q:Option Addr) (q n:Nat) (A:rU w a c ⟨op,ia,ib,ic,ii,args⟩ cb co Q q n) (hop:op=19) (mb mo:Nat) (P:Option Addr) (p:Nat) (ts:List Ty) (hM:g.M=some ⟨mb,mo,none⟩) (pq:0<=ia/\ia<(h.file.methods.length:Int)) (IY:w0.cell? ⟨mb,mo+ia.toNat * 8,none⟩=some (.slice P ts.length p)) (hlen:h.file.methods.length<=8) (hT:∀Z wx w,RR 1 Z wx w0 g w h (⟨a,c,Ni,l0⟩::L)->Calls Tryz.prog 91 #[.pointer (some ⟨a.q,0,none⟩),.slice P ts.length p] w fun e w'=>e=aV 6 0 0/\∃k':Kl,k'.a=a/\k'.c.m=c.m/\k'.c.pc=c.pc/\RR 1 Z wx w0 g w' h (k'::L)) :
  Calls Tryz.prog 40 #[.pointer (some ⟨a.q,0,none⟩)] w fun e w'=>e=aV 6 0 0/\∃k':Kl,k'.a=a/\k'.c.m=c.m/\k'.c.pc=c.pc/\RR 1 Z wx w0 g w' h (k'::L):=by
 have KQ:=ab hT
 have HR:=ab H0
 have H:=H0.top
 dsimp only at H
 have HM:=ab hM
 have Lw:=ab IY
 obtain ⟨PD,PE⟩:=pq
 have HH:=ab H
 have Dn:=ab hop
 obtain ⟨c10,fz,c8,hq,hcl,hlt,CP,kv,kg,eD,gF,xZ,CQ⟩:=Av H A
 have e1:(op==11)=false:=by simp [hop]
 have e2:(op==12)=false:=by simp [hop]
 have e3:(op==13)=false:=by simp [hop]
 have e4:(op==19)=true:=by simp [hop]
 clear H H0 hM IY A hop hT
 go_enter Tryz.func40,Tryz.ntmps40
 go_wp2
 go_quiet (fail)
 go_wp2
 refine wp_region_held_drew (S:=fun w'=>w'.cell? ⟨a.q,8,none⟩=some (.slice (some ⟨cb,co,none⟩) c.m.code.length a.c)/\w'.cell? ⟨a.q,10,none⟩=some (int i64 (n:Int))/\w'.cell? ⟨cb,co+n*6,none⟩=some (int i64 op)/\w'.cell? ⟨cb,co+n*6+1,none⟩=some (int i64 ia)/\w'.cell? ⟨cb,co+n*6+2,none⟩=some (int i64 ib)/\w'.cell? ⟨cb,co+n*6+3,none⟩=some (int i64 ic)/\w'.cell? ⟨cb,co+n*6+4,none⟩=some (int i64 ii)/\w'.cell? ⟨cb,co+n*6+5,none⟩=some (.slice Q args.length q)) (by kernel_rfl) ?_ (fun ae=>?_)
 ·exact gF.out _ (aR (Bl.refl w) _).drew
 iterate 11 (refine tn rfl (by kernel_rfl) (fun _ _ _ h=>h) (by intro _ h;go_split_ands;go_simp<;>with_reducible rfl) ae ?_;try simp only [aS,aN,aT,a0,a1])
 refine bI (i:=11) (by kernel_rfl) rfl fun K hK=>?_
 go_wp2_with fail
 refine hK.out _ _ (gF.out _ ((aR (Bl.refl w) _).alloc _)) (fun ah=>?_)
 try simp only [aS,aN,aT,a0,a1]
 refine bI (i:=12) (by kernel_rfl) rfl fun K hK=>?_
 obtain ⟨B,dQ⟩:∃B,B=w.heap.size:=⟨_,rfl⟩
 obtain ⟨iQ,v0,v1,v2,v3,v4,v5,jA,qB,hB⟩:=mS w (nq+1) B dQ
 simp only [<-dQ]
 clear ah dQ
 generalize (w.drewN (nq+1)).alloc (.cells #[int i64 0,int i64 0,int i64 0,int i64 0,int i64 0,.slice none 0 0] 55)=V at *
 go_wp2_with fail
 obtain ⟨gG,ZZ,q6⟩:=mT iQ hB v0 v1 v2 v3 v4 v5 jA qB (int i64 op) (int i64 ia) (int i64 ib) (int i64 ic) (int i64 ii) (.slice Q args.length q)
 generalize (((((V.setCell ⟨B,0,none⟩ (int i64 op)).setCell ⟨B,1,none⟩ (int i64 ia)).setCell ⟨B,2,none⟩ (int i64 ib)).setCell ⟨B,3,none⟩ (int i64 ic)).setCell ⟨B,4,none⟩ (int i64 ii)).setCell ⟨B,5,none⟩ (.slice Q args.length q)=V6 at *
 refine hK.out _ _ (gF.out _ gG.out) (fun aX=>?_)
 clear v0 v1 v2 v3 v4 v5 jA iQ qB V
 obtain ⟨z0,z1,z2,z3,z4,z5,xu⟩:=ZZ.out
 try simp only [aS,aN,aT,a0,a1]
 refine wpAnyH_done (by kernel_rfl) ?_ _
 go_wp2
 refine wp_region_held_drew (S:=fun w'=>w'.cell? ⟨a.q,1,none⟩=some (.pointer (some ⟨g.r,0,none⟩))/\w'.cell? ⟨B,1,none⟩=some (int i64 ia)/\w'.cell? ⟨g.r,1,none⟩=some (.slice (some ⟨mb,mo,none⟩) h.file.methods.length g.m)/\w'.cell? ⟨mb,mo+ia.toNat * 8,none⟩=some (.slice P ts.length p)) (by kernel_rfl) ?_ (fun ae=>?_)
 ·exact NU (HR.out.wide gG.out.drew) List.mem_cons_self rfl hB.out (show V6.drew.heap[B]?=_ from q6.out) HM.out Lw.out
 iterate 19 (refine tn rfl (by kernel_rfl) (fun _ _ _ h=>h) (by intro _ h;go_split_ands;go_simp<;>with_reducible rfl) ae ?_;try simp only [aS,aN,aT,a0,a1])
 refine bI (i:=19) (by kernel_rfl) rfl fun K hK=>?_
 go_simp
 go_at_call 91
 refine (KQ.out _ _ _ (HR.out.wide gG.out.drew)).mono ?_
 rintro e w1 ⟨rfl,k',d1,d2,d3,H1⟩
 exact ⟨rfl,rfl,k',d1,d2,d3,HR.out.back gG.out.drew H1⟩
end
end
section
open Go.Maps (Keyed has)
section
variable (X:Nat->Prop) (wx w0:World) (g:Mg) (h:Hp) (qs:List Nat) (a:Mc) (c:aH) (w:World)
theorem Db (H:RX 1 X wx w0 g w h qs a c) (op ia ib ic ii:Int) (args:List Int) (cb co:Nat) (Q:Option Addr) (q n:Nat) (A:rU w a c ⟨op,ia,ib,ic,ii,args⟩ cb co Q q n) (hop:op=20) (hres:(∀X wx w,RX 1 X wx w0 g w h qs a c->Calls Tryz.prog 93 #[.pointer (some ⟨a.q,0,none⟩)] w fun e w'=>e=aV 6 0 0/\RS 1 X wx w0 g w' h qs a c)) :
  Calls Tryz.prog 40 #[.pointer (some ⟨a.q,0,none⟩)] w fun e w'=>e=aV 6 0 0/\RS 1 X wx w0 g w' h qs a c:=by
 have GM:=ab hres
 have HH:=ab H
 have Dn:=ab hop
 obtain ⟨c10,fz,c8,hq,hcl,hlt,CP,kv,kg,eD,gF,xZ,CQ⟩:=Av H A
 have e1:(op==11)=false:=by simp [hop]
 have e2:(op==12)=false:=by simp [hop]
 have e3:(op==13)=false:=by simp [hop]
 have e4:(op==19)=false:=by simp [hop]
 have e5:(op==20)=true:=by simp [hop]
 clear H A hop hres
 go_enter Tryz.func40,Tryz.ntmps40
 go_wp2
 go_quiet (fail)
 go_wp2
 refine wp_region_held_drew (S:=fun w'=>w'.cell? ⟨a.q,8,none⟩=some (.slice (some ⟨cb,co,none⟩) c.m.code.length a.c)/\w'.cell? ⟨a.q,10,none⟩=some (int i64 (n:Int))/\w'.cell? ⟨cb,co+n*6,none⟩=some (int i64 op)/\w'.cell? ⟨cb,co+n*6+1,none⟩=some (int i64 ia)/\w'.cell? ⟨cb,co+n*6+2,none⟩=some (int i64 ib)/\w'.cell? ⟨cb,co+n*6+3,none⟩=some (int i64 ic)/\w'.cell? ⟨cb,co+n*6+4,none⟩=some (int i64 ii)/\w'.cell? ⟨cb,co+n*6+5,none⟩=some (.slice Q args.length q)) (by kernel_rfl) ?_ (fun ae=>?_)
 ·exact gF.out _ (aR (Bl.refl w) _).drew
 iterate 11 (refine tn rfl (by kernel_rfl) (fun _ _ _ h=>h) (by intro _ h;go_split_ands;go_simp<;>with_reducible rfl) ae ?_;try simp only [aS,aN,aT,a0,a1])
 refine bI (i:=11) (by kernel_rfl) rfl fun K hK=>?_
 go_wp2_with fail
 refine hK.out _ _ (gF.out _ ((aR (Bl.refl w) _).alloc _)) (fun ah=>?_)
 try simp only [aS,aN,aT,a0,a1]
 refine bI (i:=12) (by kernel_rfl) rfl fun K hK=>?_
 obtain ⟨B,dQ⟩:∃B,B=w.heap.size:=⟨_,rfl⟩
 obtain ⟨iQ,v0,v1,v2,v3,v4,v5,jA,qB,hB⟩:=mS w (nq+1) B dQ
 simp only [<-dQ]
 clear ah dQ
 generalize (w.drewN (nq+1)).alloc (.cells #[int i64 0,int i64 0,int i64 0,int i64 0,int i64 0,.slice none 0 0] 55)=V at *
 go_wp2_with fail
 obtain ⟨gG,ZZ,q6⟩:=mT iQ hB v0 v1 v2 v3 v4 v5 jA qB (int i64 op) (int i64 ia) (int i64 ib) (int i64 ic) (int i64 ii) (.slice Q args.length q)
 generalize (((((V.setCell ⟨B,0,none⟩ (int i64 op)).setCell ⟨B,1,none⟩ (int i64 ia)).setCell ⟨B,2,none⟩ (int i64 ib)).setCell ⟨B,3,none⟩ (int i64 ic)).setCell ⟨B,4,none⟩ (int i64 ii)).setCell ⟨B,5,none⟩ (.slice Q args.length q)=V6 at *
 refine hK.out _ _ (gF.out _ gG.out) (fun aX=>?_)
 clear v0 v1 v2 v3 v4 v5 jA iQ qB V
 obtain ⟨z0,z1,z2,z3,z4,z5,xu⟩:=ZZ.out
 try simp only [aS,aN,aT,a0,a1]
 refine wpAnyH_done (by kernel_rfl) ?_ _
 go_wp2
 refine wp_region_held_drew (S:=fun w'=>w'.cell? ⟨a.q,1,none⟩=some (.pointer (some ⟨g.r,0,none⟩))) (by kernel_rfl) ?_ (fun ae=>?_)
 ·exact (HH.out.bl gG.out).y.c1
 iterate 5 (refine tn rfl (by kernel_rfl) (fun _ _ _ h=>h) (by intro _ h;go_split_ands;go_simp<;>with_reducible rfl) ae ?_;try simp only [aS,aN,aT,a0,a1])
 refine bI (i:=5) (by kernel_rfl) rfl fun K hK=>?_
 go_simp
 go_at_call 93
 refine (HH.out.y.useN gG.out.drew GM.out).mono ?_
 rintro e w1 ⟨rfl,H1⟩
 exact ⟨rfl,rfl,H1⟩
theorem Dc (H:RX 1 X wx w0 g w h qs a c) (op ia ib ic ii:Int) (args:List Int) (cb co:Nat) (Q:Option Addr) (q n:Nat) (A:rU w a c ⟨op,ia,ib,ic,ii,args⟩ cb co Q q n) (hop:op=20) (v:Va) (c':aH) (Q':World->Prop) (hres:(∀X wx w,RX 1 X wx w0 g w h qs a c->Calls Tryz.prog 93 #[.pointer (some ⟨a.q,0,none⟩)] w fun e w'=>e=.returned (cn v)/\RX 1 X wx w0 g w' h qs a c')) (GN:∀w,RX 1 X wx w0 g w h qs a c'->Calls Tryz.prog 92 #[.pointer (some ⟨g.r,0,none⟩),cn v] w fun e w'=>e=.returned (.tuple #[])/\Q' w'/\w'.heap[a.q]?=w.heap[a.q]?) :
  Calls Tryz.prog 40 #[.pointer (some ⟨a.q,0,none⟩)] w fun e w'=>e=.returned (.tuple #[])/\Q' w':=by
 have GM:=ab hres
 have Nj:=ab GN
 have HH:=ab H
 have Dn:=ab hop
 obtain ⟨c10,fz,c8,hq,hcl,hlt,CP,kv,kg,eD,gF,xZ,CQ⟩:=Av H A
 have e1:(op==11)=false:=by simp [hop]
 have e2:(op==12)=false:=by simp [hop]
 have e3:(op==13)=false:=by simp [hop]
 have e4:(op==19)=false:=by simp [hop]
 have e5:(op==20)=true:=by simp [hop]
 clear H A hop hres GN
 go_enter Tryz.func40,Tryz.ntmps40
 go_wp2
 go_quiet (fail)
 go_wp2
 refine wp_region_held_drew (S:=fun w'=>w'.cell? ⟨a.q,8,none⟩=some (.slice (some ⟨cb,co,none⟩) c.m.code.length a.c)/\w'.cell? ⟨a.q,10,none⟩=some (int i64 (n:Int))/\w'.cell? ⟨cb,co+n*6,none⟩=some (int i64 op)/\w'.cell? ⟨cb,co+n*6+1,none⟩=some (int i64 ia)/\w'.cell? ⟨cb,co+n*6+2,none⟩=some (int i64 ib)/\w'.cell? ⟨cb,co+n*6+3,none⟩=some (int i64 ic)/\w'.cell? ⟨cb,co+n*6+4,none⟩=some (int i64 ii)/\w'.cell? ⟨cb,co+n*6+5,none⟩=some (.slice Q args.length q)) (by kernel_rfl) ?_ (fun ae=>?_)
 ·exact gF.out _ (aR (Bl.refl w) _).drew
 iterate 11 (refine tn rfl (by kernel_rfl) (fun _ _ _ h=>h) (by intro _ h;go_split_ands;go_simp<;>with_reducible rfl) ae ?_;try simp only [aS,aN,aT,a0,a1])
 refine bI (i:=11) (by kernel_rfl) rfl fun K hK=>?_
 go_wp2_with fail
 refine hK.out _ _ (gF.out _ ((aR (Bl.refl w) _).alloc _)) (fun ah=>?_)
 try simp only [aS,aN,aT,a0,a1]
 refine bI (i:=12) (by kernel_rfl) rfl fun K hK=>?_
 obtain ⟨B,dQ⟩:∃B,B=w.heap.size:=⟨_,rfl⟩
 obtain ⟨iQ,v0,v1,v2,v3,v4,v5,jA,qB,hB⟩:=mS w (nq+1) B dQ
 simp only [<-dQ]
 clear ah dQ
 generalize (w.drewN (nq+1)).alloc (.cells #[int i64 0,int i64 0,int i64 0,int i64 0,int i64 0,.slice none 0 0] 55)=V at *
 go_wp2_with fail
 obtain ⟨gG,ZZ,q6⟩:=mT iQ hB v0 v1 v2 v3 v4 v5 jA qB (int i64 op) (int i64 ia) (int i64 ib) (int i64 ic) (int i64 ii) (.slice Q args.length q)
 generalize (((((V.setCell ⟨B,0,none⟩ (int i64 op)).setCell ⟨B,1,none⟩ (int i64 ia)).setCell ⟨B,2,none⟩ (int i64 ib)).setCell ⟨B,3,none⟩ (int i64 ic)).setCell ⟨B,4,none⟩ (int i64 ii)).setCell ⟨B,5,none⟩ (.slice Q args.length q)=V6 at *
 refine hK.out _ _ (gF.out _ gG.out) (fun aX=>?_)
 clear v0 v1 v2 v3 v4 v5 jA iQ qB V
 obtain ⟨z0,z1,z2,z3,z4,z5,xu⟩:=ZZ.out
 try simp only [aS,aN,aT,a0,a1]
 refine wpAnyH_done (by kernel_rfl) ?_ _
 go_wp2
 refine wp_region_held_drew (S:=fun w'=>w'.cell? ⟨a.q,1,none⟩=some (.pointer (some ⟨g.r,0,none⟩))) (by kernel_rfl) ?_ (fun ae=>?_)
 ·exact (HH.out.bl gG.out).y.c1
 iterate 5 (refine tn rfl (by kernel_rfl) (fun _ _ _ h=>h) (by intro _ h;go_split_ands;go_simp<;>with_reducible rfl) ae ?_;try simp only [aS,aN,aT,a0,a1])
 refine bI (i:=5) (by kernel_rfl) rfl fun K hK=>?_
 go_simp
 go_at_call 93
 refine (HH.out.y.useY gG.out.drew GM.out).mono ?_
 rintro e w1 ⟨rfl,H1,K1⟩
 have d1:=ab H1.c1
 have tq:=ab H1.x
 clear H1 K1
 go_wp2_with fail
 refine hK.out _ _ (d1.out) (fun ah=>?_)
 try simp only [aS,aN,aT,a0,a1]
 refine bI (i:=6) (by kernel_rfl) rfl fun K hK=>?_
 go_simp
 go_at_call 92
 refine (Nj.out _ tq.out).mono ?_
 rintro e w2 ⟨rfl,qN,mw⟩
 have f1:Hid (w2.cell? ⟨a.q,1,none⟩=some (.pointer (some ⟨g.r,0,none⟩))):=Eq.trans (by unfold World.cell?;rw [mw]) d1.out
 replace qN:=ab qN
 clear mw
 go_wp2_with fail
 refine hK.out _ _ (f1.out) (fun aX=>?_)
 try simp only [aS,aN,aT,a0,a1]
 refine wpAnyH_done (by kernel_rfl) ?_ _
 go_wp2
 go_end0
 exact ⟨rfl,qN.out⟩
theorem ph (H:RX 1 X wx w0 g w h qs a c) (op ia ib ic ii:Int) (args:List Int) (cb co:Nat) (Q:Option Addr) (q n:Nat) (A:rU w a c ⟨op,ia,ib,ic,ii,args⟩ cb co Q q n) (hop:op=20) (v:Va) (c':aH) (Q':World->Prop) (sk sn sm:Int) (hres:(∀X wx w,RX 1 X wx w0 g w h qs a c->Calls Tryz.prog 93 #[.pointer (some ⟨a.q,0,none⟩)] w fun e w'=>e=.returned (cn v)/\RX 1 X wx w0 g w' h qs a c')) (GN:∀w,RX 1 X wx w0 g w h qs a c'->Calls Tryz.prog 92 #[.pointer (some ⟨g.r,0,none⟩),cn v] w fun e w'=>e=aV sk sn sm/\Q' w') :
  Calls Tryz.prog 40 #[.pointer (some ⟨a.q,0,none⟩)] w fun e w'=>e=aV sk sn sm/\Q' w':=by
 have GM:=ab hres
 have Nj:=ab GN
 have HH:=ab H
 have Dn:=ab hop
 obtain ⟨c10,fz,c8,hq,hcl,hlt,CP,kv,kg,eD,gF,xZ,CQ⟩:=Av H A
 have e1:(op==11)=false:=by simp [hop]
 have e2:(op==12)=false:=by simp [hop]
 have e3:(op==13)=false:=by simp [hop]
 have e4:(op==19)=false:=by simp [hop]
 have e5:(op==20)=true:=by simp [hop]
 clear H A hop hres GN
 go_enter Tryz.func40,Tryz.ntmps40
 go_wp2
 go_quiet (fail)
 go_wp2
 refine wp_region_held_drew (S:=fun w'=>w'.cell? ⟨a.q,8,none⟩=some (.slice (some ⟨cb,co,none⟩) c.m.code.length a.c)/\w'.cell? ⟨a.q,10,none⟩=some (int i64 (n:Int))/\w'.cell? ⟨cb,co+n*6,none⟩=some (int i64 op)/\w'.cell? ⟨cb,co+n*6+1,none⟩=some (int i64 ia)/\w'.cell? ⟨cb,co+n*6+2,none⟩=some (int i64 ib)/\w'.cell? ⟨cb,co+n*6+3,none⟩=some (int i64 ic)/\w'.cell? ⟨cb,co+n*6+4,none⟩=some (int i64 ii)/\w'.cell? ⟨cb,co+n*6+5,none⟩=some (.slice Q args.length q)) (by kernel_rfl) ?_ (fun ae=>?_)
 ·exact gF.out _ (aR (Bl.refl w) _).drew
 iterate 11 (refine tn rfl (by kernel_rfl) (fun _ _ _ h=>h) (by intro _ h;go_split_ands;go_simp<;>with_reducible rfl) ae ?_;try simp only [aS,aN,aT,a0,a1])
 refine bI (i:=11) (by kernel_rfl) rfl fun K hK=>?_
 go_wp2_with fail
 refine hK.out _ _ (gF.out _ ((aR (Bl.refl w) _).alloc _)) (fun ah=>?_)
 try simp only [aS,aN,aT,a0,a1]
 refine bI (i:=12) (by kernel_rfl) rfl fun K hK=>?_
 obtain ⟨B,dQ⟩:∃B,B=w.heap.size:=⟨_,rfl⟩
 obtain ⟨iQ,v0,v1,v2,v3,v4,v5,jA,qB,hB⟩:=mS w (nq+1) B dQ
 simp only [<-dQ]
 clear ah dQ
 generalize (w.drewN (nq+1)).alloc (.cells #[int i64 0,int i64 0,int i64 0,int i64 0,int i64 0,.slice none 0 0] 55)=V at *
 go_wp2_with fail
 obtain ⟨gG,ZZ,q6⟩:=mT iQ hB v0 v1 v2 v3 v4 v5 jA qB (int i64 op) (int i64 ia) (int i64 ib) (int i64 ic) (int i64 ii) (.slice Q args.length q)
 generalize (((((V.setCell ⟨B,0,none⟩ (int i64 op)).setCell ⟨B,1,none⟩ (int i64 ia)).setCell ⟨B,2,none⟩ (int i64 ib)).setCell ⟨B,3,none⟩ (int i64 ic)).setCell ⟨B,4,none⟩ (int i64 ii)).setCell ⟨B,5,none⟩ (.slice Q args.length q)=V6 at *
 refine hK.out _ _ (gF.out _ gG.out) (fun aX=>?_)
 clear v0 v1 v2 v3 v4 v5 jA iQ qB V
 obtain ⟨z0,z1,z2,z3,z4,z5,xu⟩:=ZZ.out
 try simp only [aS,aN,aT,a0,a1]
 refine wpAnyH_done (by kernel_rfl) ?_ _
 go_wp2
 refine wp_region_held_drew (S:=fun w'=>w'.cell? ⟨a.q,1,none⟩=some (.pointer (some ⟨g.r,0,none⟩))) (by kernel_rfl) ?_ (fun ae=>?_)
 ·exact (HH.out.bl gG.out).y.c1
 iterate 5 (refine tn rfl (by kernel_rfl) (fun _ _ _ h=>h) (by intro _ h;go_split_ands;go_simp<;>with_reducible rfl) ae ?_;try simp only [aS,aN,aT,a0,a1])
 refine bI (i:=5) (by kernel_rfl) rfl fun K hK=>?_
 go_simp
 go_at_call 93
 refine (HH.out.y.useY gG.out.drew GM.out).mono ?_
 rintro e w1 ⟨rfl,H1,K1⟩
 have d1:=ab H1.c1
 have tq:=ab H1.x
 clear H1 K1
 go_wp2_with fail
 refine hK.out _ _ (d1.out) (fun ah=>?_)
 try simp only [aS,aN,aT,a0,a1]
 refine bI (i:=6) (by kernel_rfl) rfl fun K hK=>?_
 go_simp
 go_at_call 92
 refine (Nj.out _ tq.out).mono ?_
 rintro e w2 ⟨rfl,qN⟩
 exact ⟨rfl,rfl,qN⟩
end
end
abbrev PF (w:World) (q:Nat) (Q:Ending->World->Prop):Prop:=Calls Tryz.prog 40 #[.pointer (some ⟨q,0,none⟩)] w Q
def NV (w0:World) (g:Mg) (h:Hp) (k:Kl) (L:List Kl) (o:Mo):Prop :=
 o.fin=false/\∀Z wx w,RR 1 Z wx w0 g w h (k::L)->PF w k.a.q fun e w'=>e=.returned (.tuple #[])/\∃L':List Kl,L'.map (·.c)=o.cs/\RR 0 Z wx w0 g w' o.h L'
def Lx (w0:World) (g:Mg) (h:Hp) (k:Kl) (L:List Kl) (o:Mo):Prop :=
 (o=gL o.how o.v o.h/\o.how≠2)/\∀Z wx w,RR 1 Z wx w0 g w h (k::L)->PF w k.a.q fun e w'=>e=aV o.how (im o.v).kind (im o.v).n/\∃L':List Kl,True/\RR 0 Z wx w0 g w' o.h L'
def UO (w0:World) (g:Mg) (h:Hp) (k:Kl) (L:List Kl) (o:Mo):Prop :=
 ∃h1 QI,o=unwM h1 QI/\0<=h1.thrown/\h1.over=false/\Gh 0 h1/\Le h h1/\IC h1 QI/\h1.calls=(QI.length:Int)
  /\ ∀Z wx w,RR 1 Z wx w0 g w h (k::L)->PF w k.a.q fun e w'=>e=aV 2 3 (h1.thrown+1)/\∃L1:List Kl,(unwM h1 (L1.map (·.c))=o/\(∀y∈L1,gU y.c)/\L1.length<=1000)/\RR 0 Z wx w0 g w' h1 L1
theorem Gc.hands {c:aH} (g:Gc h c) (hp:0<=c.pc/\c.pc<=c.m.code.length):gU c:=by
 obtain ⟨p1,p2,p3,p4,p5,p6,p7,p8,p9,Ih,KJ⟩:=jh g.me
 refine ⟨fun q hq=>?_,hp.1,by omega⟩
 have:=of_decide_eq_true (Ih _ (bJ (d:=eD) hq))
 omega
theorem gU.same {c c':aH} (H:gU c) (e1:c'.m=c.m) (e2:c'.pc=c.pc):gU c':=by
 unfold gU at H ⊢;rw [e1,e2];exact H
theorem Nk (w0:World) (g:Mg) (h:Hp) (k:Kl) (L:List Kl) (i:In) (ho:h.over=false) (ht:h.thrown=-1) (hI:IC h (L.map (·.c))) (hcl:h.calls=((k::L).length:Int)) (hp:0<=k.c.pc/\k.c.pc<k.c.m.code.length) (K:Kept h k.c (aM h k.c i)) (hd:∀X wx w,RX 1 X wx w0 g w h (jH (k::L)) k.a k.c->PF w k.a.q fun e w'=>rV X wx w0 g (jH (k::L)) k.a k.c (aM h k.c i) e w') :
  NV w0 g h k L (po (aM h k.c i) (L.map (·.c)))∨Lx w0 g h k L (po (aM h k.c i) (L.map (·.c)))∨UO w0 g h k L (po (aM h k.c i) (L.map (·.c))):=by
 have hnt:zK (aM h k.c i).h:=qj (fun o=>by rw [ho] at o;cases o) k.c i
 have hlo:=Bm ht k.c i
 generalize aM h k.c i=d at *
 unfold po
 by_cases br:d.h.over=true
 ·rw [if_pos br]
  refine Or.inr (Or.inl ⟨⟨rfl,hnt br⟩,fun Z wx w H=>(hd _ _ _ H.top).mono ?_⟩)
  intro e w' q
  have hs:d.h.stops=true:=by unfold Hp.stops;rw [br];rfl
  obtain ⟨c',d1,d2,H'⟩:=q.stop hs
  obtain ⟨il,l',H2⟩:=H.of H'
  refine ⟨?_,_,trivial,H2⟩
  rw [q.how];unfold js;rw [if_pos br];rfl
 ·rw [if_neg br]
  have nA:d.h.over=false:=by simpa using br
  by_cases iX:0<=d.h.thrown
  ·rw [if_pos iX]
   refine Or.inr (Or.inr ⟨d.h,d.c::L.map (·.c),rfl,iX,nA,K.gh,K.le,?_,?_,?_⟩)
   ·intro x hx
    rcases List.mem_cons.1 hx with rfl|hx
    ·exact ⟨K.gc nA,by rw [K.pc];exact hp.1,by rw [K.pc,K.m];exact hp.2⟩
    ·exact hI.le K.le x hx
   ·rw [K.le.calls,hcl];simp
   ·intro Z wx w H
    refine (hd _ _ _ H.top).mono ?_
    intro e w' q
    have hs:d.h.stops=true:=by unfold Hp.stops;rw [decide_eq_true iX];simp
    obtain ⟨c',d1,d2,H'⟩:=q.stop hs
    obtain ⟨il,l',H2⟩:=H.of H'
    refine ⟨?_,_,⟨?_,?_,?_⟩,H2⟩
    ·rw [q.how];unfold js;rw [if_neg br,if_pos iX]
    ·exact unw_same (d1.trans K.m.symm) (d2.1.trans K.pc.symm) (d2.2.trans (hlo iX).symm)
    ·intro y hy
     rcases List.mem_cons.1 hy with rfl|hy
     ·exact ((K.gc nA).hands (by rw [K.pc,K.m];omega)).same (d1.trans K.m.symm) (d2.1.trans K.pc.symm)
     ·have:=hI y.c (List.mem_map_of_mem hy)
      exact this.1.hands ⟨this.2.1,by omega⟩
    ·have:=K.gh.calls
     rw [K.le.calls,hcl] at this
     simp at this ⊢
     omega
  ·rw [if_neg iX]
   refine Or.inl ⟨rfl,fun Z wx w H=>(hd _ _ _ H.top).mono ?_⟩
   intro e w' q
   have hs:d.h.stops=false:=by unfold Hp.stops;rw [nA,decide_eq_false iX];rfl
   obtain ⟨il,l',H2⟩:=H.of (q.go hs)
   refine ⟨?_,_,?_,H2⟩
   ·rw [q.how];unfold js;rw [if_neg br,if_neg iX]
   ·rfl
theorem RR.less {Z:Nat->Prop} {wx w0 w:World} {g:Mg} {L:List Kl} (H:RR 1 Z wx w0 g w h L):RR 0 Z wx w0 g w h L:=by
 obtain ⟨vc,vo,vx,R,hl,z1,z2,K⟩:=H
 exact ⟨vc,vo,vx,R.less,hl,z1,z2,K⟩
section
variable (w0:World) (g:Mg) (h:Hp) (k:Kl) (L:List Kl)
theorem Nl (ho:h.over=false) (ht:h.thrown=-1) (gc:Gc h k.c) (hp:¬k.c.pc<k.c.m.code.length):Lx w0 g h k L (gL 6 ag h):=by
 refine ⟨⟨rfl,(by show (6:Int)≠2;decide)⟩,fun Z wx w H=>?_⟩
 have h7:=(jh gc.me).2.2.2.2.2.2.1
 refine (M6 _ _ w0 g h _ k.a k.c w H.top (by unfold Hp.stops;rw [ho,ht];rfl) (by omega) (by unfold maxLen;omega)).mono ?_
 rintro e w' ⟨rfl,H'⟩
 obtain ⟨il,l',H2⟩:=H.of H'
 exact ⟨rfl,_,trivial,H2.less⟩
theorem AH (v:Va) (c':aH) (hop:(nth fW k.c.m.code k.c.pc.toNat).op=20) (hp:0<=k.c.pc/\k.c.pc<k.c.m.code.length) (hI:IC h (L.map (·.c))) (hlen:L.length<=100) (hv:v=ag∨(1<=v.kind/\v.kind<=3)) (hres:∀X wx w,RX 1 X wx w0 g w h (jH (k::L)) k.a k.c->Calls Tryz.prog 93 #[.pointer (some ⟨k.a.q,0,none⟩)] w fun e w'=>e=.returned (cn (im v))/\RX 1 X wx w0 g w' h (jH (k::L)) k.a c') :
  NV w0 g h k L (ig h.leave v (L.map (·.c)))∨Lx w0 g h k L (ig h.leave v (L.map (·.c))):=by
 have hat:∀{Z wx w},RR 1 Z wx w0 g w h (k::L)->∃op ia ib ic ii args cb co Q q,op=20/\rU w k.a k.c ⟨op,ia,ib,ic,ii,args⟩ cb co Q q k.c.pc.toNat:=fun {Z wx w} H=>by
  obtain ⟨cb,co,Q,q,A⟩:=H.top.ati hp
  exact ⟨_,_,_,_,_,_,cb,co,Q,q,hop,A⟩
 cases L with
 | nil =>
  refine Or.inr ⟨⟨rfl,(by show (1:Int)≠2;decide)⟩,fun Z wx w H=>?_⟩
  obtain ⟨op,ia,ib,ic,ii,args,cb,co,Q,q,oW,A⟩:=hat H
  refine (ph _ _ w0 g h _ k.a k.c w H.top op ia ib ic ii args cb co Q q _ A oW (im v) c' (fun w'=>RR 1 Z wx w0 g w' h []) 1 (im v).kind (im v).n hres ?_).mono ?_
  ·intro w1 H1
   obtain ⟨il,l',H2⟩:=H.of H1
   exact xF 1 Z wx w0 g h _ v w1 H2
  ·rintro e w' ⟨rfl,H'⟩
   exact ⟨rfl,[],trivial,H'.less.leave⟩
 | cons k2 L2 =>
  have h2:=hI k2.c (by simp)
  have tf:=h2.1.short
  have yf:L2.length<=100:=by simp at hlen;omega
  have h7:=(jh h2.1.me).2.2.2.2.2.2.1
  have oV:0<=k2.c.pc/\k2.c.pc<9223372036854775807:=⟨h2.2.1,by have:=h2.2.2;omega⟩
  have hgo:∀(c2:aH),(∀X wx w,RX 1 X wx w0 g w h (jH (k2::L2)) k2.a k2.c->Calls Tryz.prog 41 #[.pointer (some ⟨k2.a.q,0,none⟩),cn (im v)] w fun e w'=>e=.returned (.tuple #[])/\RX 1 X wx w0 g w' h (jH (k2::L2)) k2.a c2)->NV w0 g h k (k2::L2) (v8 h.leave (c2::L2.map (·.c))):=fun c2 Ku=>by
   refine ⟨rfl,fun Z wx w H=>?_⟩
   obtain ⟨op,ia,ib,ic,ii,args,cb,co,Q,q,oW,A⟩:=hat H
   refine (Dc _ _ w0 g h _ k.a k.c w H.top op ia ib ic ii args cb co Q q _ A oW (im v) c' (fun w'=>∃vs l,RR 1 Z wx w0 g w' h (⟨k2.a,c2,vs,l⟩::L2)) hres ?_).mono ?_
   ·intro w1 H1
    obtain ⟨il,l',H2⟩:=H.of H1
    refine (pg 1 Z wx w0 g h _ k2 L2 v w1 H2 yf c2 _ (Or.inl rfl) Ku).mono ?_
    rintro e w2 ⟨rfl,hr,hk⟩
    exact ⟨rfl,hr,hk _ (Or.inl rfl)⟩
   ·rintro e w' ⟨rfl,il,l',H'⟩
    exact ⟨rfl,_,rfl,H'.less.leave⟩
  show NV w0 g h k (k2::L2) (if v.kind=0 then _ else _)∨Lx w0 g h k (k2::L2) (if v.kind=0 then _ else _)
  by_cases h0:v.kind=0
  ·rw [if_pos h0]
   have hv0:v=ag:=hv.elim id (fun z=>by omega)
   subst hv0
   exact Or.inl (hgo _ (fun X wx w H=>CZ 1 X wx w0 g h _ k2.a k2.c w H oV))
  ·rw [if_neg h0]
   have hv1:1<=v.kind/\v.kind<=3:=hv.elim (fun z=>by subst z;exact absurd rfl h0) id
   by_cases hz:(aQ (k2.c.stk++[v]):Int)<=k2.c.m.stack
   ·rw [if_pos hz]
    exact Or.inl (hgo _ (fun X wx w H=>GB 1 X wx w0 g h _ k2.a k2.c v w H oV hv1 (by omega) hz))
   ·rw [if_neg hz]
    refine Or.inr ⟨⟨rfl,(by show (6:Int)≠2;decide)⟩,fun Z wx w H=>?_⟩
    obtain ⟨op,ia,ib,ic,ii,args,cb,co,Q,q,oW,A⟩:=hat H
    refine (ph _ _ w0 g h _ k.a k.c w H.top op ia ib ic ii args cb co Q q _ A oW (im v) c' (fun w'=>∃vs l,RR 1 Z wx w0 g w' h (⟨k2.a,k2.c.put v,vs,l⟩::L2)) 6 0 0 hres ?_).mono ?_
    ·intro w1 H1
     obtain ⟨il,l',H2⟩:=H.of H1
     refine (pg 1 Z wx w0 g h _ k2 L2 v w1 H2 yf _ _ (Or.inr rfl) (fun X wx w H=>Ki 1 X wx w0 g h _ k2.a k2.c v w H hv1 (by omega) hz)).mono ?_
     rintro e w2 ⟨rfl,hr,hk⟩
     exact ⟨rfl,hr⟩
    ·rintro e w' ⟨rfl,il,l',H'⟩
     exact ⟨rfl,_,trivial,H'.less.leave⟩
end
theorem Dd (w0:World) (g:Mg) (h:Hp) (k:Kl) (L:List Kl) (i:In) (pC:nth fW k.c.m.code k.c.pc.toNat=i) (hop:i.op=19) (pq:0<=i.a/\i.a<h.file.methods.length) (hmay:qa h.file) (jX:h.file.methods.length<=8) (gh:Gh 1 h) (gc:Gc h k.c) (hp:0<=k.c.pc/\k.c.pc<k.c.m.code.length) (hI:IC h (L.map (·.c))) (hcl:h.calls=((k::L).length:Int)) (F:Fix w0 g h) :
  NV w0 g h k L (sZ h k.c (L.map (·.c)) i)∨Lx w0 g h k L (sZ h k.c (L.map (·.c)) i):=by
 have D6:=gh.calls
 have hat:∀{Z wx w},RR 1 Z wx w0 g w h (k::L)->∃cb co Q q,rU w k.a k.c ⟨i.op,i.a,i.b,i.c,i.n,i.args⟩ cb co Q q k.c.pc.toNat:=fun {Z wx w} H=>by
  obtain ⟨cb,co,Q,q,A⟩:=H.top.ati hp
  rw [pC] at A
  exact ⟨cb,co,Q,q,A⟩
 have Nn:i.a.toNat<h.file.methods.length:=by omega
 have Iu:=hmay _ (bJ (d:=bO) Nn)
 rcases F.mes.2 with z0|⟨mb,mo,hM,hcell⟩
 ·omega
 obtain ⟨P,C,J,p,c,kk,m0,-,-,-,-,-,-,-,hme⟩:=hcell i.a.toNat Nn
 unfold sZ
 dsimp only
 generalize XC:nth bO h.file.methods i.a.toNat=m at *
 obtain ⟨p1,p2,p3,p4,p5,p6,p7,p8,p9,Ih,KJ⟩:=jh Iu.1
 have hg:∀v∈k.c.stk,v.kind=3->-1<=v.n/\v.n<h.objs.length:=fun v hv e=>(gc.stk v hv).ref e
 have hno:(∀l vs,k.c.stk=l++vs->vs.length=m.params.length->sw h vs m.params->False)->Lx w0 g h k L (gL 6 ag h):=fun hn=>by
  refine ⟨⟨rfl,(by show (6:Int)≠2;decide)⟩,fun Z wx w H=>?_⟩
  obtain ⟨cb,co,Q,q,A⟩:=hat H
  refine (zr Z wx w0 g h k.a k.c k.vs k.l L w H i.op i.a i.b i.c i.n i.args cb co Q q _ A hop mb mo P p m.params hM pq m0 jX (fun Z wx w H=>xH Z wx w0 g h k L w H F gh.len P p m.params hme.1 p5 hg hn)).mono ?_
  rintro e w' ⟨rfl,k',d1,d2,d3,H'⟩
  exact ⟨rfl,_,trivial,H'.less⟩
 by_cases hh:k.c.has m.params.length=false
 ·rw [if_pos hh]
  refine Or.inr (hno fun l vs e1 e2 e3=>?_)
  unfold aH.has at hh
  have Lk:¬m.params.length<=k.c.stk.length:=by simpa using hh
  rw [e1] at Lk
  simp at Lk
  omega
 rw [if_neg hh]
 have hle:m.params.length<=k.c.stk.length:=by unfold aH.has at hh;simpa using hh
 have et:k.c.top m.params.length=k.c.stk.drop (k.c.stk.length-m.params.length):=by unfold aH.top;rw [if_pos hle]
 have ec:k.c.cut m.params.length={ k.c with stk:=k.c.stk.take (k.c.stk.length-m.params.length) }:=by unfold aH.cut;rw [if_pos hle]
 have es:k.c.stk=k.c.stk.take (k.c.stk.length-m.params.length)++k.c.top m.params.length:=by rw [et,List.take_append_drop]
 have el:=aC k.c m.params.length
 generalize Qw:k.c.top m.params.length=vs at *
 generalize YU:k.c.stk.take (k.c.stk.length-m.params.length)=l at *
 by_cases he:h.enterL vs m.params=false
 ·rw [if_pos he]
  refine Or.inr (hno fun l2 xW e1 e2 e3=>?_)
  obtain ⟨-,rfl⟩:=og (e1.symm.trans es) (e2.trans el.symm)
  have:=(lu h xW m.params el).2 e3
  rw [he] at this
  cases this
 rw [if_neg he]
 have QJ:h.enterL vs m.params=true:=by simpa using he
 have jz:sw h vs m.params:=(lu h vs m.params el).1 QJ
 obtain ⟨s1,s2⟩:=hJ h h.file.classes.length vs m.params el QJ p9
 have hT:∀Z wx w,RR 1 Z wx w0 g w h (⟨k.a,k.c,k.vs,k.l⟩::L)->Calls Tryz.prog 91 #[.pointer (some ⟨k.a.q,0,none⟩),.slice P m.params.length p] w fun e w'=>∃b,e=.returned (.slice (some ⟨b,0,none⟩) m.params.length m.params.length)/\cu w' b (vs.map im)/\∃il l',RR 1 Z wx w0 g w' h (⟨k.a,{ k.c with stk:=l },il,l'⟩::L) :=
  fun Z wx w H=>GD Z wx w0 g h k L w H F gh.len P p m.params hme.1 p5 hg l vs es el jz
 by_cases hd:h.deep=true
 ·rw [if_pos hd]
  refine Or.inr ⟨⟨rfl,(by show (5:Int)≠2;decide)⟩,fun Z wx w H=>?_⟩
  obtain ⟨cb,co,Q,q,A⟩:=hat H
  have KM:20<=h.calls:=by unfold Hp.deep at hd;simpa using hd
  refine (tX Z wx w0 g h k.a k.c k.vs k.l L w H i.op i.a i.b i.c i.n i.args cb co Q q _ A hop mb mo P p m.params hM pq m0 jX (vs.map im) _ hT (fun Z wx w b il l' H _=>C5 1 Z wx w0 g h _ L w H i.a _ (by rw [hcl] at KM;simp at KM ⊢;omega) (by rw [hcl] at D6;simp at D6 ⊢;omega))).mono ?_
  rintro e w' ⟨rfl,il,l',H'⟩
  exact ⟨rfl,_,trivial,H'.less⟩
 ·rw [if_neg hd]
  have KM:h.calls<20:=by unfold Hp.deep at hd;simp at hd;exact hd
  refine Or.inl ⟨rfl,fun Z wx w H=>?_⟩
  obtain ⟨cb,co,Q,q,A⟩:=hat H
  have XD:((i.a.toNat:Nat):Int)=i.a:=by omega
  refine (zl Z wx w0 g h k.a k.c k.vs k.l L w H i.op i.a i.b i.c i.n i.args cb co Q q _ A hop mb mo P p m.params hM pq m0 jX (vs.map im) _ (fun k2=>k2.c=bS m vs) hT (fun Z wx w b il l' H B=>?_)).mono ?_
  ·have:=AE 1 Z wx w0 g h _ w H i.a.toNat m m.locs.toNat b m.params.length vs (by rw [hcl] at KM;simp at KM ⊢;omega) Nn XC F.mes (by omega) (by omega) B (by omega) s2
   rw [XD,el] at this
   exact this
  ·rintro e w' ⟨rfl,k2,il,l',mw,H'⟩
   refine ⟨rfl,k2::⟨k.a,{ k.c with stk:=l },il,l'⟩::L,?_,(H'.less).heap (h.calls+1) h.thrown⟩
   show k2.c::{ k.c with stk:=l }::L.map (·.c)=bS m vs::k.c.cut m.params.length::L.map (·.c)
   rw [mw,ec]
section
open Go.Maps (Keyed has)
theorem xK (X:Nat->Prop) (wx w0:World) (g:Mg) (h:Hp) (qs:List Nat) (a:Mc) (c:aH) (ia ib ic ii:Int) (args:List Int) (Q:Option Addr) (nl q:Nat) (w:World) (H:RX 1 X wx w0 g w h qs a c) (hs:h.stops=false) (hl:c.stk.length<=1000) (iD:h.objs.length<=100) :
  Calls Tryz.prog 153 #[.pointer (some ⟨a.q,0,none⟩),.agg #[int i64 14,int i64 ia,int i64 ib,int i64 ic,int i64 ii,.slice Q nl q]] w fun e w'=>bT X wx w0 g qs a c (aM h c ⟨14,ia,ib,ic,ii,args⟩) e w':=by
 have ho:=ba hs
 have HH:=ab H
 have HS:=ab hs
 have HB:Hid (Bl w (w.alloc (.cells #[int i64 14,int i64 ia,int i64 ib,int i64 ic,int i64 ii,.slice Q nl q] 55))):=(Bl.refl w).alloc _
 have HL:=ab (aD w #[int i64 14,int i64 ia,int i64 ib,int i64 ic,int i64 ii,.slice Q nl q] 55)
 have z0:=ab ((H.y.bl HB.out).hb)
 have z1:=ab (aF HL.out).1
 have hd:aM h c ⟨14,ia,ib,ic,ii,args⟩=b8 h c ⟨14,ia,ib,ic,ii,args⟩:=rfl
 have em:aJ 14=0:=by decide
 have e2:c.cut 0=c:=by unfold aH.cut;simp
 have e3:h.must (c.has 0)=h:=by unfold Hp.must aH.has;simp
 have eg:∀x y,givesH h x y ⟨14,ia,ib,ic,ii,args⟩=h.new ia:=by intro x y;unfold givesH;rw [if_neg (by rw [ho];decide)];simp
 have ev:∀x y,aG h x y ⟨14,ia,ib,ic,ii,args⟩=h.newV:=by intro x y;unfold aG;rw [if_neg (by rw [ho];decide)];simp
 rw [hd]
 unfold b8
 dsimp only
 rw [em,e3,eg,ev,e2]
 cases hf:h.full with
 | true =>
  have e1:h.new ia=h.fin 4:=by unfold Hp.new;rw [if_pos hf]
  rw [e1,if_pos (aY hs 4)]
  have HF:=ab (And.intro hf iD)
  clear H hs hd em e1 e2 e3 eg ev hf
  go_enter Tryz.func153,Tryz.ntmps153
  go_wp2
  refine wp_region_held_drew (S:=fun w'=>w'.cell? ⟨a.q,0,none⟩=some (.pointer (some ⟨g.hb,0,none⟩))/\w'.cell? ⟨w.heap.size,1,none⟩=some (int i64 ia)) (by kernel_rfl) ?_ (fun ae=>?_)
  ·exact ⟨z0.out,z1.out⟩
  iterate 7 (refine tn rfl (by kernel_rfl) (fun _ _ _ h=>h) (by intro _ h;go_split_ands;go_simp<;>with_reducible rfl) ae ?_;try simp only [aS,aN,aT,a0,a1])
  refine bI (i:=7) (by kernel_rfl) rfl fun K hK=>?_
  go_simp
  go_at_call 195
  refine (HH.out.y.useY HB.out.drew (fun X wx w H=>zO 1 X wx w0 g h qs a c ia w H HF.out.1 HF.out.2)).mono ?_
  rintro e w1 ⟨rfl,H1,K1⟩
  exact ⟨rfl,cY (s:=0) (ba HS.out) rfl H1.x.less.rs⟩
 | false =>
  have e1:h.new ia=h.mk' ia:=by unfold Hp.new Hp.mk';rw [if_neg (by rw [hf];decide)]
  have e5:h.newV=⟨3,(h.objs.length:Nat)⟩:=by unfold Hp.newV;rw [if_neg (by rw [hf];decide)]
  have tf:(h.mk' ia).stops=false:=hs
  rw [e1,e5,if_neg (by rw [tf];decide)]
  have HF:=ab hf
  have HR:Hid (∀X wx w,RX 1 X wx w0 g w h qs a c->Calls Tryz.prog 195 #[.pointer (some ⟨g.hb,0,none⟩),int i64 ia] w fun e w'=>e=.returned (cn (im ⟨3,(h.objs.length:Nat)⟩))/\RX 1 X wx w0 g w' (h.mk' ia) qs a c):=fun X wx w H=>wv 1 X wx w0 g h qs a c ia w H hf
  obtain ⟨E,hE⟩:∃E,(if (aQ ((c).stk++[(⟨3,(h.objs.length:Nat)⟩:Va)]):Int)<=(c).m.stack then Ending.returned (.tuple #[]) else aV 6 0 0)=E:=⟨_,rfl⟩
  have HP:Hid (∀X wx w,RX 1 X wx w0 g w (h.mk' ia) qs a (c)->Calls Tryz.prog 95 #[.pointer (some ⟨a.q,0,none⟩),cn (im (⟨3,(h.objs.length:Nat)⟩:Va))] w fun e w2=>e=E/\RX 1 X wx w0 g w2 (h.mk' ia) qs a ((c).put (⟨3,(h.objs.length:Nat)⟩:Va))):=fun X wx w H=>hE▸cM 1 X wx w0 g (h.mk' ia) qs a (c) (⟨3,(h.objs.length:Nat)⟩:Va) w H (show (1:Int)<=3/\(3:Int)<=3 from by decide) (hl)
  have HE:Hid (∀w',RX 1 X wx w0 g w' (h.mk' ia) qs a ((c).put (⟨3,(h.objs.length:Nat)⟩:Va))->bT X wx w0 g qs a c ⟨((h.mk' ia)).putH (c) (⟨3,(h.objs.length:Nat)⟩:Va),(c).put (⟨3,(h.objs.length:Nat)⟩:Va),c.pc+1⟩ E w'):=fun w' H=>eO tf rfl ⟨rfl,rfl⟩ hE.symm H.less
  have nT:E=.returned (.tuple #[])∨E=aV 6 0 0:=by rw [<-hE];split;exact Or.inl rfl;exact Or.inr rfl
  clear hE
  generalize im (⟨3,(h.objs.length:Nat)⟩:Va)=V at HR HP
  clear H hs hd em e1 e2 e3 e5 eg ev hf tf
  rcases nT with rfl|rfl
  ·go_enter Tryz.func153,Tryz.ntmps153
   go_wp2
   refine wp_region_held_drew (S:=fun w'=>w'.cell? ⟨a.q,0,none⟩=some (.pointer (some ⟨g.hb,0,none⟩))/\w'.cell? ⟨w.heap.size,1,none⟩=some (int i64 ia)) (by kernel_rfl) ?_ (fun ae=>?_)
   ·exact ⟨z0.out,z1.out⟩
   iterate 7 (refine tn rfl (by kernel_rfl) (fun _ _ _ h=>h) (by intro _ h;go_split_ands;go_simp<;>with_reducible rfl) ae ?_;try simp only [aS,aN,aT,a0,a1])
   refine bI (i:=7) (by kernel_rfl) rfl fun K hK=>?_
   go_simp
   go_at_call 195
   refine (HH.out.y.useY HB.out.drew HR.out).mono ?_
   rintro e w1 ⟨rfl,H1,K1⟩
   have bH:=K1.at (Xp.new (Nat.le_refl _) (cX w _)) HL.out
   have jx:=ab H1.hb
   have jy:=ab (aF bH).1
   replace bH:=ab bH
   replace H1:=ab H1
   go_wp2_with fail
   refine hK.out _ _ (⟨jx.out,jy.out⟩) (fun ah=>?_)
   try simp only [aS,aN,aT,a0,a1]
   refine bI (i:=8) (by kernel_rfl) rfl fun K hK=>?_
   go_simp
   go_at_call 95
   refine (H1.out.useY (Bl.refl _) HP.out).mono ?_
   rintro e w2 ⟨rfl,HX,KX⟩
   have Ly:=KX.at (Xp.old (Xp.new (Nat.le_refl _) (cX w _))) bH.out
   have Xa:=ab HX.hb
   have Xb:=ab (aF Ly).1
   replace HX:=ab HX
   go_wp2_with fail
   refine hK.out _ _ (⟨Xa.out,Xb.out⟩) (fun aX=>?_)
   try simp only [aS,aN,aT,a0,a1]
   refine wpAnyH_done (by kernel_rfl) ?_ _
   go_wp2
   go_end0
   exact HE.out _ HX.out.x
  ·go_enter Tryz.func153,Tryz.ntmps153
   go_wp2
   refine wp_region_held_drew (S:=fun w'=>w'.cell? ⟨a.q,0,none⟩=some (.pointer (some ⟨g.hb,0,none⟩))/\w'.cell? ⟨w.heap.size,1,none⟩=some (int i64 ia)) (by kernel_rfl) ?_ (fun ae=>?_)
   ·exact ⟨z0.out,z1.out⟩
   iterate 7 (refine tn rfl (by kernel_rfl) (fun _ _ _ h=>h) (by intro _ h;go_split_ands;go_simp<;>with_reducible rfl) ae ?_;try simp only [aS,aN,aT,a0,a1])
   refine bI (i:=7) (by kernel_rfl) rfl fun K hK=>?_
   go_simp
   go_at_call 195
   refine (HH.out.y.useY HB.out.drew HR.out).mono ?_
   rintro e w1 ⟨rfl,H1,K1⟩
   have bH:=K1.at (Xp.new (Nat.le_refl _) (cX w _)) HL.out
   have jx:=ab H1.hb
   have jy:=ab (aF bH).1
   replace bH:=ab bH
   replace H1:=ab H1
   go_wp2_with fail
   refine hK.out _ _ (⟨jx.out,jy.out⟩) (fun ah=>?_)
   try simp only [aS,aN,aT,a0,a1]
   refine bI (i:=8) (by kernel_rfl) rfl fun K hK=>?_
   go_simp
   go_at_call 95
   refine (H1.out.useY (Bl.refl _) HP.out).mono ?_
   rintro e xJ ⟨rfl,HX,KX⟩
   exact ⟨rfl,HE.out _ HX.x⟩
end
section
open Go.Maps (Keyed has)
theorem xL (X:Nat->Prop) (wx w0:World) (g:Mg) (h:Hp) (qs:List Nat) (a:Mc) (c:aH) (ia ib ic ii:Int) (args:List Int) (Q:Option Addr) (nl q:Nat) (w:World) (H:RX 1 X wx w0 g w h qs a c) (hs:h.stops=false) (hl:c.stk.length<=1000) (F:Fix w0 g h) (iD:h.objs.length<=100) (hst:∀v∈c.stk,v.kind=3->-1<=v.n/\v.n<h.objs.length) :
  Calls Tryz.prog 153 #[.pointer (some ⟨a.q,0,none⟩),.agg #[int i64 17,int i64 ia,int i64 ib,int i64 ic,int i64 ii,.slice Q nl q]] w fun e w'=>bT X wx w0 g qs a c (aM h c ⟨17,ia,ib,ic,ii,args⟩) e w':=by
 have ho:=ba hs
 have HH:=ab H
 have HS:=ab hs
 have HB:Hid (Bl w (w.alloc (.cells #[int i64 17,int i64 ia,int i64 ib,int i64 ic,int i64 ii,.slice Q nl q] 55))):=(Bl.refl w).alloc _
 have HL:=ab (aD w #[int i64 17,int i64 ia,int i64 ib,int i64 ic,int i64 ii,.slice Q nl q] 55)
 have z0:=ab ((H.y.bl HB.out).hb)
 have z1:=ab (aF HL.out).1
 have bad:(c.stk=[]∨∃l v,c.stk=l++[v]/\v.kind≠3)->Calls Tryz.prog 153 #[.pointer (some ⟨a.q,0,none⟩),.agg #[int i64 17,int i64 ia,int i64 ib,int i64 ic,int i64 ii,.slice Q nl q]] w fun e w'=>bT X wx w0 g qs a c ⟨h.fin 6,c,0⟩ e w':=fun hn=>by
  have HN:=ab hn
  clear H hs hn F hst
  go_enter Tryz.func153,Tryz.ntmps153
  go_wp2
  refine wp_region_held_drew (S:=fun w'=>w'.cell? ⟨a.q,0,none⟩=some (.pointer (some ⟨g.hb,0,none⟩))/\w'.cell? ⟨w.heap.size,1,none⟩=some (int i64 ia)) (by kernel_rfl) ?_ (fun ae=>?_)
  ·exact ⟨z0.out,z1.out⟩
  iterate 8 (refine tn rfl (by kernel_rfl) (fun _ _ _ h=>h) (by intro _ h;go_split_ands;go_simp<;>with_reducible rfl) ae ?_;try simp only [aS,aN,aT,a0,a1])
  refine bI (i:=6) (by kernel_rfl) rfl fun K hK=>?_
  go_simp
  go_at_call 89
  refine (HH.out.y.useN HB.out.drew (fun X wx w H=>dk 1 X wx w0 g h qs a c 3 w H HN.out)).mono ?_
  rintro e w1 ⟨rfl,H1⟩
  exact ⟨rfl,cY (s:=0) (ba HS.out) rfl H1.less⟩
 have hd:aM h c ⟨17,ia,ib,ic,ii,args⟩=b8 h c ⟨17,ia,ib,ic,ii,args⟩:=rfl
 have em:aJ 17=1:=by decide
 rw [hd]
 unfold b8
 dsimp only
 rw [em]
 rcases gB (c:=c) with h0|⟨l,v,h0⟩
 ·rw [cZ (fE h0),ft (kq ho 6).1,if_pos (aY hs 6)]
  exact (bad (Or.inl h0)).mono fun e w' q=>dx (d:=⟨h.fin 6,c,0⟩) rfl (aY hs 6) q
 obtain ⟨h1,h2,h4⟩:=fF h0
 rw [dJ h1,h2,h4]
 generalize nth ag (c.top 1) 1=y
 by_cases hk:v.kind=3
 ·have kX:=hst v (by rw [h0];simp) hk
  have hi:isRef v=true:=decide_eq_true hk
  have hm:h.mustB (isRef v)=true:=by unfold Hp.mustB;rw [hi,ho];rfl
  have jz:h.of v ⟨3,ia⟩=(decide (v.n<0)||gH h.file.classes (h.obj v.n).cls ia):=by unfold Hp.of;simp [hk]
  have eg:givesH h v y ⟨17,ia,ib,ic,ii,args⟩=if h.of v ⟨3,ia⟩=true then h else h.raise 3:=by
   unfold givesH
   rw [if_neg (by rw [ho];decide)]
   simp [Hp.cast,hm]
  have ev:aG h v y ⟨17,ia,ib,ic,ii,args⟩=v:=by unfold aG;rw [if_neg (by rw [ho];decide)];simp
  rw [eg,ev]
  have HT:Hid (∀X wx w,RX 1 X wx w0 g w h qs a c->Calls Tryz.prog 89 #[.pointer (some ⟨a.q,0,none⟩),int i64 3] w fun e w'=>e=.returned (cn (im v))/\RX 1 X wx w0 g w' h qs a { c with stk:=l }):=fun X wx w H=>cz 1 X wx w0 g h qs a c l v 3 w H h0 hk
  have HM:Hid (Fix w0 g h/\h.objs.length<=100/\v.kind=3/\-1<=v.n/\v.n<h.objs.length):=⟨F,iD,hk,kX.1,kX.2⟩
  cases hz:h.of v ⟨3,ia⟩ with
  | true =>
   have ef:(if true=true then h else h.raise 3)=h:=rfl
   rw [ef,if_neg (by rw [hs];decide)]
   have xM:Hid (∀w,oX w g h->Calls Tryz.prog 186 #[.pointer (some ⟨g.hb,0,none⟩),cn (im v),int i64 ia] w fun e w'=>e=.returned (cn (im v))/\Bl w w'):=fun w R=>by
    rw [hz] at jz
    by_cases hn:v.n=-1
    ·exact Ep g.hb v ia w hk hn
    ·have kv:¬v.n<0:=by omega
     rw [decide_eq_false kv,Bool.false_or] at jz
     exact Er g h v ia w R hk (by omega) kX.2 jz.symm
   obtain ⟨E,hE⟩:∃E,(if (aQ (({ c with stk:=l }).stk++[v]):Int)<=({ c with stk:=l }).m.stack then Ending.returned (.tuple #[]) else aV 6 0 0)=E:=⟨_,rfl⟩
   have HP:Hid (∀X wx w,RX 1 X wx w0 g w h qs a ({ c with stk:=l })->Calls Tryz.prog 95 #[.pointer (some ⟨a.q,0,none⟩),cn (im v)] w fun e w2=>e=E/\RX 1 X wx w0 g w2 h qs a (({ c with stk:=l }).put v)):=fun X wx w H=>hE▸cM 1 X wx w0 g h qs a ({ c with stk:=l }) v w H (by rw [hk];decide) (by have e:c.stk.length=l.length+1:=(by rw [h0];simp);show l.length<=1000;omega)
   have HE:Hid (∀w',RX 1 X wx w0 g w' h qs a (({ c with stk:=l }).put v)->bT X wx w0 g qs a c ⟨(h).putH ({ c with stk:=l }) v,({ c with stk:=l }).put v,c.pc+1⟩ E w'):=fun w' H=>eO hs rfl ⟨rfl,rfl⟩ hE.symm H.less
   have nT:E=.returned (.tuple #[])∨E=aV 6 0 0:=by rw [<-hE];split;exact Or.inl rfl;exact Or.inr rfl
   clear hE
   generalize im v=V at HT HP xM
   clear H hs hd bad em h0 h1 h2 h4 eg ev ef hz jz hi hm F hst kX hk
   rcases nT with rfl|rfl
   ·go_enter Tryz.func153,Tryz.ntmps153
    go_wp2
    refine wp_region_held_drew (S:=fun w'=>w'.cell? ⟨a.q,0,none⟩=some (.pointer (some ⟨g.hb,0,none⟩))/\w'.cell? ⟨w.heap.size,1,none⟩=some (int i64 ia)) (by kernel_rfl) ?_ (fun ae=>?_)
    ·exact ⟨z0.out,z1.out⟩
    iterate 8 (refine tn rfl (by kernel_rfl) (fun _ _ _ h=>h) (by intro _ h;go_split_ands;go_simp<;>with_reducible rfl) ae ?_;try simp only [aS,aN,aT,a0,a1])
    refine bI (i:=6) (by kernel_rfl) rfl fun K hK=>?_
    go_simp
    go_at_call 89
    refine (HH.out.y.useY HB.out.drew HT.out).mono ?_
    rintro e w1 ⟨rfl,H1,K1⟩
    have bH:=K1.at (Xp.new (Nat.le_refl _) (cX w _)) HL.out
    have jx:=ab H1.hb
    have jy:=ab (aF bH).1
    replace bH:=ab bH
    replace H1:=ab H1
    go_wp2_with fail
    refine hK.out _ _ (⟨jx.out,jy.out⟩) (fun ah=>?_)
    try simp only [aS,aN,aT,a0,a1]
    refine bI (i:=9) (by kernel_rfl) rfl fun K hK=>?_
    go_simp
    go_at_call 186
    refine (xM.out _ (H1.out.x.rd HM.out.1 HM.out.2.1)).mono ?_
    rintro e w2 ⟨rfl,b2⟩
    have e0:=ab (b2.cell ah.1)
    have e1:=ab (b2.cell ah.2)
    have NW:=ab (ai b2 bH.out)
    replace b2:=ab b2
    go_wp2_with fail
    refine hK.out _ _ (⟨e0.out,e1.out⟩) (fun aX=>?_)
    try simp only [aS,aN,aT,a0,a1]
    refine bI (i:=10) (by kernel_rfl) rfl fun K hK=>?_
    go_simp
    go_at_call 95
    refine (H1.out.useY (b2.out) HP.out).mono ?_
    rintro e w3 ⟨rfl,HX,KX⟩
    have Ly:=KX.at (Xp.old (Xp.new (Nat.le_refl _) (cX w _))) NW.out
    have Xa:=ab HX.hb
    have Xb:=ab (aF Ly).1
    replace HX:=ab HX
    go_wp2_with fail
    refine hK.out _ _ (⟨Xa.out,Xb.out⟩) (fun dh=>?_)
    try simp only [aS,aN,aT,a0,a1]
    refine wpAnyH_done (by kernel_rfl) ?_ _
    go_wp2
    go_end0
    exact HE.out _ HX.out.x
   ·go_enter Tryz.func153,Tryz.ntmps153
    go_wp2
    refine wp_region_held_drew (S:=fun w'=>w'.cell? ⟨a.q,0,none⟩=some (.pointer (some ⟨g.hb,0,none⟩))/\w'.cell? ⟨w.heap.size,1,none⟩=some (int i64 ia)) (by kernel_rfl) ?_ (fun ae=>?_)
    ·exact ⟨z0.out,z1.out⟩
    iterate 8 (refine tn rfl (by kernel_rfl) (fun _ _ _ h=>h) (by intro _ h;go_split_ands;go_simp<;>with_reducible rfl) ae ?_;try simp only [aS,aN,aT,a0,a1])
    refine bI (i:=6) (by kernel_rfl) rfl fun K hK=>?_
    go_simp
    go_at_call 89
    refine (HH.out.y.useY HB.out.drew HT.out).mono ?_
    rintro e w1 ⟨rfl,H1,K1⟩
    have bH:=K1.at (Xp.new (Nat.le_refl _) (cX w _)) HL.out
    have jx:=ab H1.hb
    have jy:=ab (aF bH).1
    replace bH:=ab bH
    replace H1:=ab H1
    go_wp2_with fail
    refine hK.out _ _ (⟨jx.out,jy.out⟩) (fun ah=>?_)
    try simp only [aS,aN,aT,a0,a1]
    refine bI (i:=9) (by kernel_rfl) rfl fun K hK=>?_
    go_simp
    go_at_call 186
    refine (xM.out _ (H1.out.x.rd HM.out.1 HM.out.2.1)).mono ?_
    rintro e w2 ⟨rfl,b2⟩
    have e0:=ab (b2.cell ah.1)
    have e1:=ab (b2.cell ah.2)
    have NW:=ab (ai b2 bH.out)
    replace b2:=ab b2
    go_wp2_with fail
    refine hK.out _ _ (⟨e0.out,e1.out⟩) (fun aX=>?_)
    try simp only [aS,aN,aT,a0,a1]
    refine bI (i:=10) (by kernel_rfl) rfl fun K hK=>?_
    go_simp
    go_at_call 95
    refine (H1.out.useY (b2.out) HP.out).mono ?_
    rintro e xJ ⟨rfl,HX,KX⟩
    exact ⟨rfl,HE.out _ HX.x⟩
  | false =>
   have ef:(if false=true then h else h.raise 3)=h.raise 3:=rfl
   rw [ef,if_pos (ix hs 3)]
   obtain ⟨E,hE⟩:∃E,bM h=E:=⟨_,rfl⟩
   have IQ:Hid (∃ch,E=.panicked ch):=by
    rw [<-hE];unfold bM;split<;>exact ⟨_,rfl⟩
   have xM:Hid (∀X wx w,RX 1 X wx w0 g w h qs a { c with stk:=l }->Calls Tryz.prog 186 #[.pointer (some ⟨g.hb,0,none⟩),cn (im v),int i64 ia] w fun e w'=>e=E/\RX 1 X wx w0 g w' (h.raise 3) qs a { c with stk:=l }):=fun X wx w H=>by
    rw [hz] at jz
    have pA:=jz.symm
    rw [Bool.or_eq_false_iff] at pA
    have kv:¬v.n<0:=of_decide_eq_false pA.1
    exact hE▸IU 1 X wx w0 g h qs a { c with stk:=l } v ia w H F iD ho hk (by omega) kX.2 pA.2
   have HD:Hid (∀w',RS 0 X wx w0 g w' (h.raise 3) qs a c->bT X wx w0 g qs a c ⟨h.raise 3,{ c with stk:=l },c.pc+1⟩ E w'):=fun w' H=>hE▸jb hs rfl H
   generalize im v=V at HT xM
   clear H hs hd bad em h0 h1 h2 h4 eg ev ef hz jz hi hm F hst kX hk hE
   obtain ⟨ch,rfl⟩:=IQ.out
   go_enter Tryz.func153,Tryz.ntmps153
   go_wp2
   refine wp_region_held_drew (S:=fun w'=>w'.cell? ⟨a.q,0,none⟩=some (.pointer (some ⟨g.hb,0,none⟩))/\w'.cell? ⟨w.heap.size,1,none⟩=some (int i64 ia)) (by kernel_rfl) ?_ (fun ae=>?_)
   ·exact ⟨z0.out,z1.out⟩
   iterate 8 (refine tn rfl (by kernel_rfl) (fun _ _ _ h=>h) (by intro _ h;go_split_ands;go_simp<;>with_reducible rfl) ae ?_;try simp only [aS,aN,aT,a0,a1])
   refine bI (i:=6) (by kernel_rfl) rfl fun K hK=>?_
   go_simp
   go_at_call 89
   refine (HH.out.y.useY HB.out.drew HT.out).mono ?_
   rintro e w1 ⟨rfl,H1,K1⟩
   have bH:=K1.at (Xp.new (Nat.le_refl _) (cX w _)) HL.out
   have jx:=ab H1.hb
   have jy:=ab (aF bH).1
   replace bH:=ab bH
   replace H1:=ab H1
   go_wp2_with fail
   refine hK.out _ _ (⟨jx.out,jy.out⟩) (fun ah=>?_)
   try simp only [aS,aN,aT,a0,a1]
   refine bI (i:=9) (by kernel_rfl) rfl fun K hK=>?_
   go_simp
   go_at_call 186
   refine (H1.out.useY (Bl.refl _) xM.out).mono ?_
   rintro e w2 ⟨rfl,H2,K2⟩
   exact ⟨rfl,HD.out _ (H2.x.less.rs.of rfl ⟨rfl,rfl⟩)⟩
 ·have eg:givesH h v y ⟨17,ia,ib,ic,ii,args⟩=h.fin 6:=by
   have hi:isRef v=false:=decide_eq_false hk
   have hm:h.mustB (isRef v)=false:=by unfold Hp.mustB;rw [hi];rfl
   unfold givesH
   rw [if_neg (by rw [ho];decide)]
   simp [Hp.cast,Hp.must,hm,hi]
   try (intro q;rw [hi] at hm;simp [hm] at q)
  rw [eg,if_pos (aY hs 6)]
  exact (bad (Or.inr ⟨l,v,h0,hk⟩)).mono fun e w' q=>dx (d:=⟨h.fin 6,c,0⟩) rfl (aY hs 6) q
end
section
open Go.Maps (Keyed has)
theorem tY (X:Nat->Prop) (wx w0:World) (g:Mg) (h:Hp) (qs:List Nat) (a:Mc) (c:aH) (ia ib ic ii:Int) (args:List Int) (Q:Option Addr) (nl q:Nat) (w:World) (H:RX 1 X wx w0 g w h qs a c) (hs:h.stops=false) (hl:c.stk.length<=1000) (F:Fix w0 g h) (iD:h.objs.length<=100) (hst:∀v∈c.stk,v.kind=3->-1<=v.n/\v.n<h.objs.length) (jC:0<=ia/\ia<h.file.classes.length/\0<=ib/\ib<(nth cg h.file.classes ia.toNat).fields.length) (hn:c.stk=[]∨∃(l:List Va) (v:Va),c.stk=l++[v]/\(v.kind=3->-1<=v.n/\v.n<h.objs.length)/\h.of v (dW h.file.classes ia ib)=false) :
  Calls Tryz.prog 153 #[.pointer (some ⟨a.q,0,none⟩),.agg #[int i64 16,int i64 ia,int i64 ib,int i64 ic,int i64 ii,.slice Q nl q]] w fun e w'=>bT X wx w0 g qs a c ⟨h.fin 6,c,0⟩ e w':=by
 obtain ⟨cc,rfl⟩:∃cc:Nat,ia=cc:=⟨ia.toNat,by omega⟩
 obtain ⟨k,rfl⟩:∃k:Nat,ib=k:=⟨ib.toNat,by omega⟩
 rw [Int.toNat_natCast] at jC
 have hc:cc<h.file.classes.length:=by omega
 have sx:k<(nth cg h.file.classes cc).fields.length:=by omega
 rw [gP] at hn
 have ho:=ba hs
 have HH:=ab H
 have HS:=ab hs
 have HB:Hid (Bl w (w.alloc (.cells #[int i64 16,int i64 (cc:Int),int i64 (k:Int),int i64 ic,int i64 ii,.slice Q nl q] 55))):=(Bl.refl w).alloc _
 have HL:=ab (aD w #[int i64 16,int i64 (cc:Int),int i64 (k:Int),int i64 ic,int i64 ii,.slice Q nl q] 55)
 have z0:=ab ((H.y.bl HB.out).hb)
 have z1:=ab (aF HL.out).1
 have z2:=ab (aF HL.out).2
 obtain ⟨fb,fo,FB,ff,uc,hA,y0,m1,m2,y1,y2⟩:=iu F.cls hc sx
 have lE:Bl w0 w:=by
  obtain ⟨vc,vo,vx,vs,l,H⟩:=H
  exact H.rh.bl
 have z3:Hid ((w.alloc (.cells #[int i64 16,int i64 (cc:Int),int i64 (k:Int),int i64 ic,int i64 ii,.slice Q nl q] 55)).cell? ⟨g.hb,0,none⟩=some (.slice (some ⟨fb,fo,none⟩) h.file.classes.length g.a)):=by
  obtain ⟨vc,vo,vx,vs,l,H⟩:=H
  rw [<-hA]
  exact Bl.cell HB.out H.rh.heapCells.1
 have z4:=ab (Bl.cell HB.out (Bl.cell lE y0))
 have z5:=ab (Bl.cell HB.out (Bl.cell lE y1))
 have z6:=ab (Bl.cell HB.out (Bl.cell lE y2))
 generalize nth cN (nth cg h.file.classes cc).fields k=t at *
 have HN:Hid (∀X wx w,RX 1 X wx w0 g w h qs a c->Calls Tryz.prog 146 #[.pointer (some ⟨a.q,0,none⟩),jD t] w fun e w'=>e=aV 6 0 0/\RS 1 X wx w0 g w' h qs a c):=fun X wx w H=>jN 1 X wx w0 g h qs a c t w H F iD hn
 have hc0:(0:Int)<=(cc:Int):=by omega
 have Ey:(cc:Int)<(h.file.classes.length:Int):=by omega
 have zB:(0:Int)<=(k:Int):=by omega
 have Mj:(k:Int)<((nth cg h.file.classes cc).fields.length:Int):=by omega
 clear H hs hn F hst jC hA y0 y1 y2 m1 m2 lE
 go_enter Tryz.func153,Tryz.ntmps153
 go_wp2
 refine wp_region_held_drew (S:=fun w'=>w'.cell? ⟨a.q,0,none⟩=some (.pointer (some ⟨g.hb,0,none⟩))/\w'.cell? ⟨w.heap.size,1,none⟩=some (int i64 (cc:Int))/\w'.cell? ⟨w.heap.size,2,none⟩=some (int i64 (k:Int))/\w'.cell? ⟨g.hb,0,none⟩=some (.slice (some ⟨fb,fo,none⟩) h.file.classes.length g.a)/\w'.cell? ⟨fb,fo+cc*2+1,none⟩=some (.slice (some ⟨FB,ff,none⟩) (nth cg h.file.classes cc).fields.length uc)/\w'.cell? ⟨FB,ff+k*2,none⟩=some (int i64 t.kind)/\w'.cell? ⟨FB,ff+k*2+1,none⟩=some (int i64 t.cls)) (by kernel_rfl) ?_ (fun ae=>?_)
 ·exact ⟨z0.out,z1.out,z2.out,z3.out,z4.out,z5.out,z6.out⟩
 iterate 17 (refine tn rfl (by kernel_rfl) (fun _ _ _ h=>h) (by intro _ h;go_split_ands;go_simp<;>with_reducible rfl) ae ?_;try simp only [aS,aN,aT,a0,a1])
 refine wpAnyH_ready (rs:=[17,18]) (by kernel_rfl) (by simp) ?_
 refine AllReadyH.cons rfl (fun K hK=>?_) (AllReadyH.cons rfl (fun K hK=>?_) (AllReadyH.nil))
 ·go_simp
  go_at_call 146
  refine (HH.out.y.useN (by first|exact HB.out.drew|exact HB.out.drew.alloc _) HN.out).mono ?_
  rintro e w2 ⟨rfl,H1⟩
  exact ⟨rfl,cY (s:=0) (ba HS.out) rfl H1.less⟩
 ·go_wp2_with fail
  refine hK.out _ _ (⟨Bl.cell ((Bl.refl _).alloc _) ae.1,Bl.cell ((Bl.refl _).alloc _) ae.2.1,Bl.cell ((Bl.refl _).alloc _) ae.2.2.1,Bl.cell ((Bl.refl _).alloc _) ae.2.2.2.1,Bl.cell ((Bl.refl _).alloc _) ae.2.2.2.2.1,Bl.cell ((Bl.refl _).alloc _) ae.2.2.2.2.2.1,Bl.cell ((Bl.refl _).alloc _) ae.2.2.2.2.2.2⟩) (fun ah=>?_)
  try simp only [aS,aN,aT,a0,a1]
  refine bI (i:=17) (by kernel_rfl) rfl fun K hK=>?_
  go_simp
  go_at_call 146
  refine (HH.out.y.useN (by first|exact HB.out.drew|exact HB.out.drew.alloc _) HN.out).mono ?_
  rintro e w2 ⟨rfl,H1⟩
  exact ⟨rfl,cY (s:=0) (ba HS.out) rfl H1.less⟩
end
end Go.Proofs.YtgiiapenmjollaaGreat
