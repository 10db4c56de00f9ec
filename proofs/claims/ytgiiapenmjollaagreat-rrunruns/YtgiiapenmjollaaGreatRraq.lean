import Derived.Test.YtgiiapenmjollaaGreatRrap
namespace Go.Proofs.YtgiiapenmjollaaGreat
set_option linter.all false
set_option maxHeartbeats 40000000
set_option maxRecDepth 100000
open Go.RowKit
open Tryz
section
open Go.Maps (Keyed has)
section
variable (P:Ending->World->Prop) (X:Nat->Prop) (wx w0:World) (g:Mg) (h:Hp)
theorem Av (qs:List Qb) (a:Mc) (c:aL) (w:World) (H:RX 1 X wx w0 g w h qs a c) (op ib ic ii:Int) (ia:Nat) (args:List Int) (cb co:Nat) (Q:Option Addr) (q n:Nat) (A:vY w a c ⟨op,(ia:Int),ib,ic,ii,args⟩ cb co Q q n) (hop:op=18) (mb mo nm np pc:Nat) (PP:Option Addr) (wG:nm<=8) (JM:ia<nm) (hcs:∀w',Bl w w'->κ w' a.q 1 (π g.r 0)/\κ w' g.r 1 (.slice (some ⟨mb,mo,none⟩) nm g.m)/\κ w' mb (mo+ia*8) (.slice PP np pc)) (hT:∀w',Bl w w'->χ 132 #[π a.q 0,.slice Q args.length q,.slice PP np pc] w' fun e w2=>e=bF 6 0 0/\Bl w' w2) (hP:∀w2,Bl w w2->P (bF 6 0 0) w2) :
  χ 70 #[π a.q 0] w P:=by
 have HH:=ae H
 obtain ⟨c11,fz,c8,hq,hcl,hlt,Al,iw,fT,eK,iI,Ak,E4⟩:=DP H A
 have BS:(op==10)=false:=by simp;omega
 have DR:(op==11)=false:=by simp;omega
 have Hn:(op==12)=false:=by simp;omega
 have OI:(op==18)=true:=by simp [hop]
 have OP:=ae hcs
 have Ig:=ae hT
 have i0:(0:Int)<=(ia:Int):=by omega
 have i1:(ia:Int)<(nm:Int):=by omega
 have HP:=ae hP
 clear H A hop hT hP hcs JM
 go_enter func70,ntmps70
 go_wp2
 go_quiet (fail)
 go_wp2
 refine wp_region_held_drew (S:=fun w'=>κ w' a.q 8 (.slice (some ⟨cb,co,none⟩) c.m.code.length a.c)/\κ w' a.q 11 (ι (n:Int))/\κ w' cb (co+n*6) (ι op)/\κ w' cb (co+n*6+1) (ι (ia:Int))/\κ w' cb (co+n*6+2) (ι ib)/\κ w' cb (co+n*6+3) (ι ic)/\κ w' cb (co+n*6+4) (ι ii)/\κ w' cb (co+n*6+5) (.slice Q args.length q)) (by kernel_rfl) ?_ (fun aa=>?_)
 ·exact iI.o _ (aR (Bl.refl w) _).drew
 iterate 12 (refine tn rfl (by kernel_rfl) (fun _ _ _ h=>h) (by intro _ h;go_split_ands;go_simp<;>with_reducible rfl) aa ?_;try simp only [aZ])
 refine aY (i:=12) (by kernel_rfl) rfl fun K hK=>?_
 go_wp2_with fail
 refine hK.out _ _ (iI.o _ ((aR (Bl.refl w) _).alloc _)) (fun ah=>?_)
 try simp only [aZ]
 refine aY (i:=13) (by kernel_rfl) rfl fun K hK=>?_
 obtain ⟨B,eX⟩:∃B,B=w.heap.size:=⟨_,rfl⟩
 obtain ⟨jL,v0,v1,v2,v3,v4,v5,kB,qB,hB⟩:=o5 w (nq+1) B eX
 simp only [<-eX]
 clear ah eX
 generalize (w.drewN (nq+1)).alloc (.cells #[ι 0,ι 0,ι 0,ι 0,ι 0,.slice none 0 0] 55)=V at *
 go_wp2_with fail
 obtain ⟨gJ,hz,q6⟩:=o6 jL hB v0 v1 v2 v3 v4 v5 kB qB (ι op) (ι (ia:Int)) (ι ib) (ι ic) (ι ii) (.slice Q args.length q)
 generalize (((((V.setCell ⟨B,0,none⟩ (ι op)).setCell ⟨B,1,none⟩ (ι (ia:Int))).setCell ⟨B,2,none⟩ (ι ib)).setCell ⟨B,3,none⟩ (ι ic)).setCell ⟨B,4,none⟩ (ι ii)).setCell ⟨B,5,none⟩ (.slice Q args.length q)=V6 at *
 refine hK.out _ _ (iI.o _ gJ.o) (fun aH=>?_)
 clear v0 v1 v2 v3 v4 v5 kB jL qB aH V
 obtain ⟨z0,z1,z2,z3,z4,z5,E5⟩:=hz.o
 try simp only [aZ]
 refine wpAnyH_done (by kernel_rfl) ?_ _
 go_wp2
 refine wp_region_held_drew (S:=fun w'=>κ w' a.q 1 (π g.r 0)/\κ w' g.r 1 (.slice (some ⟨mb,mo,none⟩) nm g.m)/\κ w' mb (mo+ia*8) (.slice PP np pc)/\κ w' B 1 (ι (ia:Int))/\κ w' B 5 (.slice Q args.length q)) (by kernel_rfl) ?_ (fun aa=>?_)
 ·have hc:=OP.o _ gJ.o;exact ⟨hc.1,hc.2.1,hc.2.2,z1,z5⟩
 iterate 21 (refine tn rfl (by kernel_rfl) (fun _ _ _ h=>h) (by intro _ h;go_split_ands;go_simp<;>with_reducible rfl) aa ?_;try simp only [aZ])
 refine aY (i:=21) (by kernel_rfl) rfl fun K hK=>?_
 go_simp
 go_at_call 132
 refine (Ig.o _ gJ.o.drew).mono ?_
 rintro e w1 ⟨rfl,b1⟩
 exact ⟨rfl,HP.o _ (gJ.o.drew.trans b1)⟩
theorem v8 (qs:List Qb) (a:Mc) (c:aL) (w:World) (H:RX 1 X wx w0 g w h qs a c) (op ib ic ii:Int) (ia:Nat) (args:List Int) (cb co:Nat) (Q:Option Addr) (q n:Nat) (A:vY w a c ⟨op,(ia:Int),ib,ic,ii,args⟩ cb co Q q n) (hop:op=18) (mb mo nm np pc:Nat) (PP:Option Addr) (wG:nm<=8) (JM:ia<nm) (hcs:∀w',Bl w w'->κ w' a.q 1 (π g.r 0)/\κ w' g.r 1 (.slice (some ⟨mb,mo,none⟩) nm g.m)/\κ w' mb (mo+ia*8) (.slice PP np pc)) (us:List Va) (ch:List PanicEntry) (hT:∀w',Bl w w'->χ 132 #[π a.q 0,.slice Q args.length q,.slice PP np pc] w' fun e w2=>e=.returned (.slice (some ⟨w'.heap.size,0,none⟩) np np)/\cu w2 w'.heap.size us/\Bl w' w2) (hC:∀w1 b,Bl w w1->cu w1 b us->χ 45 #[π g.r 0,ι (ia:Int),.slice (some ⟨b,0,none⟩) np np] w1 fun e w2=>e=.panicked ch/\P e w2) :
  χ 70 #[π a.q 0] w P:=by
 have HH:=ae H
 obtain ⟨c11,fz,c8,hq,hcl,hlt,Al,iw,fT,eK,iI,Ak,E4⟩:=DP H A
 have BS:(op==10)=false:=by simp;omega
 have DR:(op==11)=false:=by simp;omega
 have Hn:(op==12)=false:=by simp;omega
 have OI:(op==18)=true:=by simp [hop]
 have OP:=ae hcs
 have Ig:=ae hT
 have i0:(0:Int)<=(ia:Int):=by omega
 have i1:(ia:Int)<(nm:Int):=by omega
 have HC:=ae hC
 clear H A hop hT hC hcs JM
 go_enter func70,ntmps70
 go_wp2
 go_quiet (fail)
 go_wp2
 refine wp_region_held_drew (S:=fun w'=>κ w' a.q 8 (.slice (some ⟨cb,co,none⟩) c.m.code.length a.c)/\κ w' a.q 11 (ι (n:Int))/\κ w' cb (co+n*6) (ι op)/\κ w' cb (co+n*6+1) (ι (ia:Int))/\κ w' cb (co+n*6+2) (ι ib)/\κ w' cb (co+n*6+3) (ι ic)/\κ w' cb (co+n*6+4) (ι ii)/\κ w' cb (co+n*6+5) (.slice Q args.length q)) (by kernel_rfl) ?_ (fun aa=>?_)
 ·exact iI.o _ (aR (Bl.refl w) _).drew
 iterate 12 (refine tn rfl (by kernel_rfl) (fun _ _ _ h=>h) (by intro _ h;go_split_ands;go_simp<;>with_reducible rfl) aa ?_;try simp only [aZ])
 refine aY (i:=12) (by kernel_rfl) rfl fun K hK=>?_
 go_wp2_with fail
 refine hK.out _ _ (iI.o _ ((aR (Bl.refl w) _).alloc _)) (fun ah=>?_)
 try simp only [aZ]
 refine aY (i:=13) (by kernel_rfl) rfl fun K hK=>?_
 obtain ⟨B,eX⟩:∃B,B=w.heap.size:=⟨_,rfl⟩
 obtain ⟨jL,v0,v1,v2,v3,v4,v5,kB,qB,hB⟩:=o5 w (nq+1) B eX
 simp only [<-eX]
 clear ah eX
 generalize (w.drewN (nq+1)).alloc (.cells #[ι 0,ι 0,ι 0,ι 0,ι 0,.slice none 0 0] 55)=V at *
 go_wp2_with fail
 obtain ⟨gJ,hz,q6⟩:=o6 jL hB v0 v1 v2 v3 v4 v5 kB qB (ι op) (ι (ia:Int)) (ι ib) (ι ic) (ι ii) (.slice Q args.length q)
 generalize (((((V.setCell ⟨B,0,none⟩ (ι op)).setCell ⟨B,1,none⟩ (ι (ia:Int))).setCell ⟨B,2,none⟩ (ι ib)).setCell ⟨B,3,none⟩ (ι ic)).setCell ⟨B,4,none⟩ (ι ii)).setCell ⟨B,5,none⟩ (.slice Q args.length q)=V6 at *
 refine hK.out _ _ (iI.o _ gJ.o) (fun aH=>?_)
 clear v0 v1 v2 v3 v4 v5 kB jL qB aH V
 obtain ⟨z0,z1,z2,z3,z4,z5,E5⟩:=hz.o
 try simp only [aZ]
 refine wpAnyH_done (by kernel_rfl) ?_ _
 go_wp2
 refine wp_region_held_drew (S:=fun w'=>κ w' a.q 1 (π g.r 0)/\κ w' g.r 1 (.slice (some ⟨mb,mo,none⟩) nm g.m)/\κ w' mb (mo+ia*8) (.slice PP np pc)/\κ w' B 1 (ι (ia:Int))/\κ w' B 5 (.slice Q args.length q)) (by kernel_rfl) ?_ (fun aa=>?_)
 ·have hc:=OP.o _ gJ.o;exact ⟨hc.1,hc.2.1,hc.2.2,z1,z5⟩
 iterate 21 (refine tn rfl (by kernel_rfl) (fun _ _ _ h=>h) (by intro _ h;go_split_ands;go_simp<;>with_reducible rfl) aa ?_;try simp only [aZ])
 refine aY (i:=21) (by kernel_rfl) rfl fun K hK=>?_
 go_simp
 go_at_call 132
 refine (Ig.o _ gJ.o.drew).mono ?_
 rintro e w1 ⟨rfl,L1,b1⟩
 have hc:=OP.o _ (gJ.o.drew.trans b1)
 have x1:=ax b1 q6.o
 have da:=ae (And.intro hc.1 (And.intro hc.2.1 (And.intro hc.2.2 (And.intro (dr x1).2.1 (dr x1).2.2.2.2.2))))
 replace x1:=ae x1
 replace L1:=ae L1
 replace b1:=ae b1
 clear hc
 go_wp2_with fail
 refine hK.out _ _ (da.o) (fun ah=>?_)
 try simp only [aZ]
 refine aY (i:=22) (by kernel_rfl) rfl fun K hK=>?_
 go_simp
 go_at_call 45
 refine (HC.o _ _ (gJ.o.drew.trans b1.o) L1.o).mono ?_
 rintro e w2 ⟨rfl,pq⟩
 exact ⟨rfl,pq⟩
theorem Aw (qs:List Qb) (a:Mc) (c:aL) (w:World) (H:RX 1 X wx w0 g w h qs a c) (op ib ic ii:Int) (ia:Nat) (args:List Int) (cb co:Nat) (Q:Option Addr) (q n:Nat) (A:vY w a c ⟨op,(ia:Int),ib,ic,ii,args⟩ cb co Q q n) (hop:op=18) (mb mo nm np pc:Nat) (PP:Option Addr) (wG:nm<=8) (JM:ia<nm) (hcs:∀w',Bl w w'->κ w' a.q 1 (π g.r 0)/\κ w' g.r 1 (.slice (some ⟨mb,mo,none⟩) nm g.m)/\κ w' mb (mo+ia*8) (.slice PP np pc)) (us:List Va) (hT:∀w',Bl w w'->χ 132 #[π a.q 0,.slice Q args.length q,.slice PP np pc] w' fun e w2=>e=.returned (.slice (some ⟨w'.heap.size,0,none⟩) np np)/\cu w2 w'.heap.size us/\Bl w' w2) (hC:∀w1 b,Bl w w1->cu w1 b us->χ 45 #[π g.r 0,ι (ia:Int),.slice (some ⟨b,0,none⟩) np np] w1 fun e w2=>e=.returned (.tuple #[])/\P e w2/\sL (Xp Ko w.heap.size w1.heap.size) w1 w2/\(κ w2 a.q 1 (π g.r 0)/\κ w2 g.r 1 (.slice (some ⟨mb,mo,none⟩) nm g.m)/\κ w2 mb (mo+ia*8) (.slice PP np pc))) :
  χ 70 #[π a.q 0] w P:=by
 have HH:=ae H
 obtain ⟨c11,fz,c8,hq,hcl,hlt,Al,iw,fT,eK,iI,Ak,E4⟩:=DP H A
 have BS:(op==10)=false:=by simp;omega
 have DR:(op==11)=false:=by simp;omega
 have Hn:(op==12)=false:=by simp;omega
 have OI:(op==18)=true:=by simp [hop]
 have OP:=ae hcs
 have Ig:=ae hT
 have i0:(0:Int)<=(ia:Int):=by omega
 have i1:(ia:Int)<(nm:Int):=by omega
 have HC:=ae hC
 clear H A hop hT hC hcs JM
 go_enter func70,ntmps70
 go_wp2
 go_quiet (fail)
 go_wp2
 refine wp_region_held_drew (S:=fun w'=>κ w' a.q 8 (.slice (some ⟨cb,co,none⟩) c.m.code.length a.c)/\κ w' a.q 11 (ι (n:Int))/\κ w' cb (co+n*6) (ι op)/\κ w' cb (co+n*6+1) (ι (ia:Int))/\κ w' cb (co+n*6+2) (ι ib)/\κ w' cb (co+n*6+3) (ι ic)/\κ w' cb (co+n*6+4) (ι ii)/\κ w' cb (co+n*6+5) (.slice Q args.length q)) (by kernel_rfl) ?_ (fun aa=>?_)
 ·exact iI.o _ (aR (Bl.refl w) _).drew
 iterate 12 (refine tn rfl (by kernel_rfl) (fun _ _ _ h=>h) (by intro _ h;go_split_ands;go_simp<;>with_reducible rfl) aa ?_;try simp only [aZ])
 refine aY (i:=12) (by kernel_rfl) rfl fun K hK=>?_
 go_wp2_with fail
 refine hK.out _ _ (iI.o _ ((aR (Bl.refl w) _).alloc _)) (fun ah=>?_)
 try simp only [aZ]
 refine aY (i:=13) (by kernel_rfl) rfl fun K hK=>?_
 obtain ⟨B,eX⟩:∃B,B=w.heap.size:=⟨_,rfl⟩
 obtain ⟨jL,v0,v1,v2,v3,v4,v5,kB,qB,hB⟩:=o5 w (nq+1) B eX
 simp only [<-eX]
 clear ah eX
 generalize (w.drewN (nq+1)).alloc (.cells #[ι 0,ι 0,ι 0,ι 0,ι 0,.slice none 0 0] 55)=V at *
 go_wp2_with fail
 obtain ⟨gJ,hz,q6⟩:=o6 jL hB v0 v1 v2 v3 v4 v5 kB qB (ι op) (ι (ia:Int)) (ι ib) (ι ic) (ι ii) (.slice Q args.length q)
 generalize (((((V.setCell ⟨B,0,none⟩ (ι op)).setCell ⟨B,1,none⟩ (ι (ia:Int))).setCell ⟨B,2,none⟩ (ι ib)).setCell ⟨B,3,none⟩ (ι ic)).setCell ⟨B,4,none⟩ (ι ii)).setCell ⟨B,5,none⟩ (.slice Q args.length q)=V6 at *
 refine hK.out _ _ (iI.o _ gJ.o) (fun aH=>?_)
 clear v0 v1 v2 v3 v4 v5 kB jL qB aH V
 obtain ⟨z0,z1,z2,z3,z4,z5,E5⟩:=hz.o
 try simp only [aZ]
 refine wpAnyH_done (by kernel_rfl) ?_ _
 go_wp2
 refine wp_region_held_drew (S:=fun w'=>κ w' a.q 1 (π g.r 0)/\κ w' g.r 1 (.slice (some ⟨mb,mo,none⟩) nm g.m)/\κ w' mb (mo+ia*8) (.slice PP np pc)/\κ w' B 1 (ι (ia:Int))/\κ w' B 5 (.slice Q args.length q)) (by kernel_rfl) ?_ (fun aa=>?_)
 ·have hc:=OP.o _ gJ.o;exact ⟨hc.1,hc.2.1,hc.2.2,z1,z5⟩
 iterate 21 (refine tn rfl (by kernel_rfl) (fun _ _ _ h=>h) (by intro _ h;go_split_ands;go_simp<;>with_reducible rfl) aa ?_;try simp only [aZ])
 refine aY (i:=21) (by kernel_rfl) rfl fun K hK=>?_
 go_simp
 go_at_call 132
 refine (Ig.o _ gJ.o.drew).mono ?_
 rintro e w1 ⟨rfl,L1,b1⟩
 have hc:=OP.o _ (gJ.o.drew.trans b1)
 have x1:=ax b1 q6.o
 have da:=ae (And.intro hc.1 (And.intro hc.2.1 (And.intro hc.2.2 (And.intro (dr x1).2.1 (dr x1).2.2.2.2.2))))
 replace x1:=ae x1
 replace L1:=ae L1
 replace b1:=ae b1
 clear hc
 go_wp2_with fail
 refine hK.out _ _ (da.o) (fun ah=>?_)
 try simp only [aZ]
 refine aY (i:=22) (by kernel_rfl) rfl fun K hK=>?_
 go_simp
 go_at_call 45
 refine (HC.o _ _ (gJ.o.drew.trans b1.o) L1.o).mono ?_
 rintro e w2 ⟨rfl,pq,K2,BL⟩
 have x2:=K2.at (Xp.new hB.o (af x1.o)) x1.o
 have db:=ae (And.intro BL.1 (And.intro BL.2.1 (And.intro BL.2.2 (And.intro (dr x2).2.1 (dr x2).2.2.2.2.2))))
 replace pq:=ae pq
 clear K2 x2 BL
 go_wp2_with fail
 refine hK.out _ _ (db.o) (fun aH=>?_)
 try simp only [aZ]
 refine wpAnyH_done (by kernel_rfl) ?_ _
 go_wp2
 go_end0
 exact pq.o
end
end
end Go.Proofs.YtgiiapenmjollaaGreat
