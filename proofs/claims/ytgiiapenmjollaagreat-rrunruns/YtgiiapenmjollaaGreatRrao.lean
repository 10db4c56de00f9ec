import Derived.Test.YtgiiapenmjollaaGreatRran
import Derived.BigQuiet
namespace Go.Proofs.YtgiiapenmjollaaGreat
set_option linter.all false
set_option maxHeartbeats 40000000
set_option maxRecDepth 100000
open Go.RowKit
open Tryz
section
open Go.Maps (Keyed has)
section
variable (s:Nat) (X:Nat->Prop) (wx w0:World) (g:Mg) (h:Hp)
theorem ru (qs:List Qb) (a:Mc) (c:aL) (w:World) (H:RX s X wx w0 g w h qs a c) (to:Int) :
  χ 130 #[π a.q 0,ι to,.bool true] w fun e w'=>e=.returned (.tuple #[])/\RX s X wx w0 g w' h qs a { c with giv:=aE,cau:=aE,pc:=to }:=by
 have HS:=ae (H.set0 to)
 obtain ⟨c11,fz,c12,c13,c14,c15⟩:=H.cp
 clear H
 go_enter func130,ntmps130
 go_wp2
 go_end0
 exact ⟨rfl,HS.o⟩
theorem DQ (qs:List Qb) (a:Mc) (c:aL) (w:World) (H:RX s X wx w0 g w h qs a c) (to:Int) (hp:0<=c.pc/\c.pc<9223372036854775807) :
  χ 130 #[π a.q 0,ι to,.bool false] w fun e w'=>e=.returned (.tuple #[])/\RX s X wx w0 g w' h qs a { c with giv:=aE,cau:=aE,pc:=(c.pc+1) }:=by
 have HS:=ae (H.set0 (c.pc+1))
 obtain ⟨c11,fz,c12,c13,c14,c15⟩:=H.cp
 clear H
 go_enter func130,ntmps130
 go_wp2
 go_end0
 exact ⟨rfl,HS.o⟩
end
section
variable (P:Ending->World->Prop) (X:Nat->Prop) (wx w0:World) (g:Mg) (h:Hp)
theorem Lj (qs:List Qb) (a:Mc) (c:aL) (w:World) (H:RX 1 X wx w0 g w h qs a c) (op ia ib ic ii:Int) (args:List Int) (cb co:Nat) (Q:Option Addr) (q n:Nat) (A:vY w a c ⟨op,ia,ib,ic,ii,args⟩ cb co Q q n) (hop:op=10) (hk:∀w',Bl w w'->χ 130 #[π a.q 0,ι ia,.bool true] w' fun e w2=>e=.returned (.tuple #[])/\P e w2) :
  χ 70 #[π a.q 0] w P:=by
 have HH:=ae H
 obtain ⟨c11,fz,c8,hq,hcl,hlt,Al,iw,fT,eK,iI,Ak,E4⟩:=DP H A
 have BS:(op==10)=true:=by simp [hop]
 have HK:=ae hk
 clear H A hop hk
 go_enter func70,ntmps70
 go_wp2
 go_quiet (fail)
 go_wp2
 refine wp_region_held_drew (S:=fun w'=>κ w' a.q 8 (.slice (some ⟨cb,co,none⟩) c.m.code.length a.c)/\κ w' a.q 11 (ι (n:Int))/\κ w' cb (co+n*6) (ι op)/\κ w' cb (co+n*6+1) (ι ia)/\κ w' cb (co+n*6+2) (ι ib)/\κ w' cb (co+n*6+3) (ι ic)/\κ w' cb (co+n*6+4) (ι ii)/\κ w' cb (co+n*6+5) (.slice Q args.length q)) (by kernel_rfl) ?_ (fun aa=>?_)
 ·exact iI.o _ (aR (Bl.refl w) _).drew
 iterate 12 (refine tn rfl (by kernel_rfl) (fun _ _ _ h=>h) (by intro _ h;go_split_ands;go_simp<;>with_reducible rfl) aa ?_;try simp only [aZ])
 refine aY (i:=12) (by kernel_rfl) rfl fun K hK=>?_
 go_wp2_with fail
 refine hK.out _ _ (iI.o _ ((aR (Bl.refl w) _).alloc _)) (fun ah=>?_)
 try simp only [aZ]
 refine aY (i:=13) (by kernel_rfl) rfl fun K hK=>?_
 obtain ⟨B,eX⟩:∃B,B=w.heap.size:=⟨_,rfl⟩
 obtain ⟨jL,v0,v1,v2,v3,v4,v5,kB,qB,hB⟩:=o5 w (nq+1) B eX
 simp only [<-eX]
 clear ah eX
 generalize (w.drewN (nq+1)).alloc (.cells #[ι 0,ι 0,ι 0,ι 0,ι 0,.slice none 0 0] 55)=V at *
 go_wp2_with fail
 obtain ⟨gJ,hz,q6⟩:=o6 jL hB v0 v1 v2 v3 v4 v5 kB qB (ι op) (ι ia) (ι ib) (ι ic) (ι ii) (.slice Q args.length q)
 generalize (((((V.setCell ⟨B,0,none⟩ (ι op)).setCell ⟨B,1,none⟩ (ι ia)).setCell ⟨B,2,none⟩ (ι ib)).setCell ⟨B,3,none⟩ (ι ic)).setCell ⟨B,4,none⟩ (ι ii)).setCell ⟨B,5,none⟩ (.slice Q args.length q)=V6 at *
 refine hK.out _ _ (iI.o _ gJ.o) (fun aH=>?_)
 clear v0 v1 v2 v3 v4 v5 kB jL qB aH V
 obtain ⟨z0,z1,z2,z3,z4,z5,E5⟩:=hz.o
 try simp only [aZ]
 refine wpAnyH_done (by kernel_rfl) ?_ _
 go_wp2_with (go_at_call 130;refine (HK.o _ gJ.o).mono ?_;rintro e w1 ⟨rfl,pq⟩;replace pq:=ae pq)
 go_end0
 exact pq.o
theorem Am (qs:List Qb) (a:Mc) (c:aL) (w:World) (H:RX 1 X wx w0 g w h qs a c) (op ia ib ic ii:Int) (args:List Int) (cb co:Nat) (Q:Option Addr) (q n:Nat) (A:vY w a c ⟨op,ia,ib,ic,ii,args⟩ cb co Q q n) (rZ:op≠10) (lP:op≠11) (jU:op≠12) (oA:op≠18) (kV:op≠20) (ch:List PanicEntry) (hk:∀w',Bl w w'->χ 134 #[π a.q 0,.agg #[ι op,ι ia,ι ib,ι ic,ι ii,.slice Q args.length q]] w' fun e w2=>e=.panicked ch/\P e w2) :
  χ 70 #[π a.q 0] w P:=by
 have HH:=ae H
 obtain ⟨c11,fz,c8,hq,hcl,hlt,Al,iw,fT,eK,iI,Ak,E4⟩:=DP H A
 have BS:(op==10)=false:=by simp;omega
 have DR:(op==11)=false:=by simp;omega
 have Hn:(op==12)=false:=by simp;omega
 have OI:(op==18)=false:=by simp;omega
 have SH:(op==20)=false:=by simp;omega
 have HK:=ae hk
 clear H A  hk rZ lP jU oA kV
 go_enter func70,ntmps70
 go_wp2
 go_quiet (fail)
 go_wp2
 refine wp_region_held_drew (S:=fun w'=>κ w' a.q 8 (.slice (some ⟨cb,co,none⟩) c.m.code.length a.c)/\κ w' a.q 11 (ι (n:Int))/\κ w' cb (co+n*6) (ι op)/\κ w' cb (co+n*6+1) (ι ia)/\κ w' cb (co+n*6+2) (ι ib)/\κ w' cb (co+n*6+3) (ι ic)/\κ w' cb (co+n*6+4) (ι ii)/\κ w' cb (co+n*6+5) (.slice Q args.length q)) (by kernel_rfl) ?_ (fun aa=>?_)
 ·exact iI.o _ (aR (Bl.refl w) _).drew
 iterate 12 (refine tn rfl (by kernel_rfl) (fun _ _ _ h=>h) (by intro _ h;go_split_ands;go_simp<;>with_reducible rfl) aa ?_;try simp only [aZ])
 refine aY (i:=12) (by kernel_rfl) rfl fun K hK=>?_
 go_wp2_with fail
 refine hK.out _ _ (iI.o _ ((aR (Bl.refl w) _).alloc _)) (fun ah=>?_)
 try simp only [aZ]
 refine aY (i:=13) (by kernel_rfl) rfl fun K hK=>?_
 obtain ⟨B,eX⟩:∃B,B=w.heap.size:=⟨_,rfl⟩
 obtain ⟨jL,v0,v1,v2,v3,v4,v5,kB,qB,hB⟩:=o5 w (nq+1) B eX
 simp only [<-eX]
 clear ah eX
 generalize (w.drewN (nq+1)).alloc (.cells #[ι 0,ι 0,ι 0,ι 0,ι 0,.slice none 0 0] 55)=V at *
 go_wp2_with fail
 obtain ⟨gJ,hz,q6⟩:=o6 jL hB v0 v1 v2 v3 v4 v5 kB qB (ι op) (ι ia) (ι ib) (ι ic) (ι ii) (.slice Q args.length q)
 generalize (((((V.setCell ⟨B,0,none⟩ (ι op)).setCell ⟨B,1,none⟩ (ι ia)).setCell ⟨B,2,none⟩ (ι ib)).setCell ⟨B,3,none⟩ (ι ic)).setCell ⟨B,4,none⟩ (ι ii)).setCell ⟨B,5,none⟩ (.slice Q args.length q)=V6 at *
 refine hK.out _ _ (iI.o _ gJ.o) (fun aH=>?_)
 clear v0 v1 v2 v3 v4 v5 kB jL qB aH V
 obtain ⟨z0,z1,z2,z3,z4,z5,E5⟩:=hz.o
 try simp only [aZ]
 refine wpAnyH_done (by kernel_rfl) ?_ _
 go_wp2_with (go_at_call 134;refine (HK.o _ gJ.o).mono ?_;rintro e w1 ⟨rfl,pq⟩;replace pq:=ae pq)
 exact ⟨rfl,pq.o⟩
theorem Ao (qs:List Qb) (a:Mc) (c:aL) (w:World) (H:RX 1 X wx w0 g w h qs a c) (op ia ib ic ii:Int) (args:List Int) (cb co:Nat) (Q:Option Addr) (q n:Nat) (A:vY w a c ⟨op,ia,ib,ic,ii,args⟩ cb co Q q n) (rZ:op≠10) (lP:op≠11) (jU:op≠12) (oA:op≠18) (kV:op≠20) (h':Hp) (l:List Va) (hk:∀w',Bl w w'->χ 134 #[π a.q 0,.agg #[ι op,ι ia,ι ib,ι ic,ι ii,.slice Q args.length q]] w' fun e w2=>e=.returned (.tuple #[])/\RX 0 X wx w0 g w2 h' qs a { c with locs:=l }) (hP:∀w2,RX 0 X wx w0 g w2 h' qs a { c with locs:=l,giv:=aE,cau:=aE,pc:=c.pc+1 }->P (.returned (.tuple #[])) w2) :
  χ 70 #[π a.q 0] w P:=by
 have HH:=ae H
 obtain ⟨c11,fz,c8,hq,hcl,hlt,Al,iw,fT,eK,iI,Ak,E4⟩:=DP H A
 have BS:(op==10)=false:=by simp;omega
 have DR:(op==11)=false:=by simp;omega
 have Hn:(op==12)=false:=by simp;omega
 have OI:(op==18)=false:=by simp;omega
 have SH:(op==20)=false:=by simp;omega
 have HK:=ae hk
 have HP:=ae hP
 clear H A  hk rZ lP jU oA kV hP
 go_enter func70,ntmps70
 go_wp2
 go_quiet (fail)
 go_wp2
 refine wp_region_held_drew (S:=fun w'=>κ w' a.q 8 (.slice (some ⟨cb,co,none⟩) c.m.code.length a.c)/\κ w' a.q 11 (ι (n:Int))/\κ w' cb (co+n*6) (ι op)/\κ w' cb (co+n*6+1) (ι ia)/\κ w' cb (co+n*6+2) (ι ib)/\κ w' cb (co+n*6+3) (ι ic)/\κ w' cb (co+n*6+4) (ι ii)/\κ w' cb (co+n*6+5) (.slice Q args.length q)) (by kernel_rfl) ?_ (fun aa=>?_)
 ·exact iI.o _ (aR (Bl.refl w) _).drew
 iterate 12 (refine tn rfl (by kernel_rfl) (fun _ _ _ h=>h) (by intro _ h;go_split_ands;go_simp<;>with_reducible rfl) aa ?_;try simp only [aZ])
 refine aY (i:=12) (by kernel_rfl) rfl fun K hK=>?_
 go_wp2_with fail
 refine hK.out _ _ (iI.o _ ((aR (Bl.refl w) _).alloc _)) (fun ah=>?_)
 try simp only [aZ]
 refine aY (i:=13) (by kernel_rfl) rfl fun K hK=>?_
 obtain ⟨B,eX⟩:∃B,B=w.heap.size:=⟨_,rfl⟩
 obtain ⟨jL,v0,v1,v2,v3,v4,v5,kB,qB,hB⟩:=o5 w (nq+1) B eX
 simp only [<-eX]
 clear ah eX
 generalize (w.drewN (nq+1)).alloc (.cells #[ι 0,ι 0,ι 0,ι 0,ι 0,.slice none 0 0] 55)=V at *
 go_wp2_with fail
 obtain ⟨gJ,hz,q6⟩:=o6 jL hB v0 v1 v2 v3 v4 v5 kB qB (ι op) (ι ia) (ι ib) (ι ic) (ι ii) (.slice Q args.length q)
 generalize (((((V.setCell ⟨B,0,none⟩ (ι op)).setCell ⟨B,1,none⟩ (ι ia)).setCell ⟨B,2,none⟩ (ι ib)).setCell ⟨B,3,none⟩ (ι ic)).setCell ⟨B,4,none⟩ (ι ii)).setCell ⟨B,5,none⟩ (.slice Q args.length q)=V6 at *
 refine hK.out _ _ (iI.o _ gJ.o) (fun aH=>?_)
 clear v0 v1 v2 v3 v4 v5 kB jL qB aH V
 obtain ⟨z0,z1,z2,z3,z4,z5,E5⟩:=hz.o
 try simp only [aZ]
 refine wpAnyH_done (by kernel_rfl) ?_ _
 go_wp2_with (go_at_call 134;refine (HK.o _ gJ.o).mono ?_;rintro e w1 ⟨rfl,H1⟩;obtain ⟨QU,kz,SI,SJ,SK,SL⟩:=H1.cp;dsimp only at QU SI SJ SK SL;rw [Al.o] at QU;have H5:=H1.set0 ((n:Int)+1);rw [<-Al.o] at H5;replace H5:=ae (HP.o _ H5);clear H1)
 go_end0
 rw [Al.o] at H5
 exact H5.o
end
end
section
open Go.Maps (Keyed has)
section
variable (s:Nat) (X:Nat->Prop) (wx w0:World) (g:Mg) (h:Hp)
theorem x9 (qs:List Qb) (a:Mc) (c:aL) (n:Int) (w:World) (H:RX s X wx w0 g w h qs a c) (hr:c.m.ret.kind=0) :
  χ 133 #[π a.q 0,ι n] w fun e w'=>e=.returned (cm aE)/\Bl w w':=by
 have hq:=H.qlt
 have HH:=ae H
 have HB:Θ (Bl w (w.alloc fa)):=(Bl.refl w).alloc _
 obtain ⟨G3,C0⟩:=(H.bl HB.o).cells
 have z3:=C0.c3
 have z4:=C0.c4
 have HQ:=ae (aB w #[ι 0,ι 0] 100)
 rw [hr] at z3
 have f0:=aO HQ.o
 have f1:=aJ HQ.o
 have fz:=aA HQ.o
 clear H hr C0
 go_enter func133,ntmps133
 go_wp2
 refine bodyPost_ret (results_cell_row rfl _ _ w.heap.size _ _ _ _ rfl HQ.o underlying100 rfl au) rfl ?_
 exact ⟨rfl,HB.o⟩
theorem Ap (qs:List Qb) (a:Mc) (c:aL) (n:Int) (w:World) (H:RX s X wx w0 g w h qs a c) (F:Fix w0 g h) (hf:h.objs.length<=100) (hr:1<=c.m.ret.kind/\c.m.ret.kind<=3) (hn:0<=n/\n<c.locs.length) (h2:c.m.ret.kind=2->n+1<c.locs.length) (hv:(c.rd n).kind=3->-1<=(c.rd n).n/\(c.rd n).n<h.objs.length) (ho:h.of (c.rd n) c.m.ret=true) :
  χ 133 #[π a.q 0,ι n] w fun e w'=>e=.returned (cm (im (c.rd n)))/\Bl w w':=by
 have hq:=H.qlt
 have HH:=ae H
 have HB:Θ (Bl w (w.alloc fa)):=(Bl.refl w).alloc _
 obtain ⟨G3,C0⟩:=(H.bl HB.o).cells
 have z3:=C0.c3
 have z4:=C0.c4
 have HQ:=ae (aB w #[ι 0,ι 0] 100)
 have HT:Θ (∀w',RX s X wx w0 g w' h qs a c->χ 183 #[π a.q 0,ι n,iC c.m.ret] w' fun e w2=>e=.returned (cm (im (c.rd n)))/\Bl w' w2):=fun w' H=>jJ s X wx w0 g h qs a c n c.m.ret w' H F hf hn hr h2 hv ho
 have wF:(c.m.ret.kind==0)=false:=by simp;omega
 generalize im (c.rd n)=U at *
 clear H C0 F hf hr hn h2 hv ho
 go_enter func133,ntmps133
 go_wp2_with (go_at_call 183;refine (HT.o _ (HH.o.bl HB.o)).mono ?_;rintro e w1 ⟨rfl,b1⟩;have q1:=ax b1 HQ.o;have c4:=aO q1;have c5:=aJ q1;have fz:=aA q1;replace q1:=ae q1;replace b1:=ae b1)
 refine bodyPost_ret (results_cell_row rfl _ _ w.heap.size _ _ _ _ rfl (ba q1.o) underlying100 rfl au) rfl ?_
 exact ⟨rfl,cT (HB.o.trans b1.o) (by omega) _ _⟩
theorem DS (qs:List Qb) (a:Mc) (c:aL) (n:Int) (w:World) (H:RX s X wx w0 g w h qs a c) (F:Fix w0 g h) (hf:h.objs.length<=100) (hr:1<=c.m.ret.kind/\c.m.ret.kind<=3) (hn:0<=n/\n<c.locs.length) (h2:c.m.ret.kind=2->n+1<c.locs.length) (hv:(c.rd n).kind=3->-1<=(c.rd n).n/\(c.rd n).n<h.objs.length) (ho:h.of (c.rd n) c.m.ret=false) :
  χ 133 #[π a.q 0,ι n] w fun e w'=>e=bF 6 0 0/\Bl w w':=by
 have hq:=H.qlt
 have HH:=ae H
 have HB:Θ (Bl w (w.alloc fa)):=(Bl.refl w).alloc _
 obtain ⟨G3,C0⟩:=(H.bl HB.o).cells
 have z3:=C0.c3
 have z4:=C0.c4
 have HQ:=ae (aB w #[ι 0,ι 0] 100)
 have HT:Θ (∀w',RX s X wx w0 g w' h qs a c->χ 183 #[π a.q 0,ι n,iC c.m.ret] w' fun e w2=>e=bF 6 0 0/\Bl w' w2):=fun w' H=>rL s X wx w0 g h qs a c n c.m.ret w' H F hf hn hr h2 hv ho
 have wF:(c.m.ret.kind==0)=false:=by simp;omega
 clear H C0 F hf hr hn h2 hv ho
 go_enter func133,ntmps133
 go_wp2_with (go_at_call 183;refine (HT.o _ (HH.o.bl HB.o)).mono ?_;rintro e w1 ⟨rfl,b1⟩;replace b1:=ae b1)
 exact ⟨rfl,rfl,HB.o.trans b1.o⟩
end
section
variable (P:Ending->World->Prop) (X:Nat->Prop) (wx w0:World) (g:Mg) (h:Hp)
theorem DT (qs:List Qb) (a:Mc) (c:aL) (w:World) (H:RX 1 X wx w0 g w h qs a c) (op ia ib ic ii:Int) (args:List Int) (cb co:Nat) (Q:Option Addr) (q n:Nat) (A:vY w a c ⟨op,ia,ib,ic,ii,args⟩ cb co Q q n) (hop:op=20) (hres:∀w',Bl w w'->χ 133 #[π a.q 0,ι ia] w' fun e w2=>e=bF 6 0 0/\Bl w' w2) (hP:∀w2,Bl w w2->P (bF 6 0 0) w2) :
  χ 70 #[π a.q 0] w P:=by
 have HH:=ae H
 obtain ⟨c11,fz,c8,hq,hcl,hlt,Al,iw,fT,eK,iI,Ak,E4⟩:=DP H A
 have BS:(op==10)=false:=by simp;omega
 have DR:(op==11)=false:=by simp;omega
 have Hn:(op==12)=false:=by simp;omega
 have OI:(op==18)=false:=by simp;omega
 have SH:(op==20)=true:=by simp [hop]
 have HR:=ae hres
 have HP:=ae hP
 clear H A hop hres hP
 go_enter func70,ntmps70
 go_wp2
 go_quiet (fail)
 go_wp2
 refine wp_region_held_drew (S:=fun w'=>κ w' a.q 8 (.slice (some ⟨cb,co,none⟩) c.m.code.length a.c)/\κ w' a.q 11 (ι (n:Int))/\κ w' cb (co+n*6) (ι op)/\κ w' cb (co+n*6+1) (ι ia)/\κ w' cb (co+n*6+2) (ι ib)/\κ w' cb (co+n*6+3) (ι ic)/\κ w' cb (co+n*6+4) (ι ii)/\κ w' cb (co+n*6+5) (.slice Q args.length q)) (by kernel_rfl) ?_ (fun aa=>?_)
 ·exact iI.o _ (aR (Bl.refl w) _).drew
 iterate 12 (refine tn rfl (by kernel_rfl) (fun _ _ _ h=>h) (by intro _ h;go_split_ands;go_simp<;>with_reducible rfl) aa ?_;try simp only [aZ])
 refine aY (i:=12) (by kernel_rfl) rfl fun K hK=>?_
 go_wp2_with fail
 refine hK.out _ _ (iI.o _ ((aR (Bl.refl w) _).alloc _)) (fun ah=>?_)
 try simp only [aZ]
 refine aY (i:=13) (by kernel_rfl) rfl fun K hK=>?_
 obtain ⟨B,eX⟩:∃B,B=w.heap.size:=⟨_,rfl⟩
 obtain ⟨jL,v0,v1,v2,v3,v4,v5,kB,qB,hB⟩:=o5 w (nq+1) B eX
 simp only [<-eX]
 clear ah eX
 generalize (w.drewN (nq+1)).alloc (.cells #[ι 0,ι 0,ι 0,ι 0,ι 0,.slice none 0 0] 55)=V at *
 go_wp2_with fail
 obtain ⟨gJ,hz,q6⟩:=o6 jL hB v0 v1 v2 v3 v4 v5 kB qB (ι op) (ι ia) (ι ib) (ι ic) (ι ii) (.slice Q args.length q)
 generalize (((((V.setCell ⟨B,0,none⟩ (ι op)).setCell ⟨B,1,none⟩ (ι ia)).setCell ⟨B,2,none⟩ (ι ib)).setCell ⟨B,3,none⟩ (ι ic)).setCell ⟨B,4,none⟩ (ι ii)).setCell ⟨B,5,none⟩ (.slice Q args.length q)=V6 at *
 refine hK.out _ _ (iI.o _ gJ.o) (fun aH=>?_)
 clear v0 v1 v2 v3 v4 v5 kB jL qB aH V
 obtain ⟨z0,z1,z2,z3,z4,z5,E5⟩:=hz.o
 try simp only [aZ]
 refine wpAnyH_done (by kernel_rfl) ?_ _
 go_wp2
 refine wp_region_held_drew (S:=fun w'=>κ w' a.q 1 (π g.r 0)/\κ w' B 1 (ι ia)) (by kernel_rfl) ?_ (fun aa=>?_)
 ·obtain ⟨G3,C0⟩:=(HH.o.bl gJ.o).cells;exact ⟨C0.c1,z1⟩
 iterate 7 (refine tn rfl (by kernel_rfl) (fun _ _ _ h=>h) (by intro _ h;go_split_ands;go_simp<;>with_reducible rfl) aa ?_;try simp only [aZ])
 refine aY (i:=7) (by kernel_rfl) rfl fun K hK=>?_
 go_simp
 go_at_call 133
 refine (HR.o _ gJ.o.drew).mono ?_
 rintro e w1 ⟨rfl,b1⟩
 exact ⟨rfl,HP.o _ (gJ.o.drew.trans b1)⟩
theorem ya (qs:List Qb) (a:Mc) (c:aL) (w:World) (H:RX 1 X wx w0 g w h qs a c) (op ia ib ic ii:Int) (args:List Int) (cb co:Nat) (Q:Option Addr) (q n:Nat) (A:vY w a c ⟨op,ia,ib,ic,ii,args⟩ cb co Q q n) (hop:op=20) (v:Va) (ch:List PanicEntry) (hres:∀w',Bl w w'->χ 133 #[π a.q 0,ι ia] w' fun e w2=>e=.returned (cm v)/\Bl w' w2) (Ho:∀w1,Bl w w1->χ 92 #[π g.r 0,cm v] w1 fun e w2=>e=.panicked ch/\P e w2) :
  χ 70 #[π a.q 0] w P:=by
 have HH:=ae H
 obtain ⟨c11,fz,c8,hq,hcl,hlt,Al,iw,fT,eK,iI,Ak,E4⟩:=DP H A
 have BS:(op==10)=false:=by simp;omega
 have DR:(op==11)=false:=by simp;omega
 have Hn:(op==12)=false:=by simp;omega
 have OI:(op==18)=false:=by simp;omega
 have SH:(op==20)=true:=by simp [hop]
 have HR:=ae hres
 have HT:=ae Ho
 clear H A hop hres Ho
 go_enter func70,ntmps70
 go_wp2
 go_quiet (fail)
 go_wp2
 refine wp_region_held_drew (S:=fun w'=>κ w' a.q 8 (.slice (some ⟨cb,co,none⟩) c.m.code.length a.c)/\κ w' a.q 11 (ι (n:Int))/\κ w' cb (co+n*6) (ι op)/\κ w' cb (co+n*6+1) (ι ia)/\κ w' cb (co+n*6+2) (ι ib)/\κ w' cb (co+n*6+3) (ι ic)/\κ w' cb (co+n*6+4) (ι ii)/\κ w' cb (co+n*6+5) (.slice Q args.length q)) (by kernel_rfl) ?_ (fun aa=>?_)
 ·exact iI.o _ (aR (Bl.refl w) _).drew
 iterate 12 (refine tn rfl (by kernel_rfl) (fun _ _ _ h=>h) (by intro _ h;go_split_ands;go_simp<;>with_reducible rfl) aa ?_;try simp only [aZ])
 refine aY (i:=12) (by kernel_rfl) rfl fun K hK=>?_
 go_wp2_with fail
 refine hK.out _ _ (iI.o _ ((aR (Bl.refl w) _).alloc _)) (fun ah=>?_)
 try simp only [aZ]
 refine aY (i:=13) (by kernel_rfl) rfl fun K hK=>?_
 obtain ⟨B,eX⟩:∃B,B=w.heap.size:=⟨_,rfl⟩
 obtain ⟨jL,v0,v1,v2,v3,v4,v5,kB,qB,hB⟩:=o5 w (nq+1) B eX
 simp only [<-eX]
 clear ah eX
 generalize (w.drewN (nq+1)).alloc (.cells #[ι 0,ι 0,ι 0,ι 0,ι 0,.slice none 0 0] 55)=V at *
 go_wp2_with fail
 obtain ⟨gJ,hz,q6⟩:=o6 jL hB v0 v1 v2 v3 v4 v5 kB qB (ι op) (ι ia) (ι ib) (ι ic) (ι ii) (.slice Q args.length q)
 generalize (((((V.setCell ⟨B,0,none⟩ (ι op)).setCell ⟨B,1,none⟩ (ι ia)).setCell ⟨B,2,none⟩ (ι ib)).setCell ⟨B,3,none⟩ (ι ic)).setCell ⟨B,4,none⟩ (ι ii)).setCell ⟨B,5,none⟩ (.slice Q args.length q)=V6 at *
 refine hK.out _ _ (iI.o _ gJ.o) (fun aH=>?_)
 clear v0 v1 v2 v3 v4 v5 kB jL qB aH V
 obtain ⟨z0,z1,z2,z3,z4,z5,E5⟩:=hz.o
 try simp only [aZ]
 refine wpAnyH_done (by kernel_rfl) ?_ _
 go_wp2
 refine wp_region_held_drew (S:=fun w'=>κ w' a.q 1 (π g.r 0)/\κ w' B 1 (ι ia)) (by kernel_rfl) ?_ (fun aa=>?_)
 ·obtain ⟨G3,C0⟩:=(HH.o.bl gJ.o).cells;exact ⟨C0.c1,z1⟩
 iterate 7 (refine tn rfl (by kernel_rfl) (fun _ _ _ h=>h) (by intro _ h;go_split_ands;go_simp<;>with_reducible rfl) aa ?_;try simp only [aZ])
 refine aY (i:=7) (by kernel_rfl) rfl fun K hK=>?_
 go_simp
 go_at_call 133
 refine (HR.o _ gJ.o.drew).mono ?_
 rintro e w1 ⟨rfl,b1⟩
 have jT:=ae (b1.cell aa.1)
 have ko:=ae (b1.cell aa.2)
 replace b1:=ae b1
 go_wp2_with fail
 refine hK.out _ _ (⟨jT.o,ko.o⟩) (fun ah=>?_)
 try simp only [aZ]
 refine aY (i:=8) (by kernel_rfl) rfl fun K hK=>?_
 go_simp
 go_at_call 92
 refine (HT.o _ (gJ.o.drew.trans b1.o)).mono ?_
 rintro e w2 ⟨rfl,pq⟩
 exact ⟨rfl,pq⟩
theorem DU (qs:List Qb) (a:Mc) (c:aL) (w:World) (H:RX 1 X wx w0 g w h qs a c) (op ia ib ic ii:Int) (args:List Int) (cb co:Nat) (Q:Option Addr) (q n:Nat) (A:vY w a c ⟨op,ia,ib,ic,ii,args⟩ cb co Q q n) (hop:op=20) (v:Va) (hres:∀w',Bl w w'->χ 133 #[π a.q 0,ι ia] w' fun e w2=>e=.returned (cm v)/\Bl w' w2) (Ho:∀w1,Bl w w1->χ 92 #[π g.r 0,cm v] w1 fun e w2=>e=.returned (.tuple #[])/\P e w2/\sL (Xp Ko w.heap.size w1.heap.size) w1 w2/\w2.heap[a.q]?=w1.heap[a.q]?) :
  χ 70 #[π a.q 0] w P:=by
 have HH:=ae H
 obtain ⟨c11,fz,c8,hq,hcl,hlt,Al,iw,fT,eK,iI,Ak,E4⟩:=DP H A
 have BS:(op==10)=false:=by simp;omega
 have DR:(op==11)=false:=by simp;omega
 have Hn:(op==12)=false:=by simp;omega
 have OI:(op==18)=false:=by simp;omega
 have SH:(op==20)=true:=by simp [hop]
 have HR:=ae hres
 have HT:=ae Ho
 clear H A hop hres Ho
 go_enter func70,ntmps70
 go_wp2
 go_quiet (fail)
 go_wp2
 refine wp_region_held_drew (S:=fun w'=>w'.cell? ⟨a.q,8,none⟩=some (.slice (some ⟨cb,co,none⟩) c.m.code.length a.c)/\w'.cell? ⟨a.q,11,none⟩=some (ι (n:Int))/\w'.cell? ⟨cb,co+n*6,none⟩=some (ι op)/\w'.cell? ⟨cb,co+n*6+1,none⟩=some (ι ia)/\w'.cell? ⟨cb,co+n*6+2,none⟩=some (ι ib)/\w'.cell? ⟨cb,co+n*6+3,none⟩=some (ι ic)/\w'.cell? ⟨cb,co+n*6+4,none⟩=some (ι ii)/\w'.cell? ⟨cb,co+n*6+5,none⟩=some (.slice Q args.length q)) (by kernel_rfl) ?_ (fun aa=>?_)
 ·exact iI.o _ (aR (Bl.refl w) _).drew
 iterate 12 (refine tn rfl (by kernel_rfl) (fun _ _ _ h=>h) (by intro _ h;go_split_ands;go_simp<;>with_reducible rfl) aa ?_;try simp only [aZ])
 refine aY (i:=12) (by kernel_rfl) rfl fun K hK=>?_
 go_wp2_with fail
 refine hK.out _ _ (iI.o _ ((aR (Bl.refl w) _).alloc _)) (fun ah=>?_)
 try simp only [aZ]
 refine aY (i:=13) (by kernel_rfl) rfl fun K hK=>?_
 obtain ⟨B,eX⟩:∃B,B=w.heap.size:=⟨_,rfl⟩
 obtain ⟨jL,v0,v1,v2,v3,v4,v5,kB,qB,hB⟩:=o5 w (nq+1) B eX
 simp only [<-eX]
 clear ah eX
 generalize (w.drewN (nq+1)).alloc (.cells #[ι 0,ι 0,ι 0,ι 0,ι 0,.slice none 0 0] 55)=V at *
 go_wp2_with fail
 obtain ⟨gJ,hz,q6⟩:=o6 jL hB v0 v1 v2 v3 v4 v5 kB qB (ι op) (ι ia) (ι ib) (ι ic) (ι ii) (.slice Q args.length q)
 generalize (((((V.setCell ⟨B,0,none⟩ (ι op)).setCell ⟨B,1,none⟩ (ι ia)).setCell ⟨B,2,none⟩ (ι ib)).setCell ⟨B,3,none⟩ (ι ic)).setCell ⟨B,4,none⟩ (ι ii)).setCell ⟨B,5,none⟩ (.slice Q args.length q)=V6 at *
 refine hK.out _ _ (iI.o _ gJ.o) (fun aH=>?_)
 clear v0 v1 v2 v3 v4 v5 kB jL qB aH V
 obtain ⟨z0,z1,z2,z3,z4,z5,E5⟩:=hz.o
 try simp only [aZ]
 refine wpAnyH_done (by kernel_rfl) ?_ _
 go_wp2
 refine wp_region_held_drew (S:=fun w'=>w'.cell? ⟨a.q,1,none⟩=some (π g.r 0)/\w'.cell? ⟨B,1,none⟩=some (ι ia)) (by kernel_rfl) ?_ (fun aa=>?_)
 ·obtain ⟨G3,C0⟩:=(HH.o.bl gJ.o).cells;exact ⟨C0.c1,z1⟩
 iterate 7 (refine tn rfl (by kernel_rfl) (fun _ _ _ h=>h) (by intro _ h;go_split_ands;go_simp<;>with_reducible rfl) aa ?_;try simp only [aZ])
 refine aY (i:=7) (by kernel_rfl) rfl fun K hK=>?_
 go_simp
 go_at_call 133
 refine (HR.o _ gJ.o.drew).mono ?_
 rintro e w1 ⟨rfl,b1⟩
 have jT:=ae (b1.cell aa.1)
 have ko:=ae (b1.cell aa.2)
 replace b1:=ae b1
 go_wp2_with fail
 refine hK.out _ _ (⟨jT.o,ko.o⟩) (fun ah=>?_)
 try simp only [aZ]
 refine aY (i:=8) (by kernel_rfl) rfl fun K hK=>?_
 go_simp
 go_at_call 92
 refine (HT.o _ (gJ.o.drew.trans b1.o)).mono ?_
 rintro e w2 ⟨rfl,pq,K2,k2⟩
 have o0:Θ (w2.cell? ⟨a.q,1,none⟩=some (π g.r 0)):=Eq.trans (by unfold World.cell?;rw [k2]) jT.o
 have x2:=K2.at (Xp.new hB.o (af (ax b1.o q6.o))) (ax b1.o q6.o)
 have rM:=ae (dr x2).2.1
 replace pq:=ae pq
 clear K2 k2 x2
 go_wp2_with fail
 refine hK.out _ _ (⟨o0.o,rM.o⟩) (fun aH=>?_)
 try simp only [aZ]
 refine wpAnyH_done (by kernel_rfl) ?_ _
 go_wp2
 go_end0
 exact pq.o
end
end
section
open Go.Maps (Keyed has)
section
variable (P:Ending->World->Prop) (X:Nat->Prop) (wx w0:World) (g:Mg) (h:Hp)
theorem Hq (qs:List Qb) (a:Mc) (c:aL) (w:World) (H:RX 1 X wx w0 g w h qs a c) (op ia ib ic ii:Int) (args:List Int) (cb co:Nat) (Q:Option Addr) (q n:Nat) (A:vY w a c ⟨op,ia,ib,ic,ii,args⟩ cb co Q q n) (hop:op=11) (hr:∀w',Bl w w'->χ 131 #[π a.q 0,ι ic,ι 1] w' fun e w2=>e=bF 6 0 0/\Bl w' w2) (hP:∀w2,Bl w w2->P (bF 6 0 0) w2) :
  χ 70 #[π a.q 0] w P:=by
 have HH:=ae H
 obtain ⟨c11,fz,c8,hq,hcl,hlt,Al,iw,fT,eK,iI,Ak,E4⟩:=DP H A
 have BS:(op==10)=false:=by simp;omega
 have DR:(op==11)=true:=by simp [hop]
 have HR:=ae hr
 have HP:=ae hP
 clear H A hop hr hP
 go_enter func70,ntmps70
 go_wp2
 go_quiet (fail)
 go_wp2
 refine wp_region_held_drew (S:=fun w'=>κ w' a.q 8 (.slice (some ⟨cb,co,none⟩) c.m.code.length a.c)/\κ w' a.q 11 (ι (n:Int))/\κ w' cb (co+n*6) (ι op)/\κ w' cb (co+n*6+1) (ι ia)/\κ w' cb (co+n*6+2) (ι ib)/\κ w' cb (co+n*6+3) (ι ic)/\κ w' cb (co+n*6+4) (ι ii)/\κ w' cb (co+n*6+5) (.slice Q args.length q)) (by kernel_rfl) ?_ (fun aa=>?_)
 ·exact iI.o _ (aR (Bl.refl w) _).drew
 iterate 12 (refine tn rfl (by kernel_rfl) (fun _ _ _ h=>h) (by intro _ h;go_split_ands;go_simp<;>with_reducible rfl) aa ?_;try simp only [aZ])
 refine aY (i:=12) (by kernel_rfl) rfl fun K hK=>?_
 go_wp2_with fail
 refine hK.out _ _ (iI.o _ ((aR (Bl.refl w) _).alloc _)) (fun ah=>?_)
 try simp only [aZ]
 refine aY (i:=13) (by kernel_rfl) rfl fun K hK=>?_
 obtain ⟨B,eX⟩:∃B,B=w.heap.size:=⟨_,rfl⟩
 obtain ⟨jL,v0,v1,v2,v3,v4,v5,kB,qB,hB⟩:=o5 w (nq+1) B eX
 simp only [<-eX]
 clear ah eX
 generalize (w.drewN (nq+1)).alloc (.cells #[ι 0,ι 0,ι 0,ι 0,ι 0,.slice none 0 0] 55)=V at *
 go_wp2_with fail
 obtain ⟨gJ,hz,q6⟩:=o6 jL hB v0 v1 v2 v3 v4 v5 kB qB (ι op) (ι ia) (ι ib) (ι ic) (ι ii) (.slice Q args.length q)
 generalize (((((V.setCell ⟨B,0,none⟩ (ι op)).setCell ⟨B,1,none⟩ (ι ia)).setCell ⟨B,2,none⟩ (ι ib)).setCell ⟨B,3,none⟩ (ι ic)).setCell ⟨B,4,none⟩ (ι ii)).setCell ⟨B,5,none⟩ (.slice Q args.length q)=V6 at *
 refine hK.out _ _ (iI.o _ gJ.o) (fun aH=>?_)
 clear v0 v1 v2 v3 v4 v5 kB jL qB aH V
 obtain ⟨z0,z1,z2,z3,z4,z5,E5⟩:=hz.o
 try simp only [aZ]
 refine wpAnyH_done (by kernel_rfl) ?_ _
 go_wp2
 refine wp_region_held_drew (S:=fun w'=>κ w' B 1 (ι ia)/\κ w' B 2 (ι ib)/\κ w' B 3 (ι ic)) (by kernel_rfl) ?_ (fun aa=>?_)
 ·exact ⟨z1,z2,z3⟩
 iterate 8 (refine tn rfl (by kernel_rfl) (fun _ _ _ h=>h) (by intro _ h;go_split_ands;go_simp<;>with_reducible rfl) aa ?_;try simp only [aZ])
 refine aY (i:=8) (by kernel_rfl) rfl fun K hK=>?_
 go_simp
 go_at_call 131
 refine (HR.o _ gJ.o.drew).mono ?_
 rintro e w1 ⟨rfl,b1⟩
 exact ⟨rfl,HP.o _ (gJ.o.drew.trans b1)⟩
theorem Hr (qs:List Qb) (a:Mc) (c:aL) (w:World) (H:RX 1 X wx w0 g w h qs a c) (op ia ib ic ii:Int) (args:List Int) (cb co:Nat) (Q:Option Addr) (q n:Nat) (A:vY w a c ⟨op,ia,ib,ic,ii,args⟩ cb co Q q n) (hop:op=11) (v:Va) (bb:Bool) (hr:∀w',Bl w w'->χ 131 #[π a.q 0,ι ic,ι 1] w' fun e w2=>e=.returned (cm v)/\Bl w' w2) (hqq:∀w',χ 88 #[ι ib,ι v.n] w' fun e w2=>e=.returned (.bool bb)/\Bl w' w2) (hk:∀w',Bl w w'->χ 130 #[π a.q 0,ι ia,.bool bb] w' fun e w2=>e=.returned (.tuple #[])/\P e w2/\sL (Xp Ko w.heap.size w'.heap.size) w' w2) :
  χ 70 #[π a.q 0] w P:=by
 have HH:=ae H
 obtain ⟨c11,fz,c8,hq,hcl,hlt,Al,iw,fT,eK,iI,Ak,E4⟩:=DP H A
 have BS:(op==10)=false:=by simp;omega
 have DR:(op==11)=true:=by simp [hop]
 have HR:=ae hr
 have HK:=ae hk
 have HQ:=ae hqq
 have SD:=fun w=>kn v.kind v.n w
 clear H A hop hr hk hqq
 go_enter func70,ntmps70
 go_wp2
 go_quiet (fail)
 go_wp2
 refine wp_region_held_drew (S:=fun w'=>κ w' a.q 8 (.slice (some ⟨cb,co,none⟩) c.m.code.length a.c)/\κ w' a.q 11 (ι (n:Int))/\κ w' cb (co+n*6) (ι op)/\κ w' cb (co+n*6+1) (ι ia)/\κ w' cb (co+n*6+2) (ι ib)/\κ w' cb (co+n*6+3) (ι ic)/\κ w' cb (co+n*6+4) (ι ii)/\κ w' cb (co+n*6+5) (.slice Q args.length q)) (by kernel_rfl) ?_ (fun aa=>?_)
 ·exact iI.o _ (aR (Bl.refl w) _).drew
 iterate 12 (refine tn rfl (by kernel_rfl) (fun _ _ _ h=>h) (by intro _ h;go_split_ands;go_simp<;>with_reducible rfl) aa ?_;try simp only [aZ])
 refine aY (i:=12) (by kernel_rfl) rfl fun K hK=>?_
 go_wp2_with fail
 refine hK.out _ _ (iI.o _ ((aR (Bl.refl w) _).alloc _)) (fun ah=>?_)
 try simp only [aZ]
 refine aY (i:=13) (by kernel_rfl) rfl fun K hK=>?_
 obtain ⟨B,eX⟩:∃B,B=w.heap.size:=⟨_,rfl⟩
 obtain ⟨jL,v0,v1,v2,v3,v4,v5,kB,qB,hB⟩:=o5 w (nq+1) B eX
 simp only [<-eX]
 clear ah eX
 generalize (w.drewN (nq+1)).alloc (.cells #[ι 0,ι 0,ι 0,ι 0,ι 0,.slice none 0 0] 55)=V at *
 go_wp2_with fail
 obtain ⟨gJ,hz,q6⟩:=o6 jL hB v0 v1 v2 v3 v4 v5 kB qB (ι op) (ι ia) (ι ib) (ι ic) (ι ii) (.slice Q args.length q)
 generalize (((((V.setCell ⟨B,0,none⟩ (ι op)).setCell ⟨B,1,none⟩ (ι ia)).setCell ⟨B,2,none⟩ (ι ib)).setCell ⟨B,3,none⟩ (ι ic)).setCell ⟨B,4,none⟩ (ι ii)).setCell ⟨B,5,none⟩ (.slice Q args.length q)=V6 at *
 refine hK.out _ _ (iI.o _ gJ.o) (fun aH=>?_)
 clear v0 v1 v2 v3 v4 v5 kB jL qB aH V
 obtain ⟨z0,z1,z2,z3,z4,z5,E5⟩:=hz.o
 try simp only [aZ]
 refine wpAnyH_done (by kernel_rfl) ?_ _
 go_wp2
 refine wp_region_held_drew (S:=fun w'=>κ w' B 1 (ι ia)/\κ w' B 2 (ι ib)/\κ w' B 3 (ι ic)) (by kernel_rfl) ?_ (fun aa=>?_)
 ·exact ⟨z1,z2,z3⟩
 iterate 8 (refine tn rfl (by kernel_rfl) (fun _ _ _ h=>h) (by intro _ h;go_split_ands;go_simp<;>with_reducible rfl) aa ?_;try simp only [aZ])
 refine aY (i:=8) (by kernel_rfl) rfl fun K hK=>?_
 go_simp
 go_at_call 131
 refine (HR.o _ gJ.o.drew).mono ?_
 rintro e w1 ⟨rfl,b1⟩
 have jT:=ae (b1.cell aa.1)
 have ko:=ae (b1.cell aa.2.1)
 have nX:=ae (b1.cell aa.2.2)
 replace b1:=ae b1
 go_wp2_with fail
 refine hK.out _ _ (⟨jT.o,ko.o,nX.o⟩) (fun ah=>?_)
 try simp only [aZ]
 refine tn rfl (by kernel_rfl) (fun _ _ _ h=>h) (by intro _ h;go_split_ands;go_simp<;>with_reducible rfl) ah ?_
 try simp only [aZ]
 refine aY (i:=10) (by kernel_rfl) rfl fun K hK=>?_
 go_simp
 go_at_call 88
 refine (HQ.o _).mono ?_
 rintro e w2 ⟨rfl,b2⟩
 have o0:=ae (b2.cell ah.1)
 have rM:=ae (b2.cell ah.2.1)
 have xZ:=ae (b2.cell ah.2.2)
 replace b2:=ae b2
 go_wp2_with fail
 refine hK.out _ _ (⟨o0.o,rM.o,xZ.o⟩) (fun aH=>?_)
 try simp only [aZ]
 refine aY (i:=11) (by kernel_rfl) rfl fun K hK=>?_
 go_simp
 go_at_call 130
 refine (HK.o _ ((gJ.o.drew.trans b1.o).trans b2.o)).mono ?_
 rintro e w4 ⟨rfl,pq,K4⟩
 have K4:=ae (K4.at (Xp.new hB.o (af (ax (b1.o.trans b2.o) q6.o))) (ax (b1.o.trans b2.o) q6.o))
 replace pq:=ae pq
 go_wp2_with fail
 refine hK.out _ _ (⟨(dr K4.o).2.1,(dr K4.o).2.2.1,(dr K4.o).2.2.2.1⟩) (fun bG=>?_)
 try simp only [aZ]
 refine wpAnyH_done (by kernel_rfl) ?_ _
 go_wp2
 go_end0
 exact pq.o
theorem vZ (qs:List Qb) (a:Mc) (c:aL) (w:World) (H:RX 1 X wx w0 g w h qs a c) (op ia ib ic ii:Int) (args:List Int) (cb co:Nat) (Q:Option Addr) (q n:Nat) (A:vY w a c ⟨op,ia,ib,ic,ii,args⟩ cb co Q q n) (hop:op=12) (hr:∀w',Bl w w'->χ 131 #[π a.q 0,ι ic,ι 3] w' fun e w2=>e=bF 6 0 0/\Bl w' w2) (hP:∀w2,Bl w w2->P (bF 6 0 0) w2) :
  χ 70 #[π a.q 0] w P:=by
 have HH:=ae H
 obtain ⟨c11,fz,c8,hq,hcl,hlt,Al,iw,fT,eK,iI,Ak,E4⟩:=DP H A
 have BS:(op==10)=false:=by simp;omega
 have DR:(op==11)=false:=by simp;omega
 have Hn:(op==12)=true:=by simp [hop]
 have HR:=ae hr
 have HP:=ae hP
 clear H A hop hr hP
 go_enter func70,ntmps70
 go_wp2
 go_quiet (fail)
 go_wp2
 refine wp_region_held_drew (S:=fun w'=>κ w' a.q 8 (.slice (some ⟨cb,co,none⟩) c.m.code.length a.c)/\κ w' a.q 11 (ι (n:Int))/\κ w' cb (co+n*6) (ι op)/\κ w' cb (co+n*6+1) (ι ia)/\κ w' cb (co+n*6+2) (ι ib)/\κ w' cb (co+n*6+3) (ι ic)/\κ w' cb (co+n*6+4) (ι ii)/\κ w' cb (co+n*6+5) (.slice Q args.length q)) (by kernel_rfl) ?_ (fun aa=>?_)
 ·exact iI.o _ (aR (Bl.refl w) _).drew
 iterate 12 (refine tn rfl (by kernel_rfl) (fun _ _ _ h=>h) (by intro _ h;go_split_ands;go_simp<;>with_reducible rfl) aa ?_;try simp only [aZ])
 refine aY (i:=12) (by kernel_rfl) rfl fun K hK=>?_
 go_wp2_with fail
 refine hK.out _ _ (iI.o _ ((aR (Bl.refl w) _).alloc _)) (fun ah=>?_)
 try simp only [aZ]
 refine aY (i:=13) (by kernel_rfl) rfl fun K hK=>?_
 obtain ⟨B,eX⟩:∃B,B=w.heap.size:=⟨_,rfl⟩
 obtain ⟨jL,v0,v1,v2,v3,v4,v5,kB,qB,hB⟩:=o5 w (nq+1) B eX
 simp only [<-eX]
 clear ah eX
 generalize (w.drewN (nq+1)).alloc (.cells #[ι 0,ι 0,ι 0,ι 0,ι 0,.slice none 0 0] 55)=V at *
 go_wp2_with fail
 obtain ⟨gJ,hz,q6⟩:=o6 jL hB v0 v1 v2 v3 v4 v5 kB qB (ι op) (ι ia) (ι ib) (ι ic) (ι ii) (.slice Q args.length q)
 generalize (((((V.setCell ⟨B,0,none⟩ (ι op)).setCell ⟨B,1,none⟩ (ι ia)).setCell ⟨B,2,none⟩ (ι ib)).setCell ⟨B,3,none⟩ (ι ic)).setCell ⟨B,4,none⟩ (ι ii)).setCell ⟨B,5,none⟩ (.slice Q args.length q)=V6 at *
 refine hK.out _ _ (iI.o _ gJ.o) (fun aH=>?_)
 clear v0 v1 v2 v3 v4 v5 kB jL qB aH V
 obtain ⟨z0,z1,z2,z3,z4,z5,E5⟩:=hz.o
 try simp only [aZ]
 refine wpAnyH_done (by kernel_rfl) ?_ _
 go_wp2
 refine wp_region_held_drew (S:=fun w'=>κ w' B 1 (ι ia)/\κ w' B 2 (ι ib)/\κ w' B 3 (ι ic)) (by kernel_rfl) ?_ (fun aa=>?_)
 ·exact ⟨z1,z2,z3⟩
 iterate 6 (refine tn rfl (by kernel_rfl) (fun _ _ _ h=>h) (by intro _ h;go_split_ands;go_simp<;>with_reducible rfl) aa ?_;try simp only [aZ])
 refine aY (i:=6) (by kernel_rfl) rfl fun K hK=>?_
 go_simp
 go_at_call 131
 refine (HR.o _ gJ.o.drew).mono ?_
 rintro e w1 ⟨rfl,b1⟩
 exact ⟨rfl,HP.o _ (gJ.o.drew.trans b1)⟩
theorem vu (qs:List Qb) (a:Mc) (c:aL) (w:World) (H:RX 1 X wx w0 g w h qs a c) (op ia ib ic ii:Int) (args:List Int) (cb co:Nat) (Q:Option Addr) (q n:Nat) (A:vY w a c ⟨op,ia,ib,ic,ii,args⟩ cb co Q q n) (hop:op=12) (v:Va) (bb:Bool) (hr:∀w',Bl w w'->χ 131 #[π a.q 0,ι ic,ι 3] w' fun e w2=>e=.returned (cm v)/\Bl w' w2) (hqq:∀w',χ 90 #[cm v] w' fun e w2=>e=.returned (.bool bb)/\Bl w' w2) (hk:∀w',Bl w w'->χ 130 #[π a.q 0,ι ia,.bool bb] w' fun e w2=>e=.returned (.tuple #[])/\P e w2/\sL (Xp Ko w.heap.size w'.heap.size) w' w2) :
  χ 70 #[π a.q 0] w P:=by
 have HH:=ae H
 obtain ⟨c11,fz,c8,hq,hcl,hlt,Al,iw,fT,eK,iI,Ak,E4⟩:=DP H A
 have BS:(op==10)=false:=by simp;omega
 have DR:(op==11)=false:=by simp;omega
 have Hn:(op==12)=true:=by simp [hop]
 have HR:=ae hr
 have HK:=ae hk
 have HQ:=ae hqq
 clear H A hop hr hk hqq
 go_enter func70,ntmps70
 go_wp2
 go_quiet (fail)
 go_wp2
 refine wp_region_held_drew (S:=fun w'=>κ w' a.q 8 (.slice (some ⟨cb,co,none⟩) c.m.code.length a.c)/\κ w' a.q 11 (ι (n:Int))/\κ w' cb (co+n*6) (ι op)/\κ w' cb (co+n*6+1) (ι ia)/\κ w' cb (co+n*6+2) (ι ib)/\κ w' cb (co+n*6+3) (ι ic)/\κ w' cb (co+n*6+4) (ι ii)/\κ w' cb (co+n*6+5) (.slice Q args.length q)) (by kernel_rfl) ?_ (fun aa=>?_)
 ·exact iI.o _ (aR (Bl.refl w) _).drew
 iterate 12 (refine tn rfl (by kernel_rfl) (fun _ _ _ h=>h) (by intro _ h;go_split_ands;go_simp<;>with_reducible rfl) aa ?_;try simp only [aZ])
 refine aY (i:=12) (by kernel_rfl) rfl fun K hK=>?_
 go_wp2_with fail
 refine hK.out _ _ (iI.o _ ((aR (Bl.refl w) _).alloc _)) (fun ah=>?_)
 try simp only [aZ]
 refine aY (i:=13) (by kernel_rfl) rfl fun K hK=>?_
 obtain ⟨B,eX⟩:∃B,B=w.heap.size:=⟨_,rfl⟩
 obtain ⟨jL,v0,v1,v2,v3,v4,v5,kB,qB,hB⟩:=o5 w (nq+1) B eX
 simp only [<-eX]
 clear ah eX
 generalize (w.drewN (nq+1)).alloc (.cells #[ι 0,ι 0,ι 0,ι 0,ι 0,.slice none 0 0] 55)=V at *
 go_wp2_with fail
 obtain ⟨gJ,hz,q6⟩:=o6 jL hB v0 v1 v2 v3 v4 v5 kB qB (ι op) (ι ia) (ι ib) (ι ic) (ι ii) (.slice Q args.length q)
 generalize (((((V.setCell ⟨B,0,none⟩ (ι op)).setCell ⟨B,1,none⟩ (ι ia)).setCell ⟨B,2,none⟩ (ι ib)).setCell ⟨B,3,none⟩ (ι ic)).setCell ⟨B,4,none⟩ (ι ii)).setCell ⟨B,5,none⟩ (.slice Q args.length q)=V6 at *
 refine hK.out _ _ (iI.o _ gJ.o) (fun aH=>?_)
 clear v0 v1 v2 v3 v4 v5 kB jL qB aH V
 obtain ⟨z0,z1,z2,z3,z4,z5,E5⟩:=hz.o
 try simp only [aZ]
 refine wpAnyH_done (by kernel_rfl) ?_ _
 go_wp2
 refine wp_region_held_drew (S:=fun w'=>κ w' B 1 (ι ia)/\κ w' B 2 (ι ib)/\κ w' B 3 (ι ic)) (by kernel_rfl) ?_ (fun aa=>?_)
 ·exact ⟨z1,z2,z3⟩
 iterate 6 (refine tn rfl (by kernel_rfl) (fun _ _ _ h=>h) (by intro _ h;go_split_ands;go_simp<;>with_reducible rfl) aa ?_;try simp only [aZ])
 refine aY (i:=6) (by kernel_rfl) rfl fun K hK=>?_
 go_simp
 go_at_call 131
 refine (HR.o _ gJ.o.drew).mono ?_
 rintro e w1 ⟨rfl,b1⟩
 have jT:=ae (b1.cell aa.1)
 have ko:=ae (b1.cell aa.2.1)
 have nX:=ae (b1.cell aa.2.2)
 replace b1:=ae b1
 go_wp2_with fail
 refine hK.out _ _ (⟨jT.o,ko.o,nX.o⟩) (fun ah=>?_)
 try simp only [aZ]
 refine aY (i:=7) (by kernel_rfl) rfl fun K hK=>?_
 go_simp
 go_at_call 90
 refine (HQ.o _).mono ?_
 rintro e w2 ⟨rfl,b2⟩
 have o0:=ae (b2.cell ah.1)
 have rM:=ae (b2.cell ah.2.1)
 have xZ:=ae (b2.cell ah.2.2)
 replace b2:=ae b2
 go_wp2_with fail
 refine hK.out _ _ (⟨o0.o,rM.o,xZ.o⟩) (fun aH=>?_)
 try simp only [aZ]
 refine aY (i:=8) (by kernel_rfl) rfl fun K hK=>?_
 go_simp
 go_at_call 130
 refine (HK.o _ ((gJ.o.drew.trans b1.o).trans b2.o)).mono ?_
 rintro e w4 ⟨rfl,pq,K4⟩
 have K4:=ae (K4.at (Xp.new hB.o (af (ax (b1.o.trans b2.o) q6.o))) (ax (b1.o.trans b2.o) q6.o))
 replace pq:=ae pq
 go_wp2_with fail
 refine hK.out _ _ (⟨(dr K4.o).2.1,(dr K4.o).2.2.1,(dr K4.o).2.2.2.1⟩) (fun bG=>?_)
 try simp only [aZ]
 refine wpAnyH_done (by kernel_rfl) ?_ _
 go_wp2
 go_end0
 exact pq.o
end
end
theorem Ht (c a:Int) (w:World) :
  χ 88 #[ι c,ι a] w fun e w'=>e=.returned (.bool (kC c a))/\Bl w w':=by
 have JI:∀(fn:Fn) (first cap:Array Value) (w:World),(Instr.makeFunc fn first cap).run Tryz.prog w=.ok (.func fn first cap) w:=fun _ _ _ _=>rfl
 go_enter func88,ntmps88
 go_wp2_with (first|(go_at_call 142;go_in)|(go_at_call 190;refine (Kj c _ _ _ (by show _=_;go_simp)).mono ?_;rintro e w' ⟨rfl,rfl⟩))
 go_ret
 exact ⟨rfl,by repeat (first|exact Bl.refl _|apply Bl.drew|apply Bl.alloc|exact aR (Bl.refl _) _)⟩
section
variable {X:Nat->Prop} {wx w0:World} {g:Mg}
theorem Hv {qs:List Qb} {a:Mc} {c:aL} {h:Hp} {d:nr} {w':World} (hs:h.stops=false) (e:d.h=h.fin 6) (H:RS 1 X wx w0 g w' h qs a c):SG X wx w0 g qs a c d (bF 6 0 0) w':=by
 have q:iT X wx w0 g qs a c d (bF 6 0 0) w':=jK (aF hs).1 e H.less
 exact ⟨q.how,q.stop,fun z=>by rw [e,oY hs] at z;exact absurd z (by decide)⟩
theorem Hw {qs:List Qb} {a:Mc} {c:aL} {h:Hp} {d:nr} {w':World} (hs:h.stops=false) (e:d.h=h) (H:RX 1 X wx w0 g w' h qs a { d.c with pc:=d.nx }):SG X wx w0 g qs a c d (.returned (.tuple #[])) w':=by
 subst e
 obtain ⟨ho,ht⟩:=aF hs
 exact ⟨by unfold mV;rw [if_neg (by rw [ho];decide),if_neg ht],fun z=>by rw [hs] at z;exact absurd z (by decide),fun _=>H.less⟩
end
theorem tO {s:Nat} {X:Nat->Prop} {wx w0 w w':World} {g:Mg} {h:Hp} {qs:List Qb} {a:Mc} {c:aL} (H:RX s X wx w0 g w h qs a c) (hb:Bl w w') (to:Int) (bb:Bool) (hp:0<=c.pc/\c.pc<9223372036854775807) :
  χ 130 #[π a.q 0,ι to,.bool bb] w' fun e w2=>e=.returned (.tuple #[])/\RX s X wx w0 g w2 h qs a { c with giv:=aE,cau:=aE,pc:=if bb=true then to else c.pc+1 }/\sL (Xp Ko w.heap.size w'.heap.size) w' w2:=by
 cases bb with
 | true =>
  refine (H.y.useY hb (fun X wx w H=>ru s X wx w0 g h qs a c w H to)).mono ?_
  rintro e w2 ⟨rfl,H2,K2⟩
  exact ⟨rfl,H2.x,K2⟩
 | false =>
  refine (H.y.useY hb (fun X wx w H=>DQ s X wx w0 g h qs a c w H to hp)).mono ?_
  rintro e w2 ⟨rfl,H2,K2⟩
  exact ⟨rfl,H2.x,K2⟩
theorem DV {d:nr} (hs:d.h.stops=true):∃ch,mV d=.panicked ch:=by
 unfold Hp.stops at hs
 rw [Bool.or_eq_true] at hs
 unfold mV
 split
 ·exact ⟨_,rfl⟩
 ·rename_i hn
  rw [if_pos (of_decide_eq_true (hs.resolve_left hn))]
  exact ⟨_,rfl⟩
theorem BT {d:nr} (hs:d.h.stops=false):mV d=.returned (.tuple #[]):=by
 obtain ⟨ho,ht⟩:=aF hs
 unfold mV;rw [if_neg (by rw [ho];decide),if_neg ht]
theorem Lk (X:Nat->Prop) (wx w0:World) (g:Mg) (h:Hp) (qs:List Qb) (a:Mc) (c:aL) (i:In) (ms:List Me) (rt:Int) (sJ:nth eR c.m.code c.pc.toNat=i) (hp:0<=c.pc/\c.pc<c.m.code.length) (w:World) (H:RX 1 X wx w0 g w h qs a c) (S:Has w0 g h c ms rt i) (oA:i.op≠18) (kV:i.op≠20) :
  χ 70 #[π a.q 0] w fun e w'=>SG X wx w0 g qs a c (bV h c i) e w':=by
 obtain ⟨cb,co,Q,q,A⟩:=H.ati hp
 rw [sJ] at A
 obtain ⟨op,ia,ib,ic,ii,args⟩:=i
 dsimp only at oA kV
 have hs:=S.hs
 have ho:=S.ho.1
 have WS:0<=c.pc/\c.pc<9223372036854775807:=by have:=(j6 S.gc.me).2.2.2.2.2.1;omega
 have hc:=S.ok.c
 dsimp only at hc
 by_cases rZ:op=10
 ·subst rZ
  have hd:bV h c ⟨10,ia,ib,ic,ii,args⟩=⟨h,c.clr,ia⟩:=rfl
  rw [hd]
  refine Lj _ X wx w0 g h qs a c w H 10 ia ib ic ii args cb co Q q _ A rfl (fun w' hb=>(ru 1 X wx w0 g h qs a c w' (H.bl hb) ia).mono ?_)
  rintro e w2 ⟨rfl,H2⟩
  exact ⟨rfl,Hw hs rfl H2⟩
 by_cases lP:op=11
 ·subst lP
  have hd:bV h c ⟨11,ia,ib,ic,ii,args⟩=⟨h.rdH c ic 1,c.clr,if kC ib (c.rd ic).n=true then ia else c.pc+1⟩:=rfl
  rw [hd]
  have Nd:=S.reg (hc (by omega))
  by_cases e1:(c.rd ic).kind=1
  ·rw [de e1]
   refine Hr _ X wx w0 g h qs a c w H 11 ia ib ic ii args cb co Q q _ A rfl (c.rd ic) (kC ib (c.rd ic).n) (fun w' hb=>?_) (fun w'=>Ht ib (c.rd ic).n w') (fun w' hb=>(tO H hb ia _ WS).mono ?_)
   ·have:=fj 1 X wx w0 g h qs a c ic 1 w' (H.bl hb) Nd (by omega) (fun x=>by omega) e1
    rwa [iD (by omega)] at this
   ·rintro e w2 ⟨rfl,H2,K2⟩
    exact ⟨rfl,Hw hs rfl H2,K2⟩
  ·rw [fO e1]
   exact Hq _ X wx w0 g h qs a c w H 11 ia ib ic ii args cb co Q q _ A rfl (fun w' hb=>jI 1 X wx w0 g h qs a c ic 1 w' (H.bl hb) Nd (by omega) (fun x=>by omega) e1) (fun w2 hb=>Hv hs rfl (H.bl hb).rs)
 by_cases jU:op=12
 ·subst jU
  have hd:bV h c ⟨12,ia,ib,ic,ii,args⟩=⟨h.rdH c ic 3,c.clr,if (c.rd ic).n<0 then ia else c.pc+1⟩:=rfl
  rw [hd]
  have Nd:=S.reg (hc (by omega))
  by_cases e1:(c.rd ic).kind=3
  ·rw [de e1]
   have hv:=S.gd (hc (by omega)) e1
   refine vu _ X wx w0 g h qs a c w H 12 ia ib ic ii args cb co Q q _ A rfl (im (c.rd ic)) (decide ((c.rd ic).n<0)) (fun w' hb=>fj 1 X wx w0 g h qs a c ic 3 w' (H.bl hb) Nd (by omega) (fun x=>by omega) e1) (fun w'=>?_) (fun w' hb=>(tO H hb ia _ WS).mono ?_)
   ·have hN:wY (im (c.rd ic))=decide ((c.rd ic).n<0):=by
     by_cases hn:(c.rd ic).n<0
     ·rw [l5 e1 (by omega),decide_eq_true hn]
     ·rw [lH e1 (by omega),decide_eq_false hn]
    rw [<-hN]
    exact cB _ _
   ·rintro e w2 ⟨rfl,H2,K2⟩
    refine ⟨rfl,Hw hs rfl ?_,K2⟩
    simp only [decide_eq_true_eq] at H2
    exact H2
  ·rw [fO e1]
   exact vZ _ X wx w0 g h qs a c w H 12 ia ib ic ii args cb co Q q _ A rfl (fun w' hb=>jI 1 X wx w0 g h qs a c ic 3 w' (H.bl hb) Nd (by omega) (fun x=>by omega) e1) (fun w2 hb=>Hv hs rfl (H.bl hb).rs)
 have hw:∀w',Bl w w'->χ 134 #[π a.q 0,.agg #[ι op,ι ia,ι ib,ι ic,ι ii,.slice Q args.length q]] w' fun e w2=>iT X wx w0 g qs a c (bV h c ⟨op,ia,ib,ic,ii,args⟩) e w2:=fun w' hb=>Hl X wx w0 g h qs a c op ia ib ic ii args ms rt Q args.length q w' (H.bl hb) S rZ lP jU oA kV
 have hm:=zv h c ⟨op,ia,ib,ic,ii,args⟩
 have OJ:=Hm h c ⟨op,ia,ib,ic,ii,args⟩
 have yF:=Ld h c ⟨op,ia,ib,ic,ii,args⟩ rZ lP jU
 generalize bV h c ⟨op,ia,ib,ic,ii,args⟩=d at *
 cases hst:d.h.stops with
 | true =>
  obtain ⟨ch,he⟩:=DV hst
  refine Am _ X wx w0 g h qs a c w H op ia ib ic ii args cb co Q q _ A rZ lP jU oA kV ch (fun w' hb=>(hw w' hb).mono ?_)
  intro e w2 q2
  exact ⟨q2.how.trans he,q2.how,q2.stop,fun z=>by rw [hst] at z;exact absurd z (by decide)⟩
 | false =>
  refine Ao _ X wx w0 g h qs a c w H op ia ib ic ii args cb co Q q _ A rZ lP jU oA kV d.h d.c.locs (fun w' hb=>(hw w' hb).mono ?_) (fun w2 H2=>?_)
  ·intro e w2 q2
   exact ⟨q2.how.trans (BT hst),q2.go hst⟩
  ·refine ⟨(BT hst).symm,fun z=>by rw [hst] at z;exact absurd z (by decide),fun _=>?_⟩
   have e:({ d.c with pc:=d.nx }:aL)={ c with locs:=d.c.locs,giv:=aE,cau:=aE,pc:=c.pc+1 }:=by
    obtain ⟨m1,m2,m3⟩:=hm
    cases Qz:d.c
    rw [Qz] at m1 m2 m3 OJ
    dsimp only at m1 m2 m3 OJ ⊢
    rw [m1,m3,OJ,yF]
   rw [e]
   exact H2

structure Kl where
 a:Mc
 c:aL
 vs:Value
 l:List Va
def Kl.own (k:Kl) (b:Nat):Prop:=b=k.a.q∨b=k.a.lb∨k.vs.ownBlock=some b∨b=k.a.bx
def yb (L:List Kl) (b:Nat):Prop:=∃k∈L,k.own b
def lQ (w0:World) (g:Mg) (w:World):List Kl->Prop
 | []=>True
 | k::L=>CA w0 g w k.a k.c k.l k.vs/\(∀b,yb L b->mq k.a k.vs b)/\lQ w0 g w L
def kM (L:List Kl):List Qb:=(L.map (fun k=>k.a.qb)).reverse
def RR (s:Nat) (Z:Nat->Prop) (wx w0:World) (g:Mg) (w:World) (h:Hp) (L:List Kl):Prop:=∃vc vo vx,RH s w0 g w h (kM L) vc vo vx/\lQ w0 g w L/\(∀b,Z b->lj g vc vo vx b)/\(∀b,Z b->∀k∈L,mq k.a k.vs b)/\je Z wx w
def mw (L:List Kl) (Z:Nat->Prop) (b:Nat):Prop:=yb L b∨Z b
theorem CA.blks {w0 w:World} {g:Mg} {k:Kl} (H:CA w0 g w k.a k.c k.l k.vs) {b:Nat} (hb:k.own b):w0.heap.size<=b/\∃cs t,w.heap[b]?=some (.cells cs t (0,0))/\(t=143∨t=100∨t=139):=by
 rcases hb with rfl|rfl|hb|rfl
 ·exact ⟨H.own,_,_,H.blk,Or.inl rfl⟩
 ·exact ⟨H.ownl,_,_,H.loc,Or.inr (Or.inl rfl)⟩
 rotate_left 1
 ·exact ⟨H.ownb,_,_,H.box,Or.inr (Or.inr rfl)⟩
 ·rcases H.stk.2 with ⟨h0,-⟩|⟨gb,cap,cur,h1,h2,h3,-⟩
  ·rw [h0] at hb;simp [Value.ownBlock] at hb
  ·rw [h1] at hb
   simp [Value.ownBlock] at hb
   subst hb
   exact ⟨h2,_,_,h3,Or.inr (Or.inl rfl)⟩
theorem CA.farK {s:Nat} {w0 w:World} {g:Mg} {h:Hp} {qs:List Qb} {vc vo vx:Value} {k:Kl} (R:RH s w0 g w h qs vc vo vx) (H:CA w0 g w k.a k.c k.l k.vs) {b:Nat} (hb:k.own b):lj g vc vo vx b:=by
 obtain ⟨-,cs,t,h1,ht⟩:=H.blks hb
 obtain ⟨n,D,F⟩:=R.fld
 refine ⟨cC h1 R.run ?_,cC h1 R.hp ?_,iE h1 F.own,bg R.calls h1 ?_,bg R.obs h1 ?_,bg R.o h1 ?_⟩<;>rcases ht with rfl|rfl|rfl<;>decide
section
variable {w0 w:World}
theorem CA.same {w':World} {g:Mg} {k:Kl} (H:CA w0 g w k.a k.c k.l k.vs) (hb:∀b,k.own b->w'.heap[b]?=w.heap[b]?):CA w0 g w' k.a k.c k.l k.vs:=by
 refine ⟨H.own,H.ownl,H.ownb,(hb _ (Or.inl rfl)).trans H.blk,(hb _ (Or.inr (Or.inr (Or.inr rfl)))).trans H.box,(hb _ (Or.inr (Or.inl rfl))).trans H.loc,H.rel,⟨H.stk.1,?_⟩,H.apart,H.me,H.short,H.kinds⟩
 rcases H.stk.2 with h0|⟨gb,cap,cur,h1,h2,h3,h4⟩
 ·exact Or.inl h0
 ·refine Or.inr ⟨gb,cap,cur,h1,h2,?_,h4⟩
  rw [hb gb (Or.inr (Or.inr (Or.inl (by rw [h1];rfl))))]
  exact h3
theorem lQ.same {w':World} {g:Mg}:∀{L:List Kl},lQ w0 g w L->(∀b,yb L b->w'.heap[b]?=w.heap[b]?)->lQ w0 g w' L
 | [],_,_=>trivial
 | k::L,H,hb=>⟨H.1.same (fun b hk=>hb b ⟨k,List.mem_cons_self,hk⟩),H.2.1,lQ.same H.2.2 (fun b ⟨x,hx,hk⟩=>hb b ⟨x,List.mem_cons_of_mem _ hx,hk⟩)⟩
theorem lQ.blks {g:Mg}:∀{L:List Kl},lQ w0 g w L->∀{b},yb L b->∃k∈L,k.own b/\CA w0 g w k.a k.c k.l k.vs
 | [],_,_,⟨x,hx,_⟩=>absurd hx (by simp)
 | k::L,H,b,⟨x,hx,hk⟩=>by
  rcases List.mem_cons.1 hx with rfl|hx
  ·exact ⟨x,List.mem_cons_self,hk,H.1⟩
  ·obtain ⟨y,hy,h1,h2⟩:=lQ.blks H.2.2 ⟨x,hx,hk⟩
   exact ⟨y,List.mem_cons_of_mem _ hy,h1,h2⟩
theorem lQ.lt {g:Mg} {L:List Kl} (H:lQ w0 g w L) {b:Nat} (hb:yb L b):b<w.heap.size:=by
 obtain ⟨k,-,hk,hc⟩:=H.blks hb
 obtain ⟨-,cs,t,h1,-⟩:=hc.blks hk
 exact af h1
theorem lQ.kz {wx:World} {g:Mg} {L:List Kl} {Z:Nat->Prop} (H:lQ w0 g w L) (K:je Z wx w):je (mw L Z) w w :=
 ⟨Nat.le_refl _,fun b hb=>⟨hb.elim (fun z=>H.lt z) (fun z=>Nat.lt_of_lt_of_le (K.blk b z).1 K.size),rfl⟩⟩
end
section
variable {s:Nat} {Z:Nat->Prop} {wx w0 w:World} {g:Mg} {h:Hp}
theorem RR.top {k:Kl} {L:List Kl} (H:RR s Z wx w0 g w h (k::L)):RX s (mw L Z) w w0 g w h (kM (k::L)) k.a k.c:=by
 obtain ⟨vc,vo,vx,R,⟨hc,hf,hl⟩,z1,z2,K⟩:=H
 refine ⟨vc,vo,vx,k.vs,k.l,R,hc,fun b hb=>?_,fun b hb=>?_,hl.kz K⟩
 ·rcases hb with hb|hb
  ·obtain ⟨y,-,hk,hy⟩:=hl.blks hb
   exact hy.farK R hk
  ·exact z1 b hb
 ·rcases hb with hb|hb
  ·exact hf b hb
  ·exact z2 b hb k List.mem_cons_self
theorem RR.hx {L:List Kl} (H:RR s Z wx w0 g w h L):HX s (mw L Z) w w0 g w h (kM L):=by
 obtain ⟨vc,vo,vx,R,hl,z1,z2,K⟩:=H
 refine ⟨vc,vo,vx,R,fun b hb=>?_,hl.kz K⟩
 rcases hb with hb|hb
 ·obtain ⟨y,-,hk,hy⟩:=hl.blks hb
  exact hy.farK R hk
 ·exact z1 b hb
end
theorem je.then {Z Z':Nat->Prop} {wx w w':World} (K:je Z wx w) (K':je Z' w w') (hz:∀b,Z b->Z' b):je Z wx w':=⟨Nat.le_trans K.size K'.size,fun b hb=>⟨(K.blk b hb).1,((K'.blk b (hz b hb)).2).trans (K.blk b hb).2⟩⟩
section
variable {s s':Nat} {Z:Nat->Prop} {wx w0 w w':World} {g:Mg} {h h':Hp}
theorem RR.of {k:Kl} {L:List Kl} {c:aL} (H:RR s Z wx w0 g w h (k::L)) (H':RX s' (mw L Z) w w0 g w' h' (kM (k::L)) k.a c):∃vs l,RR s' Z wx w0 g w' h' (⟨k.a,c,vs,l⟩::L):=by
 obtain ⟨vc,vo,vx,R,⟨hc,hf,hl⟩,z1,z2,K⟩:=H
 obtain ⟨sS,wW,wX,vs,l,H'⟩:=H'
 refine ⟨vs,l,sS,wW,wX,H'.rh,⟨H'.ca,fun b hb=>H'.farc b (Or.inl hb),hl.same (fun b hb=>(H'.kept.blk b (Or.inl hb)).2)⟩,fun b hb=>H'.farr b (Or.inr hb),fun b hb y hy=>?_,K.then H'.kept (fun b hb=>Or.inr hb)⟩
 rcases List.mem_cons.1 hy with rfl|hy
 ·exact H'.farc b (Or.inr hb)
 ·exact z2 b hb y (List.mem_cons_of_mem _ hy)
theorem RR.ofx {L:List Kl} (H:RR s Z wx w0 g w h L) (H':HX s' (mw L Z) w w0 g w' h' (kM L)):RR s' Z wx w0 g w' h' L:=by
 obtain ⟨vc,vo,vx,R,hl,z1,z2,K⟩:=H
 obtain ⟨sS,wW,wX,R',f,K'⟩:=H'
 exact ⟨sS,wW,wX,R',hl.same (fun b hb=>(K'.blk b (Or.inl hb)).2),fun b hb=>f b (Or.inr hb),z2,K.then K' (fun b hb=>Or.inr hb)⟩
end
section
open Go.Maps (Keyed has)
abbrev Nf (A:Option Addr) (n a mp:Nat):Obj:=.cells #[.slice A n a,.slice none 0 0,.map (some mp)] 171
theorem yd (A:Option Addr) (n a:Nat) (w:World) :
  χ 44 #[.slice A n a] w fun e w'=>e=.returned (π (w.heap.size+1) 0)/\w'=(w.alloc (.map #[] 0)).alloc (Nf A n a w.heap.size):=by
 have iL:∀(t:TypeId) (w:World),(Instr.makeMap t none).run Tryz.prog w=.ok (.map (some w.heap.size)) (w.alloc (.map #[] 0)):=fun _ _=>rfl
 go_enter func44,ntmps44
 go_wp2
 go_ret
 exact ⟨rfl,rfl⟩
def fZ (f:Fi) (input:List Int) (fuel:Int):Hp:=⟨f,[],input,0,fuel,⟨0,0,0,[],0,0⟩,false,-1⟩
theorem Hy (f:Fi) (input:List Int) (fuel:Int) (w0 w:World) (g:Mg) (hb:Bl w0 w) (h1:w0.heap.size<=g.r) (h2:w0.heap.size<=g.hb) (h3:w0.heap.size<=g.mp)
  (hr:w.heap[g.r]?=some (.cells (gP g (fZ f input fuel) (.slice none 0 0) (.slice none 0 0)) 90 (0,0))) (hh:w.heap[g.hb]?=some (.cells (fA g (fZ f input fuel) (.slice none 0 0)) 171 (0,0)))
  (hm:w.ownsMap Tryz.prog 265 fg g.mp 0 (.map [])):RR 0 Ko w w0 g w (fZ f input fuel) []:=by
 refine ⟨.slice none 0 0,.slice none 0 0,.slice none 0 0,⟨h1,h2,h3,hb,hr,hh,⟨rfl,Or.inl ⟨rfl,rfl⟩⟩,⟨rfl,Or.inl ⟨rfl,rfl⟩⟩,⟨rfl,Or.inl ⟨rfl,rfl⟩⟩,0,.map [],hm,(by show (0:Int)+0<=0;decide),?_,?_,?_,?_,?_⟩,trivial,fun b hb=>absurd hb (fun x=>x),fun b hb=>absurd hb (fun x=>x),Nat.le_refl _,fun b hb=>absurd hb (fun x=>x)⟩
 ·intro o c k v ho;exact absurd ho (Nat.not_lt_zero _)
 ·intro o c k v ho;exact absurd ho (Nat.not_lt_zero _)
 ·intro o c k _ _ _ _;rfl
 ·intro o ho;exact absurd ho (Nat.not_lt_zero _)
 ·intro o ho;exact absurd ho (Nat.not_lt_zero _)
end
def lR (B:Bool) (ms:List Me) (entry fuel:Int) (na ni:Nat):Int :=
 if B=false then 2
 else if ¬(0<=entry/\entry<(ms.length:Int))∨¬(0<=fuel/\fuel<=60000) then 4
 else if 1000<ni then 1
 else if (!(mr (nth bT ms entry.toNat).params)&&decide (na=(nth bT ms entry.toNat).params.length))=true then 0 else 3
abbrev r9:Value:=.agg #[.func (.func 30) #[] #[],.func (.func 31) #[] #[]]
abbrev sa (nc nm:Nat) (A B:Option Addr) (a b:Nat):Value:=.agg #[.slice A nc a,.slice B nm b]
abbrev lS:Obj:=.cells #[.func (.func 30) #[] #[],.func (.func 31) #[] #[]] 40
abbrev o7 (nc nm:Nat) (A B:Option Addr) (a b:Nat):Obj:=.cells #[.slice A nc a,.slice B nm b] 25
theorem pM (T:Bool) (nc:Nat) (ms:List Me) (A B R I:Option Addr) (a b rc ic na ni:Nat) (entry fuel:Int) (w:World) (hB:cz w B ms) (hn:na<=maxLen) (hi:ni<=maxLen)
  (hM:∀w',Bl w w'->χ 30 #[sa nc ms.length A B a b] w' fun e w2=>e=.returned (.bool T)/\Bl w' w2) :
  χ 43 #[r9,sa nc ms.length A B a b,ι entry,.slice R na rc,.slice I ni ic,ι fuel] w fun e w'=>e=.returned (ι (lR T ms entry fuel na ni))/\Bl w w':=by
 have HB:=ae hB
 have iL:=hB.1
 unfold maxLen at iL hi
 have HN:=ae hn
 have HM:=ae hM
 have bM:Θ (Bl w ((w.alloc lS).alloc (o7 nc ms.length A B a b))):=((Bl.refl w).alloc _).alloc _
 obtain ⟨L0,L1⟩:=bc w #[.func (.func 30) #[] #[],.func (.func 31) #[] #[]] #[.slice A nc a,.slice B ms.length b] 40 25
 have ey:=ae L1
 clear hB hn hM L0 L1
 unfold lR
 cases T with
 | false =>
  rw [if_pos rfl]
  go_enter func43,ntmps43
  go_wp2_with (go_at_call 30;refine (HM.o _ bM.o).mono ?_;rintro e w1 ⟨rfl,b1⟩;replace b1:=ae b1)
  go_ret
  exact ⟨rfl,bM.o.trans b1.o⟩
 | true =>
  rw [if_neg (by decide)]
  have WT:True:=trivial
  by_cases he:0<=entry/\entry<(ms.length:Int)
  ·have d1:decide (0<=entry/\entry<(ms.length:Int))=true:=decide_eq_true he
   by_cases hf:0<=fuel/\fuel<=60000
   ·have d2:decide (0<=fuel/\fuel<=60000)=true:=decide_eq_true hf
    rw [if_neg (by simp [he,hf])]
    by_cases hs:1000<ni
    ·rw [if_pos hs]
     have QD:(1000:Int)<(ni:Int):=by omega
     go_enter func43,ntmps43
     go_wp2_with (first
      | (go_at_call 30;refine (HM.o _ bM.o).mono ?_;rintro e w1 ⟨rfl,b1⟩;have q1:=ax b1 ey.o;have y1:w1.cell? ⟨w.heap.size+1,1,none⟩=some (.slice B ms.length b):=(ab q1).trans rfl;replace b1:=ae b1;replace q1:=ae q1)
      | (go_at_call 97;refine (bk _ _ _).mono ?_;rintro e w5 ⟨he,kI⟩;rw [d1] at he;subst he;rw [kI];clear kI w5)
      | (go_at_call 35;refine (bP _ _ _ _).mono ?_;rintro e w5 ⟨he,kI⟩;rw [d2] at he;subst he;rw [kI];clear kI w5))
     go_ret
     exact ⟨rfl,bM.o.trans b1.o⟩
    ·rw [if_neg hs]
     have QD:¬(1000:Int)<(ni:Int):=by omega
     obtain ⟨e0,Zd⟩:∃e0:Nat,entry=e0:=⟨entry.toNat,by omega⟩
     subst Zd
     rcases HB.o.2 with z0|⟨mb,mo,rfl,hcell⟩
     ·omega
     obtain ⟨P,C,J,p,c,k,m0,-,-,-,-,-,-,-,hme⟩:=hcell e0 (by omega)
     rw [Int.toNat_natCast]
     obtain ⟨U,hU⟩:∃U,(!(mr (nth bT ms e0).params)&&decide (na=(nth bT ms e0).params.length))=U:=⟨_,rfl⟩
     have HU:=ae hU
     have HP:=ae hme.1
     rw [hU]
     generalize (nth bT ms e0).params=PL at *
     clear hcell hme hU
     cases U
     all_goals
      go_enter func43,ntmps43
      go_wp2_with (first
       | (go_at_call 30;refine (HM.o _ bM.o).mono ?_;rintro e w1 ⟨rfl,b1⟩;have q1:=ax b1 ey.o;have y1:w1.cell? ⟨w.heap.size+1,1,none⟩=some (.slice (some ⟨mb,mo,none⟩) ms.length b):=(ab q1).trans rfl;have m1:=(bM.o.trans b1).cell m0;replace b1:=ae b1;replace q1:=ae q1)
       | (go_at_call 97;refine (bk _ _ _).mono ?_;rintro e w5 ⟨he,kI⟩;rw [d1] at he;subst he;rw [kI];clear kI w5)
       | (go_at_call 35;refine (bP _ _ _ _).mono ?_;rintro e w5 ⟨he,kI⟩;rw [d2] at he;subst he;rw [kI];clear kI w5)
       | (go_at_call 98;refine (C4 _ _ _ _ _ PL _ (HP.o.bl (bM.o.trans b1.o)) HN.o).mono ?_;rintro e w6 ⟨he,b6⟩;rw [HU.o] at he;subst he;replace b6:=ae b6))
      go_ret
      exact ⟨rfl,(bM.o.trans b1.o).trans b6.o⟩
   ·have d2:decide (0<=fuel/\fuel<=60000)=false:=decide_eq_false hf
    rw [if_pos (Or.inr hf)]
    go_enter func43,ntmps43
    go_wp2_with (first
     | (go_at_call 30;refine (HM.o _ bM.o).mono ?_;rintro e w1 ⟨rfl,b1⟩;have q1:=ax b1 ey.o;have y1:w1.cell? ⟨w.heap.size+1,1,none⟩=some (.slice B ms.length b):=(ab q1).trans rfl;replace b1:=ae b1;replace q1:=ae q1)
     | (go_at_call 97;refine (bk _ _ _).mono ?_;rintro e w5 ⟨he,kI⟩;rw [d1] at he;subst he;rw [kI];clear kI w5)
     | (go_at_call 35;refine (bP _ _ _ _).mono ?_;rintro e w5 ⟨he,kI⟩;rw [d2] at he;subst he;rw [kI];clear kI w5))
    go_ret
    exact ⟨rfl,bM.o.trans b1.o⟩
  ·have d1:decide (0<=entry/\entry<(ms.length:Int))=false:=decide_eq_false he
   rw [if_pos (Or.inl he)]
   go_enter func43,ntmps43
   go_wp2_with (first
    | (go_at_call 30;refine (HM.o _ bM.o).mono ?_;rintro e w1 ⟨rfl,b1⟩;have q1:=ax b1 ey.o;have y1:w1.cell? ⟨w.heap.size+1,1,none⟩=some (.slice B ms.length b):=(ab q1).trans rfl;replace b1:=ae b1;replace q1:=ae q1)
    | (go_at_call 97;refine (bk _ _ _).mono ?_;rintro e w5 ⟨he,kI⟩;rw [d1] at he;subst he;rw [kI];clear kI w5))
   go_ret
   exact ⟨rfl,bM.o.trans b1.o⟩
abbrev o8 (how k n:Int):Obj:=.cells #[ι how,ι k,ι n] 102
abbrev iJ:Obj:=.cells #[ι 0,ι 0,ι 0,.slice none 0 0,ι 0,ι 0] 28
theorem jq {w:World} {b:Nat} {u0 u1 u2 u3 u4 u5:Value} {t:TypeId} (h:w.heap[b]?=some (.cells #[u0,u1,u2,u3,u4,u5] t (0,0))) (v0 v1 v2 v3 v4 v5:Value):((((((w.setCell ⟨b,0,none⟩ v0).setCell ⟨b,1,none⟩ v1).setCell ⟨b,2,none⟩ v2).setCell ⟨b,3,none⟩ v3).setCell ⟨b,4,none⟩ v4).setCell ⟨b,5,none⟩ v5).heap[b]?=some (.cells #[v0,v1,v2,v3,v4,v5] t (0,0)):=by
 rw [ay (ay (ay (ay (ay (ay h _) _) _) _) _) _];rfl
theorem kN {w v:World} (h:Bl w v) {b:Nat} (hb:w.heap.size<=b) (y0 y1 y2 y3 y4 y5:Value):Bl w ((((((v.setCell ⟨b,0,none⟩ y0).setCell ⟨b,1,none⟩ y1).setCell ⟨b,2,none⟩ y2).setCell ⟨b,3,none⟩ y3).setCell ⟨b,4,none⟩ y4).setCell ⟨b,5,none⟩ y5) :=
 (((((h.setCell (p:=⟨b,0,none⟩) hb _).setCell (p:=⟨b,1,none⟩) hb _).setCell (p:=⟨b,2,none⟩) hb _).setCell (p:=⟨b,3,none⟩) hb _).setCell (p:=⟨b,4,none⟩) hb _).setCell (p:=⟨b,5,none⟩) hb _
theorem jr:(Tryz.prog.info? 28).map (·.size)=some 6:=by kernel_rfl
section
variable (how k n:Int) (g:Mg) (h:Hp) (Ax:Option Addr) (nx cx:Nat) (w:World)
theorem DW (r0:κ w g.r 0 (π g.hb 0)) (r6:κ w g.r 6 (ι h.sh.steps)) (r7:κ w g.r 7 (ι h.sh.used)) (r8:κ w g.r 8 (.slice Ax nx cx)) (hh:how≠2) (hk:k≠3) :
  χ 47 #[π g.r 0,.agg #[ι how,ι k,ι n]] w fun e w'=>e=.returned (.agg #[ι how,ι n,ι 0,.slice Ax nx cx,ι h.sh.used,ι h.sh.steps])/\Bl w w':=by
 have bM:Θ (Bl w ((w.alloc (o8 how k n)).alloc iJ)):=((Bl.refl w).alloc _).alloc _
 have HT:Θ (∀w',Bl ((w.alloc (o8 how k n)).alloc iJ) w'->(fun w'=>Θ (Bl ((w.alloc (o8 how k n)).alloc iJ) w')/\w'.cell? ⟨w.heap.size,0,none⟩=some (ι how)/\w'.cell? ⟨w.heap.size,1,none⟩=some (ι k)/\w'.cell? ⟨w.heap.size,2,none⟩=some (ι n)/\w'.cell? ⟨g.r,0,none⟩=some (π g.hb 0)/\w'.cell? ⟨g.r,6,none⟩=some (ι h.sh.steps)/\w'.cell? ⟨g.r,7,none⟩=some (ι h.sh.used)/\w'.cell? ⟨g.r,8,none⟩=some (.slice Ax nx cx)) w'):=fun w' hb=>by
  have dQ:=bM.o.trans hb
  have mW:Bl (w.alloc (o8 how k n)) w':=((Bl.refl _).alloc _).trans hb
  exact ⟨hb,mW.cell (ai rfl),mW.cell (ai rfl),mW.cell (ai rfl),dQ.cell r0,dQ.cell r6,dQ.cell r7,dQ.cell r8⟩
 have QV:(how==2)=false:=by simpa using hh
 have ME:(k !=3)=true:=by simpa using hk
 clear r0 r6 r7 r8 hh hk
 go_enter func47,ntmps47
 go_wp2
 refine wp_region_held_drew (S:=fun w'=>Θ (Bl ((w.alloc (o8 how k n)).alloc iJ) w')/\κ w' w.heap.size 0 (ι how)/\κ w' w.heap.size 1 (ι k)/\κ w' w.heap.size 2 (ι n)/\κ w' g.r 0 (π g.hb 0)/\κ w' g.r 6 (ι h.sh.steps)/\κ w' g.r 7 (ι h.sh.used)/\κ w' g.r 8 (.slice Ax nx cx)) (by kernel_rfl) ?_ (fun aa=>?_)
 ·exact HT.o _ (Bl.refl _).drew
 iterate 15 (refine tn rfl (by kernel_rfl) (fun _ _ _ h=>h) (by intro _ h;go_split_ands;go_simp<;>with_reducible rfl) aa ?_;try simp only [aZ])
 refine aY (i:=15) (by kernel_rfl) rfl fun K hK=>?_
 go_simp
 refine hK.out _ _ (HT.o _ (aa.1.o.alloc _)) (fun ah=>?_)
 try simp only [aZ]
 refine aY (i:=16) (by kernel_rfl) rfl fun K hK=>?_
 go_simp
 refine hK.out _ _ (HT.o _ ((Bl.refl _).alloc _).drew) (fun aH=>?_)
 try simp only [aZ]
 refine wpAnyH_done (by kernel_rfl) ?_ _
 obtain ⟨V,hV⟩:∃V,V=(((w.alloc (o8 how k n)).alloc iJ).alloc (.cells #[ι how,ι 0,ι 0,.slice Ax nx cx,ι h.sh.used,ι h.sh.steps] 28)).drew:=⟨_,rfl⟩
 have pV:Bl w V:=by rw [hV];exact (bM.o.alloc _).drew
 obtain ⟨L0,L1⟩:=bc (w.alloc (o8 how k n)) #[ι 0,ι 0,ι 0,.slice none 0 0,ι 0,ι 0] #[ι how,ι 0,ι 0,.slice Ax nx cx,ι h.sh.used,ι h.sh.steps] 28 28
 rw [World.size_alloc] at L0 L1
 have qz:V.heap[w.heap.size+1]?=some (.cells #[ι 0,ι 0,ι 0,.slice none 0 0,ι 0,ι 0] 28 (0,0)):=by rw [hV];exact L0
 have qv:V.heap[w.heap.size+1+1]?=some (.cells #[ι how,ι 0,ι 0,.slice Ax nx cx,ι h.sh.used,ι h.sh.steps] 28 (0,0)):=by rw [hV];exact L1
 have qs:V.heap[w.heap.size]?=some (.cells #[ι how,ι k,ι n] 102 (0,0)):=by rw [hV];exact ax ((((Bl.refl _).alloc _).alloc _).drew) (aB w _ _)
 rw [<-hV]
 clear hV L0 L1 aH aa ah
 have s0:V.cell? ⟨w.heap.size,0,none⟩=some (ι how):=(ab qs).trans rfl
 have s1:V.cell? ⟨w.heap.size,1,none⟩=some (ι k):=(ab qs).trans rfl
 have s2:V.cell? ⟨w.heap.size,2,none⟩=some (ι n):=(ab qs).trans rfl
 have y0:V.cell? ⟨w.heap.size+1+1,0,none⟩=some (ι how):=(ab qv).trans rfl
 have y1:V.cell? ⟨w.heap.size+1+1,1,none⟩=some (ι 0):=(ab qv).trans rfl
 have y2:V.cell? ⟨w.heap.size+1+1,2,none⟩=some (ι 0):=(ab qv).trans rfl
 have y3:V.cell? ⟨w.heap.size+1+1,3,none⟩=some (.slice Ax nx cx):=(ab qv).trans rfl
 have y4:V.cell? ⟨w.heap.size+1+1,4,none⟩=some (ι h.sh.used):=(ab qv).trans rfl
 have y5:V.cell? ⟨w.heap.size+1+1,5,none⟩=some (ι h.sh.steps):=(ab qv).trans rfl
 have z0:V.cell? ⟨w.heap.size+1,0,none⟩=some (ι 0):=(ab qz).trans rfl
 have z1:V.cell? ⟨w.heap.size+1,1,none⟩=some (ι 0):=(ab qz).trans rfl
 have z2:V.cell? ⟨w.heap.size+1,2,none⟩=some (ι 0):=(ab qz).trans rfl
 have z3:V.cell? ⟨w.heap.size+1,3,none⟩=some (.slice none 0 0):=(ab qz).trans rfl
 have z4:V.cell? ⟨w.heap.size+1,4,none⟩=some (ι 0):=(ab qz).trans rfl
 have z5:V.cell? ⟨w.heap.size+1,5,none⟩=some (ι 0):=(ab qz).trans rfl
 have fv:=aA qv
 have fr:=aA qz
 have n1:w.heap.size+1+1≠w.heap.size+1:=by omega
 have n2:w.heap.size+1≠w.heap.size+1+1:=by omega
 replace qz:=ae qz
 replace qv:=ae qv
 replace qs:=ae qs
 replace pV:=ae pV
 go_wp2
 have q3:(V.setCell ⟨w.heap.size+1+1,1,none⟩ (ι n)).heap[w.heap.size+1]?=some (.cells #[ι 0,ι 0,ι 0,.slice none 0 0,ι 0,ι 0] 28 (0,0)):=by rw [ak (by omega)];exact qz.o
 refine bodyPost_ret (results_cell_row rfl _ _ (w.heap.size+1) _ _ _ _ rfl (jq q3 _ _ _ _ _ _) underlying28 rfl jr) rfl ?_
 exact ⟨rfl,kN (pV.o.setCell (p:=⟨w.heap.size+1+1,1,none⟩) (by show w.heap.size<=w.heap.size+1+1;omega) _) (Nat.le_succ _) _ _ _ _ _ _⟩
theorem DX (r0:κ w g.r 0 (π g.hb 0)) (r6:κ w g.r 6 (ι h.sh.steps)) (r7:κ w g.r 7 (ι h.sh.used)) (r8:κ w g.r 8 (.slice Ax nx cx)) (hh:how≠2) (hk:k=3) :
  χ 47 #[π g.r 0,.agg #[ι how,ι k,ι n]] w fun e w'=>e=.returned (.agg #[ι how,ι 0,ι 0,.slice Ax nx cx,ι h.sh.used,ι h.sh.steps])/\Bl w w':=by
 have bM:Θ (Bl w ((w.alloc (o8 how k n)).alloc iJ)):=((Bl.refl w).alloc _).alloc _
 have HT:Θ (∀w',Bl ((w.alloc (o8 how k n)).alloc iJ) w'->(fun w'=>Θ (Bl ((w.alloc (o8 how k n)).alloc iJ) w')/\w'.cell? ⟨w.heap.size,0,none⟩=some (ι how)/\w'.cell? ⟨w.heap.size,1,none⟩=some (ι k)/\w'.cell? ⟨w.heap.size,2,none⟩=some (ι n)/\w'.cell? ⟨g.r,0,none⟩=some (π g.hb 0)/\w'.cell? ⟨g.r,6,none⟩=some (ι h.sh.steps)/\w'.cell? ⟨g.r,7,none⟩=some (ι h.sh.used)/\w'.cell? ⟨g.r,8,none⟩=some (.slice Ax nx cx)) w'):=fun w' hb=>by
  have dQ:=bM.o.trans hb
  have mW:Bl (w.alloc (o8 how k n)) w':=((Bl.refl _).alloc _).trans hb
  exact ⟨hb,mW.cell (ai rfl),mW.cell (ai rfl),mW.cell (ai rfl),dQ.cell r0,dQ.cell r6,dQ.cell r7,dQ.cell r8⟩
 have QV:(how==2)=false:=by simpa using hh
 have ME:(k !=3)=false:=by simp [hk]
 clear r0 r6 r7 r8 hh hk
 go_enter func47,ntmps47
 go_wp2
 refine wp_region_held_drew (S:=fun w'=>Θ (Bl ((w.alloc (o8 how k n)).alloc iJ) w')/\κ w' w.heap.size 0 (ι how)/\κ w' w.heap.size 1 (ι k)/\κ w' w.heap.size 2 (ι n)/\κ w' g.r 0 (π g.hb 0)/\κ w' g.r 6 (ι h.sh.steps)/\κ w' g.r 7 (ι h.sh.used)/\κ w' g.r 8 (.slice Ax nx cx)) (by kernel_rfl) ?_ (fun aa=>?_)
 ·exact HT.o _ (Bl.refl _).drew
 iterate 15 (refine tn rfl (by kernel_rfl) (fun _ _ _ h=>h) (by intro _ h;go_split_ands;go_simp<;>with_reducible rfl) aa ?_;try simp only [aZ])
 refine aY (i:=15) (by kernel_rfl) rfl fun K hK=>?_
 go_simp
 refine hK.out _ _ (HT.o _ (aa.1.o.alloc _)) (fun ah=>?_)
 try simp only [aZ]
 refine aY (i:=16) (by kernel_rfl) rfl fun K hK=>?_
 go_simp
 refine hK.out _ _ (HT.o _ ((Bl.refl _).alloc _).drew) (fun aH=>?_)
 try simp only [aZ]
 refine wpAnyH_done (by kernel_rfl) ?_ _
 obtain ⟨V,hV⟩:∃V,V=(((w.alloc (o8 how k n)).alloc iJ).alloc (.cells #[ι how,ι 0,ι 0,.slice Ax nx cx,ι h.sh.used,ι h.sh.steps] 28)).drew:=⟨_,rfl⟩
 have pV:Bl w V:=by rw [hV];exact (bM.o.alloc _).drew
 obtain ⟨L0,L1⟩:=bc (w.alloc (o8 how k n)) #[ι 0,ι 0,ι 0,.slice none 0 0,ι 0,ι 0] #[ι how,ι 0,ι 0,.slice Ax nx cx,ι h.sh.used,ι h.sh.steps] 28 28
 rw [World.size_alloc] at L0 L1
 have qz:V.heap[w.heap.size+1]?=some (.cells #[ι 0,ι 0,ι 0,.slice none 0 0,ι 0,ι 0] 28 (0,0)):=by rw [hV];exact L0
 have qv:V.heap[w.heap.size+1+1]?=some (.cells #[ι how,ι 0,ι 0,.slice Ax nx cx,ι h.sh.used,ι h.sh.steps] 28 (0,0)):=by rw [hV];exact L1
 have qs:V.heap[w.heap.size]?=some (.cells #[ι how,ι k,ι n] 102 (0,0)):=by rw [hV];exact ax ((((Bl.refl _).alloc _).alloc _).drew) (aB w _ _)
 rw [<-hV]
 clear hV L0 L1 aH aa ah
 have s0:V.cell? ⟨w.heap.size,0,none⟩=some (ι how):=(ab qs).trans rfl
 have s1:V.cell? ⟨w.heap.size,1,none⟩=some (ι k):=(ab qs).trans rfl
 have s2:V.cell? ⟨w.heap.size,2,none⟩=some (ι n):=(ab qs).trans rfl
 have y0:V.cell? ⟨w.heap.size+1+1,0,none⟩=some (ι how):=(ab qv).trans rfl
 have y1:V.cell? ⟨w.heap.size+1+1,1,none⟩=some (ι 0):=(ab qv).trans rfl
 have y2:V.cell? ⟨w.heap.size+1+1,2,none⟩=some (ι 0):=(ab qv).trans rfl
 have y3:V.cell? ⟨w.heap.size+1+1,3,none⟩=some (.slice Ax nx cx):=(ab qv).trans rfl
 have y4:V.cell? ⟨w.heap.size+1+1,4,none⟩=some (ι h.sh.used):=(ab qv).trans rfl
 have y5:V.cell? ⟨w.heap.size+1+1,5,none⟩=some (ι h.sh.steps):=(ab qv).trans rfl
 have z0:V.cell? ⟨w.heap.size+1,0,none⟩=some (ι 0):=(ab qz).trans rfl
 have z1:V.cell? ⟨w.heap.size+1,1,none⟩=some (ι 0):=(ab qz).trans rfl
 have z2:V.cell? ⟨w.heap.size+1,2,none⟩=some (ι 0):=(ab qz).trans rfl
 have z3:V.cell? ⟨w.heap.size+1,3,none⟩=some (.slice none 0 0):=(ab qz).trans rfl
 have z4:V.cell? ⟨w.heap.size+1,4,none⟩=some (ι 0):=(ab qz).trans rfl
 have z5:V.cell? ⟨w.heap.size+1,5,none⟩=some (ι 0):=(ab qz).trans rfl
 have fv:=aA qv
 have fr:=aA qz
 have n1:w.heap.size+1+1≠w.heap.size+1:=by omega
 have n2:w.heap.size+1≠w.heap.size+1+1:=by omega
 replace qz:=ae qz
 replace qv:=ae qv
 replace qs:=ae qs
 replace pV:=ae pV
 go_wp2
 refine bodyPost_ret (results_cell_row rfl _ _ (w.heap.size+1) _ _ _ _ rfl (jq qz.o _ _ _ _ _ _) underlying28 rfl jr) rfl ?_
 exact ⟨rfl,kN pV.o (Nat.le_succ _) _ _ _ _ _ _⟩
end
theorem DY (n:Nat) (CL:Int) (g:Mg) (h:Hp) (Ax:Option Addr) (nx cx:Nat) (w:World) (R:qh w g h) (hn:n<h.objs.length) (hC:(nth cF h.objs n).cls=CL) (r0:κ w g.r 0 (π g.hb 0)) (r6:κ w g.r 6 (ι h.sh.steps)) (r7:κ w g.r 7 (ι h.sh.used)) (r8:κ w g.r 8 (.slice Ax nx cx)) :
  χ 47 #[π g.r 0,.agg #[ι 2,ι 3,ι ((n:Int)+1)]] w fun e w'=>e=.returned (.agg #[ι 2,ι 0,ι CL,.slice Ax nx cx,ι h.sh.used,ι h.sh.steps])/\Bl w w':=by
 have bM:Θ (Bl w ((w.alloc (o8 2 3 ((n:Int)+1))).alloc iJ)):=((Bl.refl w).alloc _).alloc _
 have HT:Θ (∀w',Bl ((w.alloc (o8 2 3 ((n:Int)+1))).alloc iJ) w'->(fun w'=>Θ (Bl ((w.alloc (o8 2 3 ((n:Int)+1))).alloc iJ) w')/\w'.cell? ⟨w.heap.size,0,none⟩=some (ι 2)/\w'.cell? ⟨w.heap.size,1,none⟩=some (ι 3)/\w'.cell? ⟨w.heap.size,2,none⟩=some (ι ((n:Int)+1))/\w'.cell? ⟨g.r,0,none⟩=some (π g.hb 0)/\w'.cell? ⟨g.r,6,none⟩=some (ι h.sh.steps)/\w'.cell? ⟨g.r,7,none⟩=some (ι h.sh.used)/\w'.cell? ⟨g.r,8,none⟩=some (.slice Ax nx cx)) w'):=fun w' hb=>by
  have dQ:=bM.o.trans hb
  have mW:Bl (w.alloc (o8 2 3 ((n:Int)+1))) w':=((Bl.refl _).alloc _).trans hb
  exact ⟨hb,mW.cell (ai rfl),mW.cell (ai rfl),mW.cell (ai rfl),dQ.cell r0,dQ.cell r6,dQ.cell r7,dQ.cell r8⟩
 have Ur:Θ (∀w',Bl (w.alloc (o8 2 3 ((n:Int)+1))) w'->(fun w'=>Θ (Bl (w.alloc (o8 2 3 ((n:Int)+1))) w')/\w'.cell? ⟨w.heap.size,1,none⟩=some (ι 3)/\w'.cell? ⟨w.heap.size,2,none⟩=some (ι ((n:Int)+1))/\w'.cell? ⟨g.r,0,none⟩=some (π g.hb 0)) w'):=fun w' hb =>
  ⟨hb,hb.cell (ai rfl),hb.cell (ai rfl),(((Bl.refl w).alloc _).trans hb).cell r0⟩
 have rp:Θ (∀w',Bl (w.alloc (o8 2 3 ((n:Int)+1))) w'->χ 103 #[π g.hb 0,cm ⟨3,(n:Int)+1⟩] w' fun e w2=>e=.returned (ι CL)/\Bl w' w2):=fun w' hb=>by
  have:=pD g h n w' (R.bl (((Bl.refl w).alloc _).trans hb)) hn
  rw [hC] at this
  exact this
 clear r0 r6 r7 r8 R hC hn
 go_enter func47,ntmps47
 go_wp2
 refine wp_region_held_drew (S:=fun w'=>Θ (Bl ((w.alloc (o8 2 3 ((n:Int)+1))).alloc iJ) w')/\κ w' w.heap.size 0 (ι 2)/\κ w' w.heap.size 1 (ι 3)/\κ w' w.heap.size 2 (ι ((n:Int)+1))/\κ w' g.r 0 (π g.hb 0)/\κ w' g.r 6 (ι h.sh.steps)/\κ w' g.r 7 (ι h.sh.used)/\κ w' g.r 8 (.slice Ax nx cx)) (by kernel_rfl) ?_ (fun aa=>?_)
 ·exact HT.o _ (Bl.refl _).drew
 iterate 15 (refine tn rfl (by kernel_rfl) (fun _ _ _ h=>h) (by intro _ h;go_split_ands;go_simp<;>with_reducible rfl) aa ?_;try simp only [aZ])
 refine aY (i:=15) (by kernel_rfl) rfl fun K hK=>?_
 go_simp
 refine hK.out _ _ (HT.o _ (aa.1.o.alloc _)) (fun ah=>?_)
 try simp only [aZ]
 refine aY (i:=16) (by kernel_rfl) rfl fun K hK=>?_
 go_simp
 refine hK.out _ _ (HT.o _ ((Bl.refl _).alloc _).drew) (fun aH=>?_)
 try simp only [aZ]
 refine wpAnyH_done (by kernel_rfl) ?_ _
 obtain ⟨V,hV⟩:∃V,V=(((w.alloc (o8 2 3 ((n:Int)+1))).alloc iJ).alloc (.cells #[ι 2,ι 0,ι 0,.slice Ax nx cx,ι h.sh.used,ι h.sh.steps] 28)).drew:=⟨_,rfl⟩
 have pV:Bl w V:=by rw [hV];exact (bM.o.alloc _).drew
 obtain ⟨L0,L1⟩:=bc (w.alloc (o8 2 3 ((n:Int)+1))) #[ι 0,ι 0,ι 0,.slice none 0 0,ι 0,ι 0] #[ι 2,ι 0,ι 0,.slice Ax nx cx,ι h.sh.used,ι h.sh.steps] 28 28
 rw [World.size_alloc] at L0 L1
 have qz:V.heap[w.heap.size+1]?=some (.cells #[ι 0,ι 0,ι 0,.slice none 0 0,ι 0,ι 0] 28 (0,0)):=by rw [hV];exact L0
 have qv:V.heap[w.heap.size+1+1]?=some (.cells #[ι 2,ι 0,ι 0,.slice Ax nx cx,ι h.sh.used,ι h.sh.steps] 28 (0,0)):=by rw [hV];exact L1
 have qs:V.heap[w.heap.size]?=some (.cells #[ι 2,ι 3,ι ((n:Int)+1)] 102 (0,0)):=by rw [hV];exact ax ((((Bl.refl _).alloc _).alloc _).drew) (aB w _ _)
 have QW:Bl (w.alloc (o8 2 3 ((n:Int)+1))) V:=by rw [hV];exact (((Bl.refl _).alloc _).alloc _).drew
 rw [<-hV]
 clear hV L0 L1 aH aa ah
 have s0:V.cell? ⟨w.heap.size,0,none⟩=some (ι 2):=(ab qs).trans rfl
 have s1:V.cell? ⟨w.heap.size,1,none⟩=some (ι 3):=(ab qs).trans rfl
 have s2:V.cell? ⟨w.heap.size,2,none⟩=some (ι ((n:Int)+1)):=(ab qs).trans rfl
 have Ll:Θ (Bl (w.alloc (o8 2 3 ((n:Int)+1))) V):=QW
 replace qz:=ae qz
 replace qv:=ae qv
 replace qs:=ae qs
 replace pV:=ae pV
 clear QW
 go_wp2
 refine wp_region_held_drew (S:=fun w'=>Θ (Bl (w.alloc (o8 2 3 ((n:Int)+1))) w')/\κ w' w.heap.size 1 (ι 3)/\κ w' w.heap.size 2 (ι ((n:Int)+1))/\κ w' g.r 0 (π g.hb 0)) (by kernel_rfl) ?_ (fun aa=>?_)
 ·exact Ur.o _ Ll.o.drew
 iterate 6 (refine tn rfl (by kernel_rfl) (fun _ _ _ h=>h) (by intro _ h;go_split_ands;go_simp<;>with_reducible rfl) aa ?_;try simp only [aZ])
 refine aY (i:=6) (by kernel_rfl) rfl fun K hK=>?_
 go_simp
 go_at_call 103
 refine (rp.o _ Ll.o.drew).mono ?_
 rintro e w3 ⟨rfl,b3⟩
 have B3:Θ (Bl V w3):=(Bl.refl V).drew.trans b3
 have oz:=ax B3.o qv.o
 have fv3:=aA oz
 have yy2:w3.cell? ⟨w.heap.size+1+1,2,none⟩=some (ι 0):=(ab oz).trans rfl
 replace oz:=ae oz
 clear b3
 go_wp2_with fail
 refine hK.out _ _ (Ur.o _ (Ll.o.trans B3.o)) (fun ah=>?_)
 try simp only [aZ]
 refine tn rfl (by kernel_rfl) (fun _ _ _ h=>h) (by intro _ h;go_split_ands;go_simp<;>with_reducible rfl) ah ?_
 try simp only [aZ]
 refine aY (i:=8) (by kernel_rfl) rfl fun K hK=>?_
 go_simp
 refine hK.out _ _ (Ur.o _ ((Ll.o.trans B3.o).setCell (p:=⟨w.heap.size+1+1,2,none⟩) (by simp) _)) (fun aH=>?_)
 try simp only [aZ]
 refine wpAnyH_done (by kernel_rfl) ?_ _
 obtain ⟨V2,QX⟩:∃V2,V2=w3.setCell ⟨w.heap.size+1+1,2,none⟩ (ι CL):=⟨_,rfl⟩
 have Lm:V2.heap[w.heap.size+1+1]?=some (.cells #[ι 2,ι 0,ι CL,.slice Ax nx cx,ι h.sh.used,ι h.sh.steps] 28 (0,0)):=by rw [QX,ay oz.o];rfl
 have JS:V2.heap[w.heap.size+1]?=some (.cells #[ι 0,ι 0,ι 0,.slice none 0 0,ι 0,ι 0] 28 (0,0)):=by rw [QX,ak (by omega)];exact ax B3.o qz.o
 have dQ:Bl w V2:=by rw [QX];exact (pV.o.trans B3.o).setCell (p:=⟨w.heap.size+1+1,2,none⟩) (by show w.heap.size<=w.heap.size+1+1;omega) _
 rw [<-QX]
 clear QX aa ah aH
 have y0:V2.cell? ⟨w.heap.size+1+1,0,none⟩=some (ι 2):=(ab Lm).trans rfl
 have y1:V2.cell? ⟨w.heap.size+1+1,1,none⟩=some (ι 0):=(ab Lm).trans rfl
 have y2:V2.cell? ⟨w.heap.size+1+1,2,none⟩=some (ι CL):=(ab Lm).trans rfl
 have y3:V2.cell? ⟨w.heap.size+1+1,3,none⟩=some (.slice Ax nx cx):=(ab Lm).trans rfl
 have y4:V2.cell? ⟨w.heap.size+1+1,4,none⟩=some (ι h.sh.used):=(ab Lm).trans rfl
 have y5:V2.cell? ⟨w.heap.size+1+1,5,none⟩=some (ι h.sh.steps):=(ab Lm).trans rfl
 have z0:V2.cell? ⟨w.heap.size+1,0,none⟩=some (ι 0):=(ab JS).trans rfl
 have z1:V2.cell? ⟨w.heap.size+1,1,none⟩=some (ι 0):=(ab JS).trans rfl
 have z2:V2.cell? ⟨w.heap.size+1,2,none⟩=some (ι 0):=(ab JS).trans rfl
 have z3:V2.cell? ⟨w.heap.size+1,3,none⟩=some (.slice none 0 0):=(ab JS).trans rfl
 have z4:V2.cell? ⟨w.heap.size+1,4,none⟩=some (ι 0):=(ab JS).trans rfl
 have z5:V2.cell? ⟨w.heap.size+1,5,none⟩=some (ι 0):=(ab JS).trans rfl
 have fv:=aA Lm
 have fr:=aA JS
 have n1:w.heap.size+1+1≠w.heap.size+1:=by omega
 have n2:w.heap.size+1≠w.heap.size+1+1:=by omega
 replace JS:=ae JS
 replace Lm:=ae Lm
 replace dQ:=ae dQ
 go_wp2
 refine bodyPost_ret (results_cell_row rfl _ _ (w.heap.size+1) _ _ _ _ rfl (jq JS.o _ _ _ _ _ _) underlying28 rfl jr) rfl ?_
 exact ⟨rfl,kN dQ.o (Nat.le_succ _) _ _ _ _ _ _⟩
end Go.Proofs.YtgiiapenmjollaaGreat
