import Derived.Test.YtgbebphpjnmafaaGreatRraw
namespace Go.Proofs.YtgbebphpjnmafaaGreat
set_option linter.all false
set_option maxHeartbeats 40000000
set_option maxRecDepth 100000
open Go.RowKit
open Tryz
theorem L4 (w0:World) (g:Ad) (p:Nat) (h:Hp) (m:Me) (P CC KA:Option Addr) (pp cc kk:Nat) (A:Option Addr) (ac lb:Nat) (l:List Va) (w:World) (hH:Hs w0 g w p h) (E:Env w0 g h) (ho:h.over=false) (gh:Gh 0 h) (hme:kV w0 m P CC KA) (hl:l.length=m.params.length) (hg:∀v∈l,jq h v) (hA:ej lb w A l) (kd:Kd h) (EA:fG h.file.classes h.file.methods m=true) (hok:∀i∈m.code,i.ok) (Sv:l.length<=ac) (hb:h.enterB m l=true) (iA:h.thrown=-1) (N:Nat) (hN:(h.fuel-h.sh.steps).toNat<=N) (IH:∀k,k<N->GG w0 g p k) :
  χ 34 #[π p 0,sF m P CC KA pp cc kk,.slice A l.length ac] w fun e w'=>e=.returned (jc (cn N (h.enterH m l) (cv m l)).2)/\Hs w0 g w' p (cn N (h.enterH m l) (cv m l)).1/\Fr w0.heap.size g.T w w':=by
 have dX:=hH.base
 obtain ⟨WI,Di⟩:∃WI,WI=(((w.alloc (.cells #[.slice P m.params.length pp,ι m.ret.kind,ι m.ret.cls,ι m.stack,ι m.locs,ι m.regs,.slice CC m.code.length cc,.slice KA m.hands.length kk] 49)).alloc (.cells #[ι 0,ι 0] 62)).alloc (.cells #[ι 0,ι 0] 62)):=⟨_,rfl⟩
 have hbl:Bl w WI:=by rw [Di];exact (((Bl.refl w).alloc _).alloc _).alloc _
 have HF:Θ (Fr w0.heap.size g.T w WI):=Fr.old dX hbl
 have HH:Θ (Hs w0 g WI p h):=hH.old hbl
 have HM:Θ (fI WI w.heap.size m P CC KA pp cc kk):=⟨by rw [Di];exact fH (by simp;omega) (fH (by simp) (cK rfl))⟩
 have HR:Θ (aC WI (w.heap.size+1) aE):=⟨by rw [Di];exact fH (by simp) (cK (by simp))⟩
 have HN:Θ (aC WI (w.heap.size+1+1) aE):=⟨by rw [Di];exact cK (by simp)⟩
 have HA:Θ (ej lb WI A l):=hA.keep fun b cs f e _=>(hbl.block _ (af e)).trans e
 have HC:=ae E.cq
 have HP:Θ (cX w0 P m.params):=hme.1
 have HL:Θ (l.length=m.params.length):=hl
 have HG:Θ (∀v∈l,v.kind=3->v.n<h.objs.length):=fun v hv e=>((hg v hv).ref e).2
 have hcl:=gh.calls
 have iB:w0.heap.size<=w.heap.size+1:=by omega
 have lI:w.heap.size<=w.heap.size+1:=by omega
 have tG:Θ (∀w',fI w' w.heap.size m P CC KA pp cc kk->(fun w'=>w'.cell? ⟨w.heap.size,0,none⟩=some (.slice P m.params.length pp)/\w'.cell? ⟨w.heap.size,1,none⟩=some (ι m.ret.kind)/\w'.cell? ⟨w.heap.size,2,none⟩=some (ι m.ret.cls)/\w'.cell? ⟨w.heap.size,3,none⟩=some (ι m.stack)/\w'.cell? ⟨w.heap.size,4,none⟩=some (ι m.locs)/\w'.cell? ⟨w.heap.size,5,none⟩=some (ι m.regs)/\w'.cell? ⟨w.heap.size,6,none⟩=some (.slice CC m.code.length cc)/\w'.cell? ⟨w.heap.size,7,none⟩=some (.slice KA m.hands.length kk)) w'):=fun w' X=>⟨X.cells.c0,X.cells.c1,X.cells.c2,X.cells.c3,X.cells.c4,X.cells.c5,X.cells.c6,X.cells.c7⟩
 have z2:=ae (tG.o _ HM.o)
 obtain ⟨NB,SU⟩:∃NB,NB=w.heap.size+1+1:=⟨_,rfl⟩
 rw [<-SU] at HN
 have HB:Θ (h.enterB m l=true):=hb
 obtain ⟨q1,q2,q3,q5,q6,q7,-,-,-,-⟩:=jW EA
 have hlo:0<=m.regs:=by omega
 have ND:=GC m.regs hlo (by omega)
 have HE:=ae E
 have Xj:=ae hH
 have Xk:=ae gh
 have Xl:=ae kd
 have sU:=ae hme
 have UF:=ae EA
 have A6:=ae hok
 have UG:=ae hg
 have M8:=ae iA
 have ZF:=ae IH
 have sK:=ae hN
 obtain ⟨LP,UH⟩:∃LP,cn N (h.enterH m l) (cv m l)=LP:=⟨_,rfl⟩
 rw [UH]
 have Xm:=ae UH
 have UJ:Θ (h.enterL l m.params=true):=by show h.enterL l m.params=true;unfold Hp.enterB at hb;rw [Bool.and_eq_true] at hb;exact hb.1
 clear hbl hH E gh kd hme EA hok hl hg hA hb iA hN IH UH
 go_enter func34,ntmps34
 go_wp2
 rw [<-Di,<-SU]
 have PA:=ae SU
 clear Di SU
 refine wp_region_held_drew (S:=fun w'=>w'.cell? ⟨w.heap.size,0,none⟩=some (.slice P m.params.length pp)/\w'.cell? ⟨w.heap.size,1,none⟩=some (ι m.ret.kind)/\w'.cell? ⟨w.heap.size,2,none⟩=some (ι m.ret.cls)/\w'.cell? ⟨w.heap.size,3,none⟩=some (ι m.stack)/\w'.cell? ⟨w.heap.size,4,none⟩=some (ι m.locs)/\w'.cell? ⟨w.heap.size,5,none⟩=some (ι m.regs)/\w'.cell? ⟨w.heap.size,6,none⟩=some (.slice CC m.code.length cc)/\w'.cell? ⟨w.heap.size,7,none⟩=some (.slice KA m.hands.length kk)) (by kernel_rfl) ?_ (fun aa=>?_)
 ·exact z2.o
 iterate 5 (refine tn rfl (by kernel_rfl) (fun _ _ _ h=>h) (by intro _ h;go_split_ands;go_simp<;>with_reducible rfl) aa ?_;try simp only [aZ])
 refine aY (i:=5) (by kernel_rfl) rfl fun K hK=>?_
 go_simp
 go_at_call 52
 refine (tF w0 g p h m P CC KA pp cc kk A ac lb l _ (HH.o.drewN 1) HC.o.cw ho HP.o HL.o (by exact HA.o) HG.o hcl).mono ?_
 rintro e w1 ⟨he,h1,f1⟩
 rw [HB.o] at he
 subst he
 have F1:=ae (((Fr.refl w0.heap.size g.T WI).drewN 1).trans f1)
 have Oh:=ae (HM.o.fr HC.o.k F1.o)
 have ko:=ae (HR.o.keep HC.o.k F1.o)
 have PO:=ae (HN.o.keep HC.o.k F1.o)
 have d1:=ae (tG.o _ Oh.o)
 have H1:=ae h1
 clear h1 f1
 go_wp2_with fail
 refine hK.out _ _ (d1.o) (fun ah=>?_)
 try simp only [aZ]
 refine tn rfl (by kernel_rfl) (fun _ _ _ h=>h) (by intro _ h;go_split_ands;go_simp<;>with_reducible rfl) ah ?_
 try simp only [aZ]
 refine wpAnyH_done (by kernel_rfl) ?_ _
 have x:=Oh.o.cells
 have x0:=x.c0
 have x1:=x.c1
 have x2:=x.c2
 have x3:=x.c3
 have x4:=x.c4
 have x5:=x.c5
 have x6:=x.c6
 have x7:=x.c7
 have vf:=af Oh.o.blk
 have UK:=af ko.o.blk
 have UL:=af PO.o.blk
 clear x d1 z2 aa ah hK
 go_wp2
 go_region_held3 (fun w'=>w'.cell? ⟨w.heap.size,0,none⟩=some (.slice P m.params.length pp)/\w'.cell? ⟨w.heap.size,1,none⟩=some (ι m.ret.kind)/\w'.cell? ⟨w.heap.size,2,none⟩=some (ι m.ret.cls)/\w'.cell? ⟨w.heap.size,3,none⟩=some (ι m.stack)/\w'.cell? ⟨w.heap.size,4,none⟩=some (ι m.locs)/\w'.cell? ⟨w.heap.size,5,none⟩=some (ι m.regs)/\w'.cell? ⟨w.heap.size,6,none⟩=some (.slice CC m.code.length cc)/\w'.cell? ⟨w.heap.size,7,none⟩=some (.slice KA m.hands.length kk))
  (go_keep)
  (fail)
 (try (rename_i ZG;clear ZG))
 go_wp2
 obtain ⟨W3,Ri⟩:∃W3,W3=((w1.alloc (.cells (bh (List.replicate m.regs.toNat aE)).toArray 62)).alloc (.cells #[.slice P m.params.length pp,ι m.ret.kind,ι m.ret.cls,ι m.stack,ι m.locs,ι m.regs,.slice CC m.code.length cc,.slice KA m.hands.length kk,.slice (some ⟨w1.heap.size,0,none⟩) m.regs.toNat m.regs.toNat,ι 0,ι 0,ι 0,ι 0,ι 0] 148)).drew:=⟨_,rfl⟩
 have mR:Bl w1 W3:=by rw [Ri];exact (((Bl.refl w1).alloc _).alloc _).drew
 have SS:(List.replicate m.regs.toNat aE).length=m.regs.toNat:=List.length_replicate ..
 have L3:Θ (cL W3 w1.heap.size (List.replicate m.regs.toNat aE)):=⟨by rw [Ri];exact fH (by simp) (cK rfl),by rw [SS];unfold maxLen;omega⟩
 have C3:Θ (aK w0 W3 ⟨w1.heap.size+1,w1.heap.size,m.regs.toNat,P,CC,KA,pp,cc,kk⟩ ⟨m,List.replicate m.regs.toNat aE,aE,aE,0⟩):=by
  have:=H1.o.base
  refine ⟨by dsimp only;omega,by dsimp only;omega,?_,L3.o,sU.o⟩
  rw [Ri]
  have e:lH ⟨w1.heap.size+1,w1.heap.size,m.regs.toNat,P,CC,KA,pp,cc,kk⟩ ⟨m,List.replicate m.regs.toNat aE,aE,aE,0⟩=#[.slice P m.params.length pp,ι m.ret.kind,ι m.ret.cls,ι m.stack,ι m.locs,ι m.regs,.slice CC m.code.length cc,.slice KA m.hands.length kk,.slice (some ⟨w1.heap.size,0,none⟩) m.regs.toNat m.regs.toNat,ι 0,ι 0,ι 0,ι 0,ι 0]:=by
   simp [lH,aE]
  rw [e]
  exact cK (by simp)
 have JN:Θ (Bl w1 W3):=mR
 rw [<-Ri]
 clear Ri mR SS x0 x1 x2 x3 x4 x5 x6 x7
 go_loopw [9,10] (fun fE i wr=>∃k:Nat,k<=l.length/\i=ι k/\fE=ι ((bN (l.take k):Nat):Int)/\Θ (dU w1.heap.size W3 wr)/\Θ (cL wr w1.heap.size (dT (List.replicate m.regs.toNat aE) 0 (l.take k)))) (fun _ i _=>l.length-(intOf i).toNat)
 case atStart=>exact ⟨0,Nat.zero_le _,rfl,rfl,dU.refl _ _,L3.o⟩
 case round =>
  obtain ⟨k,hk,rfl,rfl,ho,hL⟩:=hrel
  obtain ⟨a1,a2,a3,a4⟩:=Ez UF.o HL.o UG.o UJ.o k hk
  by_cases LH:k<l.length
  ·obtain ⟨a5,a6⟩:=a4 LH
   clear a4
   have SV:ej lb w1 A l:=HA.o.fr HC.o.k F1.o
   have Xn:ej lb W3 A l:=SV.keep fun b cs f e _=>(JN.o.block _ (af e)).trans e
   have ZH:Θ (∀w',dU w1.heap.size W3 w'->ej lb w' A l):=fun w' o=>Xn.only o w1.heap.size (Nat.le_refl _) fun x y cs f hx hh VO=>by
    rcases SV with h0|⟨x',y',cs',f',Fj,QR,-⟩
    ·omega
    ·rw [hx] at Fj
     simp only [Option.some.injEq,Addr.mk.injEq] at Fj
     obtain ⟨rfl,-,-⟩:=Fj
     exact af QR
   obtain ⟨b,off,T6,hcl⟩:=(ZH.o wr ho.o).fst (by omega)
   obtain ⟨v0,v1⟩:=hcl k LH
   subst T6
   have y8:wr.cell? ⟨w1.heap.size+1,8,none⟩=some (.slice (some ⟨w1.heap.size,0,none⟩) m.regs.toNat m.regs.toNat):=by
    have hb:=(ho.o.block (w1.heap.size+1) (af C3.o.blk) (by omega)).trans C3.o.blk
    rw [ab hb]
    simp [lH]
   have hX:=sk LH
   have ZI:Θ (dT (List.replicate m.regs.toNat aE) 0 (l.take (k+1))=eL (dT (List.replicate m.regs.toNat aE) 0 (l.take k)) (bN (l.take k)) (nth aE l k)):=by
    show dT (List.replicate m.regs.toNat aE) 0 (l.take (k+1))=_
    rw [hX,tR,Nat.zero_add]
   have SW:Θ (bN (l.take (k+1))=bN (l.take k)+bN [nth aE l k]):=by
    show bN (l.take (k+1))=_
    rw [hX,jy]
   have ZJ:Θ (iE (dT (List.replicate m.regs.toNat aE) 0 (l.take k))):=a1
   have QG:Θ (m.regs.toNat=(dT (List.replicate m.regs.toNat aE) 0 (l.take k)).length):=a2.symm
   have H2:Θ ((nth aE l k).kind=2->bN (l.take k)+1<m.regs.toNat):=fun e=>by have:=a6 e;omega
   have UM:bN (l.take k)<m.regs.toNat:=by omega
   have C4:bN [nth aE l k]<=2:=by have:=Bm [nth aE l k];simp at this;omega
   have Fh:(0:Int)<=(k:Int):=by omega
   have PQ:(k:Int)<(l.length:Int):=by omega
   have Py:l.length<=2 ^ 63-1:=by have:=HL.o;omega
   have hne:b≠w1.heap.size:=by
    rcases SV with h0|⟨x',y',cs',f',Fj,QR,-⟩
    ·omega
    ·simp only [Option.some.injEq,Addr.mk.injEq] at Fj
     obtain ⟨rfl,-,-⟩:=Fj
     have:=af QR
     omega
   clear hcl hX a1 a2 a6 SV Xn
   generalize nth aE l k=V at *
   generalize bN (l.take k)=T at *
   generalize (dT (List.replicate m.regs.toNat aE) 0 (l.take k))=AL at *
   go_wp2
   go_region_held3 (fun w'=>w'.cell? ⟨w1.heap.size+1,8,none⟩=some (.slice (some ⟨w1.heap.size,0,none⟩) m.regs.toNat m.regs.toNat)/\w'.cell? ⟨b,off+k*2,none⟩=some (ι V.kind)/\w'.cell? ⟨b,off+k*2+1,none⟩=some (ι V.n))
    (go_keep)
    (first
     | (go_at_call 53;refine (IZ w1.heap.size AL T m.regs.toNat m.regs.toNat V _ (by exact ⟨hL.o.blk,hL.o.len⟩) ZJ.o QG.o UM H2.o).mono ?_;rintro e w2 ⟨rfl,l2,o2⟩;have O2:Θ (dU w1.heap.size W3 w2):=(dU.drew ho.o).trans o2;have u8:w2.cell? ⟨w1.heap.size+1,8,none⟩=some (.slice (some ⟨w1.heap.size,0,none⟩) m.regs.toNat m.regs.toNat):=(by have hb:=(O2.o.block (w1.heap.size+1) (af C3.o.blk) (by omega)).trans C3.o.blk;rw [ab hb];simp [lH]);have u0:w2.cell? ⟨b,off+k*2,none⟩=some (ι V.kind):=(by rw [<-v0];exact World.cell?_of_block (o2.block b (br v0) hne));have u1:w2.cell? ⟨b,off+k*2+1,none⟩=some (ι V.n):=(by rw [<-v1];exact World.cell?_of_block (o2.block b (br v1) hne))))
   go_wp2_with (go_at_call 54;refine (KN _ _ 1 [V] _ (LZ u0 u1) (by simp) rfl).mono ?_;rintro e w3 ⟨rfl,sJ⟩;rw [sJ];clear sJ w3)
   go_roundw
   case rel=>exact ⟨k+1,by omega,by go_num,by rw [SW.o];go_num,O2,by show cL _ _ _;rw [ZI.o];exact l2⟩
   case measure=>simp [intOf];omega
  ·obtain rfl:k=l.length:=by omega
   generalize bN (List.take l.length l)=TT at *
   rw [List.take_length] at hL
   have M9:Θ (aK w0 wr ⟨w1.heap.size+1,w1.heap.size,m.regs.toNat,P,CC,KA,pp,cc,kk⟩ (cv m l)):=by
    have:=C3.o.setLoc ho.o hL.o (by rw [List.take_length] at a2;rw [a2];simp)
    exact this
   have Xo:Θ (Hs w0 g wr p (h.enterH m l)):=dU.hs (H1.o.old JN.o) ho.o HC.o.k L3.o H1.o.base
   have O3:Θ (fI wr w.heap.size m P CC KA pp cc kk):=⟨(ho.o.block _ (by have:=JN.o.size;omega) (by omega)).trans ((JN.o.block _ vf).trans Oh.o.blk)⟩
   have AG:Θ (aC wr (w.heap.size+1) aE):=⟨(ho.o.block _ (by have:=JN.o.size;omega) (by omega)).trans ((JN.o.block _ UK).trans ko.o.blk)⟩
   have JJ:Θ (aC wr NB aE):=⟨(ho.o.block _ (by have:=JN.o.size;omega) (by omega)).trans ((JN.o.block _ UL).trans PO.o.blk)⟩
   have O4:Θ (Fr w0.heap.size g.T w wr):=by
    have f3:Fr w0.heap.size g.T w W3:=(HF.o.trans F1.o).trans (Fr.old H1.o.base JN.o)
    refine ⟨⟨ho.o.os.trans f3.bl.os,ho.o.tape.trans f3.bl.tape,ho.o.output.trans f3.bl.output,Nat.le_trans f3.bl.size ho.o.size,fun b hb=>(ho.o.block b (by have:=f3.bl.size;omega) (by omega)).trans (f3.bl.block b hb)⟩,fun b cs t f e n=>?_⟩
    have:=af e
    exact (ho.o.block b (by have:=f3.bl.size;omega) (by omega)).trans (f3.keep b cs t f e n)
   have ES:Θ (L2 w0 g p ⟨w1.heap.size+1,w1.heap.size,m.regs.toNat,P,CC,KA,pp,cc,kk⟩ m wr (h.enterH m l) N LP N (h.enterH m l) (cv m l) wr):=by
    have EB:=HB.o
    unfold Hp.enterB at EB
    rw [Bool.and_eq_true] at EB
    have hd:h.deep=false:=by simpa using EB.2
    have Rj:h.enterH m l={ h with calls:=h.calls+1 }:=by
     unfold Hp.enterH;rw [if_neg (by rw [EB.1];decide),if_neg (by rw [hd];decide)]
    have Qv:h.calls<20:=by
     unfold Hp.deep at hd;simpa using hd
    have gc:=nL UF.o A6.o HL.o UG.o UJ.o
    have g1:Gh 0 (h.enterH m l):=by
     have gh:=Xk.o
     rw [Rj]
     exact ⟨fun o ho x hx=>⟨(gh.held o ho x hx).ref,(gh.held o ho x hx).num⟩,gh.thr,gh.used,gh.steps,gh.fuel,gh.o,gh.len,gh.inp,by dsimp only;omega⟩
    refine ⟨Xo.o,M9.o,Fq.refl _ _ _ _,g1,by rw [Rj];exact Xl.o,by rw [Rj];dsimp only;omega,fun _=>?_,rfl,rfl,rfl,rfl,by rw [Rj];exact sK.o,Nat.le_refl _,Xm.o⟩
    rw [Rj]
    exact ⟨M8.o,⟨⟨gc.giv.ref,gc.giv.num⟩,⟨gc.cau.ref,gc.cau.num⟩,fun v hv=>⟨(gc.locs v hv).ref,(gc.locs v hv).num⟩,gc.ok,gc.len,gc.me,gc.mok⟩,Int.le_refl _,by show (0:Int)<=_;omega⟩
   have ZK:Θ (Env w0 g (h.enterH m l)):=by
    refine HE.o.of ?_ ?_<;>(unfold Hp.enterH;split;exact (by first|exact (gN h 6).file|exact (gN h 6).input);split;exact (by first|exact (gN h 5).file|exact (gN h 5).input);rfl)
   have hpw:p<w.heap.size:=by obtain ⟨vo,vx,hv,X⟩:=Xj.o;exact af X.blk
   obtain ⟨WA,ZL⟩:∃WA,WA=wr:=⟨wr,rfl⟩
   subst ZL
   clear HF HH HM HR HN HA HP HL HG Xk Xl UF A6 UG M8 sK Xm UJ ND F1 ko PO Oh H1 C3 L3 JN M9 Xo a1 a2 a3 a4 hL ho tG HB HE Xj
   generalize h.enterH m l=h0 at *
   generalize cv m l=c0 at *
   go_wp2
   (try (rename_i ZM ZN ZO;clear ZM))
   go_loopw [15] (fun _ wr=>∃(k:Nat) (h1:Hp) (c1:aL),Θ (L2 w0 g p ⟨w1.heap.size+1,w1.heap.size,m.regs.toNat,P,CC,KA,pp,cc,kk⟩ m WA h0 N LP k h1 c1 wr)) (fun _ wr=>o8 p h0.fuel wr)
   case atStart=>exact ⟨N,h0,c0,ES⟩
   case round =>
    obtain ⟨k,h1,c1,ll⟩:=hrel
    have n3:w.heap.size+1≠w1.heap.size+1:=by omega
    have n4:w.heap.size+1≠w1.heap.size:=by omega
    have Na:NB≠w1.heap.size+1:=by omega
    have n14:NB≠w1.heap.size:=by omega
    have n5:w.heap.size≠w1.heap.size+1:=by omega
    have n6:w.heap.size≠w1.heap.size:=by omega
    have BZ:w.heap.size+1≠p:=by omega
    have ZP:p≠w.heap.size+1:=by omega
    have CI:NB≠p:=by have:=PA.o;omega
    have ZQ:p≠NB:=Ne.symm CI
    have Hx:NB≠w.heap.size+1:=by have:=PA.o;omega
    have ZR:w.heap.size+1≠NB:=Ne.symm Hx
    have O7:w.heap.size<=w1.heap.size+1:=by omega
    have MN:w.heap.size<=w1.heap.size:=by omega
    have hst:0<=h1.sh.steps/\h1.sh.steps<=60000:=by have:=ll.o.gh.steps;have:=ll.o.gh.fuel;have:=ll.o.gh.o;omega
    cases JY:h1.stepB
    ·as_aux_lemma =>
     have vt:Θ (LP=(h1.step.leave,aE)):=ll.o.is.symm.trans (Iu JY)
     have yB:0<=h1.step.calls/\h1.step.calls<=20:=by rw [(jx h1).calls];exact ll.o.gh.calls
     repeat (first|(go_big_may;go_says (go_at_call 55;refine (xg w0 g HC.o.k p h1 _ ll.o.hs hst).mono ?_;rintro e w2 ⟨he,h2,f2⟩;rw [JY] at he;subst he;have Bu:=ae (And.intro h2 (ll.o.fq.trans f2.fq));obtain ⟨c4,f4⟩:=Hs.c4 Bu.o.1;obtain ⟨r0,r1,rf⟩:=aC.three (AG.o.fq HC.o.k (ll.o.fq.trans f2.fq) n3 n4);obtain ⟨I0,I7,-⟩:=aC.three (JJ.o.fq HC.o.k (ll.o.fq.trans f2.fq) Na n14);clear h2 f2 ll))|go_values|go_skip|go_guarded|go_step|go_upon|(simp only [Int.not_lt,Int.not_le] at *;go_simp)|(go_values<;>(try go_simp))|(go_ite<;>go_prune<;>(try go_simp)))
     (try simp only [Exit.inBlock,Exit.then])
     obtain ⟨⟨vo,vx,hv,nj⟩,sI⟩:=Bu.o
     have om:=AG.o.fq HC.o.k sI n3 n4
     refine bodyPost_ret (results_cell_row rfl _ _ (w.heap.size+1) _ _ _ _ rfl ((om.far BZ).set aE).blk underlying62 rfl bC) rfl ?_
     rw [vt.o]
     exact ⟨rfl,⟨vo,vx,hv,(nj.leave HC.o.k).cf ((om.far BZ).cf HC.o.k iB _ _)⟩,((((Fq.fr O4.o sI O7 MN).trans (nj.frSet 4 _)).new lI iB _).new lI iB _)⟩
    ·have EC:=JY
     unfold Hp.stepB at EC
     simp at EC
     obtain ⟨k',rfl⟩:∃k',k=k'+1:=⟨k-1,by have:=ll.o.left;omega⟩
     have hle:=jx h1
     have O8:h1.step={ h1 with sh:={ h1.sh with steps:=h1.sh.steps+1 } }:=by unfold Hp.step;rw [if_neg (by rw [EC.1];decide),if_neg (by omega)]
     obtain ⟨Rk,NU,Rl⟩:=ll.o.inv EC.1
     have L5:Θ (h1.step.over=false):=by show h1.step.over=false;rw [O8];exact EC.1
     have Xq:Θ (h1.step.thrown=-1):=by show h1.step.thrown=-1;rw [O8];exact Rk
     have G2:Θ (Gh 1 h1.step):=ll.o.gh.step JY
     have Xr:Θ (Kd h1.step):=ll.o.kd.step
     have E2:Θ (Gc h1.step c1):=NU.le hle
     have sS:Θ (0<=c1.pc/\c1.pc<=c1.m.code.length):=Rl
     have oa:Θ (c1.m=m):=ll.o.me
     have UN:Θ ((h1.step.fuel-h1.step.sh.steps).toNat<=k'):=by
      show (h1.step.fuel-h1.step.sh.steps).toNat<=k'
      have:=ll.o.left
      rw [O8];dsimp only;omega
     have UO:Θ (k'<N):=by have:=ll.o.le;show k'<N;omega
     have yh:Θ (Env w0 g h1.step):=ZK.o.of (hle.file.trans ll.o.file) (hle.input.trans ll.o.inp)
     have MU:Θ (h1.step.file=h0.file/\h1.step.input=h0.input/\h1.step.fuel=h0.fuel):=⟨hle.file.trans ll.o.file,hle.input.trans ll.o.inp,hle.fuel.trans ll.o.fuel⟩
     have Xs:Θ (1<=h1.step.calls):=by show 1<=h1.step.calls;rw [hle.calls];exact ll.o.calls
     have UQ:Θ (LP=gw (cn k') h1.step c1):=by
      show LP=_
      rw [<-ll.o.is]
      show (if h1.stepB=false then _ else _)=_
      rw [if_neg (by rw [JY];decide)]
     have Xt:Θ (o8 p h0.fuel wr=(h0.fuel-(h1.step.sh.steps-1)).toNat/\h1.step.sh.steps<=h0.fuel/\1<=h1.step.sh.steps):=by
      refine ⟨(vZ ll.o.hs _).trans ?_,?_,?_⟩
      ·rw [O8];dsimp only;congr 1;omega
      ·have:=ll.o.fuel;rw [O8];dsimp only;omega
      ·have:=ll.o.gh.o;rw [O8];dsimp only;omega
     have SA:Θ (χ 55 #[π p 0] wr fun e w'=>e=.returned (.bool true)/\Hs w0 g w' p h1.step/\Fr w0.heap.size g.T wr w'):=(xg w0 g HC.o.k p h1 _ ll.o.hs hst).mono fun e w' hh=>⟨by rw [hh.1,JY],hh.2⟩
     have UR:=ae ll.o.cs
     have NN:=ae ll.o.fq
     clear JY EC O8 hle Rk NU Rl hst ll
     generalize h1.step=h2 at *
     by_cases Bh:c1.pc<m.code.length
     ·have JH:=sS.o
      obtain ⟨n,hn⟩:∃n:Nat,c1.pc=n:=⟨c1.pc.toNat,by omega⟩
      have HN:=ae hn
      have py:n<m.code.length:=by omega
      have wB:m.code.length<=2 ^ 63-1:=by have:=sU.o.2.1.1;unfold maxLen at this;omega
      have ig:(0:Int)<=(n:Int):=by omega
      have fT:(n:Int)<(m.code.length:Int):=by omega
      obtain ⟨xb,xo,Qa,qq,Xv,SM,TZ⟩:∃xb xo Qa qq,CC=some ⟨xb,xo,none⟩/\Θ (∀w',Bl w0 w'->w'.cell? ⟨xb,xo+n*6,none⟩=some (ι (nth eR m.code n).op)/\w'.cell? ⟨xb,xo+n*6+1,none⟩=some (ι (nth eR m.code n).a)/\w'.cell? ⟨xb,xo+n*6+2,none⟩=some (ι (nth eR m.code n).b)/\w'.cell? ⟨xb,xo+n*6+3,none⟩=some (ι (nth eR m.code n).c)/\w'.cell? ⟨xb,xo+n*6+4,none⟩=some (ι (nth eR m.code n).n)/\w'.cell? ⟨xb,xo+n*6+5,none⟩=some (.slice Qa (nth eR m.code n).args.length qq))/\Θ (aU w0 Qa (nth eR m.code n).args):=by
       rcases sU.o.2.1.2 with X7|⟨xb,xo,hX,hc⟩
       ·omega
       obtain ⟨e0,e1,e2,e3,e4,-,Qa,qq,e5,e6⟩:=hc n py
       exact ⟨xb,xo,Qa,qq,hX,fun w' hb=>⟨hb.cell e0,hb.cell e1,hb.cell e2,hb.cell e3,hb.cell e4,hb.cell e5⟩,e6⟩
      have ZS:=ae Xv
      have hd:decide ((n:Int)<(m.code.length:Int))=true:=decide_eq_true fT
      have Gk:(!h2.over)=true:=by rw [L5.o];rfl
      have yi:Θ (pM h2.file.classes h2.file.methods c1.m.code.length c1.m.regs c1.m.ret.kind (nth eR m.code n)/\(nth eR m.code n).ok):=by
       have:=nO E2.o ⟨by omega,by rw [oa.o];omega⟩
       rw [hn,Int.toNat_natCast] at this
       rw [<-oa.o];exact this
      have O9:Θ (LP=if (nth eR m.code n).op=20 then lx h2 c1 (nth eR m.code n) else dM (cn k') (j9 k' h2 c1 (nth eR m.code n))):=by
       show LP=_
       have e1:h2.mustB (decide (c1.pc<c1.m.code.length))=true:=by rw [mg h2 L5.o,oa.o];exact decide_eq_true Bh
       rw [UQ.o]
       unfold gw
       rw [if_neg (by rw [e1];decide),hn,Int.toNat_natCast,oa.o]
       rfl
      clear JH hn Bh Xv UQ
      generalize (nth eR m.code n)=I at *
      go_wp2_with (go_at_call 55;refine SA.o.mono ?_;rintro e w2 ⟨rfl,th,f2⟩;have Nb:=ae (NN.o.trans f2.fq);have F2:=ae f2;have tG:=ae th;have Pb:=aK.fr UR.o HC.o.k HC.o.n7 f2;have d13:w2.cell? ⟨w1.heap.size+1,13,none⟩=some (ι (n:Int)):=(by rw [<-HN.o];exact Pb.cells.c13);have m6:=(O3.o.fq HC.o.k Nb.o n5 n6).cells.c6;rw [ZS.o] at m6;have Rm:=ae Pb;obtain ⟨i0,i1,i2,i3,i4,i5⟩:=SM.o w2 th.bl;have BD:=af Pb.blk;have ET:=af (O3.o.fq HC.o.k Nb.o n5 n6).blk;have pO:=br i0;clear Pb f2 th)
      go_region_held3 (fun w'=>w'.cell? ⟨w1.heap.size+1,13,none⟩=some (ι (n:Int))/\w'.cell? ⟨w.heap.size,6,none⟩=some (.slice (some ⟨xb,xo,none⟩) m.code.length cc))
       (go_keep)
       (first
        | (go_at_call 56;refine (fU w0 g p h2 _ (by first|exact tG.o.cf (Cf.drew (Cf.refl _ _ _))|exact tG.o)).mono ?_;rintro e w3 ⟨he,sJ⟩;rw [Gk] at he;subst he;rw [sJ];clear sJ w3))
      (try (rename_i ZT;clear ZT))
      go_wp2
      go_region_held3 (fun w'=>w'.cell? ⟨w1.heap.size+1,13,none⟩=some (ι (n:Int))/\w'.cell? ⟨w.heap.size,6,none⟩=some (.slice (some ⟨xb,xo,none⟩) m.code.length cc)/\w'.cell? ⟨xb,xo+n*6,none⟩=some (ι I.op)/\w'.cell? ⟨xb,xo+n*6+1,none⟩=some (ι I.a)/\w'.cell? ⟨xb,xo+n*6+2,none⟩=some (ι I.b)/\w'.cell? ⟨xb,xo+n*6+3,none⟩=some (ι I.c)/\w'.cell? ⟨xb,xo+n*6+4,none⟩=some (ι I.n)/\w'.cell? ⟨xb,xo+n*6+5,none⟩=some (.slice Qa I.args.length qq))
       (go_keep)
       (fail)
      (try (rename_i ZU;clear ZU))
      have US:p<w2.heap.size:=by obtain ⟨wR,wS,FE,X'⟩:=tG.o;exact af X'.blk
      have UT:w.heap.size+1<w2.heap.size:=af (AG.o.fq HC.o.k Nb.o n3 n4).blk
      have UU:NB<w2.heap.size:=af (JJ.o.fq HC.o.k Nb.o Na n14).blk
      obtain ⟨V5,SX⟩:∃V5,V5=(w2.alloc (.cells #[ι I.op,ι I.a,ι I.b,ι I.c,ι I.n,.slice Qa I.args.length qq] 55)).drew.drew:=⟨_,rfl⟩
      obtain ⟨ib,Si⟩:∃ib,ib=w2.heap.size:=⟨_,rfl⟩
      rw [<-SX,<-Si]
      have Rn:Bl w2 V5:=by rw [SX];exact ((Bl.refl w2).alloc _).drew.drew
      have SY:Θ (Hs w0 g V5 p h2):=tG.o.old Rn
      have JO:Θ (aK w0 V5 ⟨w1.heap.size+1,w1.heap.size,m.regs.toNat,P,CC,KA,pp,cc,kk⟩ c1):=Rm.o.old Rn
      have L7:Θ (Fq w0.heap.size g.T ⟨w1.heap.size+1,w1.heap.size,m.regs.toNat,P,CC,KA,pp,cc,kk⟩ WA V5):=Nb.o.trans (Fr.fq (Fr.old tG.o.base Rn))
      have Ro:Θ (cP V5 ib I.op I.a I.b I.c I.n Qa I.args.length qq):=⟨by rw [SX,Si];exact (aB w2 _ _)⟩
      have Xw:Θ (fI V5 w.heap.size m P CC KA pp cc kk):=O3.o.fq HC.o.k L7.o n5 n6
      have UW:=af Ro.o.blk
      have ZV:w2.heap.size<=ib:=by omega
      have ZW:ib≠w1.heap.size+1:=by omega
      have ZX:w1.heap.size+1≠ib:=by omega
      have kD:=Rn.size
      clear SX Rn i0 i1 i2 i3 i4 i5 d13 m6
      have PE:=SY.o.base
      have j0:=Ro.o.cs.1
      have ZY:=af JO.o.blk
      have ZZ:=af JO.o.loc.blk
      dsimp only at ZY ZZ
      have Yv:p<V5.heap.size:=by omega
      have hr5:w.heap.size+1<V5.heap.size:=by omega
      have Xi:NB<V5.heap.size:=by omega
      have hm5:w.heap.size<V5.heap.size:=by omega
      have YZ:w.heap.size≠V5.heap.size:=by omega
      have n21:V5.heap.size≠p:=by omega
      have Zu:p≠V5.heap.size:=by omega
      have n22:V5.heap.size≠w.heap.size+1:=by omega
      have Z0:w.heap.size+1≠V5.heap.size:=by omega
      have n23:V5.heap.size≠w1.heap.size+1:=by omega
      have n24:V5.heap.size≠w1.heap.size:=by omega
      have n25:V5.heap.size≠NB:=by omega
      have n26:NB≠V5.heap.size:=by omega
      clear Si ZV kD US UT UU BD ET pO tG Rm F2 Nb
      by_cases hop:I.op=20
      ·by_cases C6:m.ret.kind=0
       ·as_aux_lemma =>
        have vt:Θ (LP=(h2.leave,aE)):=by
         show LP=_
         rw [O9.o,if_pos hop]
         unfold lx
         rw [if_pos (by rw [oa.o];exact C6)]
        have hz:(I.op==20)=true:=by simpa using hop
        have Z1:(m.ret.kind !=0)=false:=by simpa using C6
        have yB:0<=h2.calls/\h2.calls<=20:=G2.o.calls
        have m1:=Xw.o.cells.c1
        clear hop C6
        have Bu:=ae (And.intro SY.o L7.o)
        obtain ⟨c4,f4⟩:=Hs.c4 Bu.o.1
        obtain ⟨r0,r1,rf⟩:=aC.three (AG.o.fq HC.o.k L7.o n3 n4)
        obtain ⟨I0,I7,-⟩:=aC.three (JJ.o.fq HC.o.k L7.o Na n14)
        repeat (first|go_values|go_skip|go_guarded|go_step|go_upon|(simp only [Int.not_lt,Int.not_le] at *;go_simp)|(go_values<;>(try go_simp))|(go_ite<;>go_prune<;>(try go_simp)))
        (try simp only [Exit.inBlock,Exit.then])
        obtain ⟨⟨vo,vx,hv,nj⟩,sI⟩:=Bu.o
        have om:=AG.o.fq HC.o.k sI n3 n4
        have Xx:=((om.far BZ).set aE:aC (((V5.setCell ⟨p,4,none⟩ (ι (h2.calls-1))).setCell ⟨w.heap.size+1,0,none⟩ (ι aE.kind)).setCell ⟨w.heap.size+1,1,none⟩ (ι aE.n)) (w.heap.size+1) aE).blk
        refine bodyPost_ret (results_cell_row rfl _ _ (w.heap.size+1) _ _ _ _ rfl (fH (o':=eI) (af Xx) Xx) underlying62 rfl bC) rfl ?_
        rw [vt.o]
        have Xy:Hs w0 g (((V5.setCell ⟨p,4,none⟩ (ι (h2.calls-1))).setCell ⟨w.heap.size+1,0,none⟩ (ι aE.kind)).setCell ⟨w.heap.size+1,1,none⟩ (ι aE.n)) p h2.leave:=⟨vo,vx,hv,(nj.leave HC.o.k).cf ((om.far BZ).cf HC.o.k iB _ _)⟩
        have Z2:Fr w0.heap.size g.T w (((V5.setCell ⟨p,4,none⟩ (ι (h2.calls-1))).setCell ⟨w.heap.size+1,0,none⟩ (ι aE.kind)).setCell ⟨w.heap.size+1,1,none⟩ (ι aE.n)):=((((Fq.fr O4.o sI O7 MN).trans (nj.frSet 4 _)).new lI iB _).new lI iB _)
        exact ⟨rfl,Xy.old ((Bl.refl _).alloc _),Z2.trans (Fr.old Xy.base ((Bl.refl _).alloc _))⟩
       ·as_aux_lemma =>
        have hz:(I.op==20)=true:=by simpa using hop
        have Z1:(m.ret.kind !=0)=true:=by simpa using C6
        have qi:0<=I.a/\I.a<c1.locs.length:=by
         have e1:=yi.o.1.ret hop (by rw [oa.o];exact C6)
         have e2:=E2.o.len
         omega
        have MO:Θ ((c1.rd I.a).kind=3->(c1.rd I.a).n<(h2.rdH c1 I.a m.ret.kind).objs.length):=fun e=>by rw [eO];exact ((E2.o.rd (a:=I.a) (by have:=E2.o.len;omega)).ref e).2
        have Rp:Θ (LP=(((h2.rdH c1 I.a m.ret.kind).must (!(h2.rdH c1 I.a m.ret.kind).over&&(h2.rdH c1 I.a m.ret.kind).of (c1.rd I.a) m.ret)).leave,(c1.rd I.a))):=by
         show LP=_
         rw [O9.o,if_pos hop]
         unfold lx
         rw [if_neg (by rw [oa.o];exact C6),oa.o]
        have Xz:=ae ((yh.o.cq.same (dW h2 c1 I.a m.ret.kind)).cw)
        have Z5:=ae yh.o.cq
        have yB:0<=(h2.rdH c1 I.a m.ret.kind).calls/\(h2.rdH c1 I.a m.ret.kind).calls<=20:=by rw [(dP h2 c1 I.a m.ret.kind).calls];exact G2.o.calls
        have j1:=Ro.o.cs.2.1
        have m1:=Xw.o.cells.c1
        have SZ:Bl V5 (V5.alloc (.cells #[ι 0,ι 0] 62)):=(Bl.refl _).alloc _
        have Ak:Θ (Hs w0 g (V5.alloc (.cells #[ι 0,ι 0] 62)) p h2):=SY.o.old SZ
        have EE:Θ (aK w0 (V5.alloc (.cells #[ι 0,ι 0] 62)) ⟨w1.heap.size+1,w1.heap.size,m.regs.toNat,P,CC,KA,pp,cc,kk⟩ c1):=JO.o.old SZ
        have I9:Θ (Fq w0.heap.size g.T ⟨w1.heap.size+1,w1.heap.size,m.regs.toNat,P,CC,KA,pp,cc,kk⟩ WA (V5.alloc (.cells #[ι 0,ι 0] 62))):=L7.o.trans (Fr.fq (Fr.old PE SZ))
        have Z6:Θ (aC (V5.alloc (.cells #[ι 0,ι 0] 62)) V5.heap.size aE):=⟨cK rfl⟩
        obtain ⟨I0,I7,-⟩:=aC.three (JJ.o.fq HC.o.k L7.o Na n14)
        clear hop C6 SZ
        repeat (first|(go_big_may;go_says (go_at_call 74;refine (bQ w0 g p h2 ⟨w1.heap.size+1,w1.heap.size,m.regs.toNat,P,CC,KA,pp,cc,kk⟩ c1 I.a m.ret.kind _ Ak.o EE.o Z5.o qi).mono ?_;rintro e w7 ⟨rfl,h7,f7⟩;have B7:=ae (Z6.o.keep HC.o.k f7);have u0:=B7.o.c0;have u1:=B7.o.c1;have uf:=B7.o.fr;have H7:=ae h7;have F7:=ae f7;clear h7 f7))|go_values|go_skip|go_guarded|go_step|go_upon|(simp only [Int.not_lt,Int.not_le] at *;go_simp)|(go_values<;>(try go_simp))|(go_ite<;>go_prune<;>(try go_simp)))
        have UX:Θ (Hs w0 g ((w7.setCell ⟨V5.heap.size,0,none⟩ (ι (c1.rd I.a).kind)).setCell ⟨V5.heap.size,1,none⟩ (ι (c1.rd I.a).n)) p (h2.rdH c1 I.a m.ret.kind)):=H7.o.cf (B7.o.cf HC.o.k PE _ _)
        have XC:Fr w0.heap.size g.T V5 ((w7.setCell ⟨V5.heap.size,0,none⟩ (ι (c1.rd I.a).kind)).setCell ⟨V5.heap.size,1,none⟩ (ι (c1.rd I.a).n)):=(((Fr.old PE ((Bl.refl _).alloc _)).trans F7.o).new (Nat.le_refl _) PE _).new (Nat.le_refl _) PE _
        have F8:Θ (Fq w0.heap.size g.T ⟨w1.heap.size+1,w1.heap.size,m.regs.toNat,P,CC,KA,pp,cc,kk⟩ WA ((w7.setCell ⟨V5.heap.size,0,none⟩ (ι (c1.rd I.a).kind)).setCell ⟨V5.heap.size,1,none⟩ (ι (c1.rd I.a).n))):=L7.o.trans XC.fq
        have B8:Θ (aC ((w7.setCell ⟨V5.heap.size,0,none⟩ (ι (c1.rd I.a).kind)).setCell ⟨V5.heap.size,1,none⟩ (ι (c1.rd I.a).n)) V5.heap.size (c1.rd I.a)):=B7.o.set (c1.rd I.a)
        have XD:Θ (fI ((w7.setCell ⟨V5.heap.size,0,none⟩ (ι (c1.rd I.a).kind)).setCell ⟨V5.heap.size,1,none⟩ (ι (c1.rd I.a).n)) w.heap.size m P CC KA pp cc kk):=O3.o.fq HC.o.k F8.o n5 n6
        have Su:Θ (∀w',Fr w0.heap.size g.T ((w7.setCell ⟨V5.heap.size,0,none⟩ (ι (c1.rd I.a).kind)).setCell ⟨V5.heap.size,1,none⟩ (ι (c1.rd I.a).n)) w'->(fun w'=>w'.cell? ⟨V5.heap.size,0,none⟩=some (ι (c1.rd I.a).kind)/\w'.cell? ⟨V5.heap.size,1,none⟩=some (ι (c1.rd I.a).n)/\w'.cell? ⟨w.heap.size,1,none⟩=some (ι m.ret.kind)/\w'.cell? ⟨w.heap.size,2,none⟩=some (ι m.ret.cls)) w'):=fun w' f=>⟨(B8.o.keep HC.o.k f).c0,(B8.o.keep HC.o.k f).c1,(XD.o.fr HC.o.k f).cells.c1,(XD.o.fr HC.o.k f).cells.c2⟩
        have SP:=ae (Su.o _ (Fr.refl _ _ _))
        have mD:((w7.setCell ⟨V5.heap.size,0,none⟩ (ι (c1.rd I.a).kind)).setCell ⟨V5.heap.size,1,none⟩ (ι (c1.rd I.a).n)).cell? ⟨p,12,none⟩=some (.bool (h2.rdH c1 I.a m.ret.kind).over):=by obtain ⟨wR,wS,FE,X'⟩:=UX.o;exact X'.cells.c12
        clear u0 u1 uf XC
        cases cY:(h2.rdH c1 I.a m.ret.kind).over
        ·rw [cY] at mD
         obtain ⟨R,hR⟩:∃R,(h2.rdH c1 I.a m.ret.kind).of (c1.rd I.a) ⟨m.ret.kind,m.ret.cls⟩=R:=⟨_,rfl⟩
         have QZ:=ae hR
         have vt:Θ (LP=(((h2.rdH c1 I.a m.ret.kind).must R).leave,(c1.rd I.a))):=by
          show LP=_
          rw [Rp.o,cY]
          show (((h2.rdH c1 I.a m.ret.kind).must (true&&(h2.rdH c1 I.a m.ret.kind).of (c1.rd I.a) ⟨m.ret.kind,m.ret.cls⟩)).leave,(c1.rd I.a))=_
          rw [hR];rfl
         have yB:0<=((h2.rdH c1 I.a m.ret.kind).must R).calls/\((h2.rdH c1 I.a m.ret.kind).must R).calls<=20:=by rw [(dw (h2.rdH c1 I.a m.ret.kind) R).calls];exact yB
         clear hR
         refine wp_region_held_drew (S:=fun w'=>w'.cell? ⟨V5.heap.size,0,none⟩=some (ι (c1.rd I.a).kind)/\w'.cell? ⟨V5.heap.size,1,none⟩=some (ι (c1.rd I.a).n)/\w'.cell? ⟨w.heap.size,1,none⟩=some (ι m.ret.kind)/\w'.cell? ⟨w.heap.size,2,none⟩=some (ι m.ret.cls)) (by kernel_rfl) ?_ (fun aa=>?_)
         ·exact SP.o
         iterate 7 (refine tn rfl (by kernel_rfl) (fun _ _ _ h=>h) (by intro _ h;go_split_ands;go_simp<;>with_reducible rfl) aa ?_;try simp only [aZ])
         refine aY (i:=7) (by kernel_rfl) rfl fun K hK=>?_
         go_wp2_with fail
         refine hK.out _ _ (aa) (fun ah=>?_)
         try simp only [aZ]
         iterate 8 (refine tn rfl (by kernel_rfl) (fun _ _ _ h=>h) (by intro _ h;go_split_ands;go_simp<;>with_reducible rfl) ah ?_;try simp only [aZ])
         refine aY (i:=16) (by kernel_rfl) rfl fun K hK=>?_
         rw [if_pos]
         rotate_left 1
         ·rfl
         go_simp
         go_at_call 58
         refine (jd w0 g p (h2.rdH c1 I.a m.ret.kind) (c1.rd I.a) ⟨m.ret.kind,m.ret.cls⟩ _ (UX.o.drewN 1) Xz.o.cls Xz.o.tree MO.o).mono ?_
         rintro e w9 ⟨he,h9,f9,b9⟩
         rw [QZ.o] at he
         subst he
         have F9:=ae (((Fr.refl w0.heap.size g.T ((w7.setCell ⟨V5.heap.size,0,none⟩ (ι (c1.rd I.a).kind)).setCell ⟨V5.heap.size,1,none⟩ (ι (c1.rd I.a).n))).drewN 1).trans f9)
         have d9:=ae (Su.o _ F9.o)
         have H9:=ae h9
         clear h9 f9 b9
         go_wp2_with fail
         refine hK.out _ _ (d9.o) (fun aH=>?_)
         try simp only [aZ]
         refine tn rfl (by kernel_rfl) (fun _ _ _ h=>h) (by intro _ h;go_split_ands;go_simp<;>with_reducible rfl) aH ?_
         try simp only [aZ]
         refine aY (i:=18) (by kernel_rfl) rfl fun K hK=>?_
         go_simp
         go_at_call 56
         refine (bZ w0 g HC.o.k p (h2.rdH c1 I.a m.ret.kind) R _ H9.o).mono ?_
         rintro e Z7 ⟨rfl,rT,f10⟩
         have d10:=ae (Su.o _ (F9.o.trans f10))
         have UY:=ae ((B8.o).keep HC.o.k (F9.o.trans f10))
         have Pd:=ae (F8.o.trans (F9.o.trans f10).fq)
         have Rq:=ae rT
         clear rT f10
         go_wp2_with fail
         refine hK.out _ _ (d10.o) (fun bG=>?_)
         try simp only [aZ]
         refine wpAnyH_done (by kernel_rfl) ?_ _
         have Pe:=Rq.o
         obtain ⟨vo,vx,hv,nj⟩:=Pe
         have c4:=nj.cells.c4
         have f4:=nj.free 4
         obtain ⟨r0,r1,rf⟩:=aC.three (AG.o.fq HC.o.k Pd.o n3 n4)
         obtain ⟨k0,k1,-⟩:=aC.three UY.o
         clear nj
         repeat (first|go_values|go_skip|go_guarded|go_step|go_upon|(simp only [Int.not_lt,Int.not_le] at *;go_simp)|(go_values<;>(try go_simp))|(go_ite<;>go_prune<;>(try go_simp)))
         (try simp only [Exit.inBlock,Exit.then])
         obtain ⟨vo,vx,hv,nj⟩:=Rq.o
         have om:=AG.o.fq HC.o.k Pd.o n3 n4
         refine bodyPost_ret (results_cell_row rfl _ _ (w.heap.size+1) _ _ _ _ rfl ((om.far BZ).set (c1.rd I.a)).blk underlying62 rfl bC) rfl ?_
         rw [vt.o]
         exact ⟨rfl,⟨vo,vx,hv,(nj.leave HC.o.k).cf ((om.far BZ).cf HC.o.k iB _ _)⟩,((((Fq.fr O4.o Pd.o O7 MN).trans (nj.frSet 4 _)).new lI iB _).new lI iB _)⟩
        ·rw [cY] at mD
         have vt:Θ (LP=(((h2.rdH c1 I.a m.ret.kind).must false).leave,(c1.rd I.a))):=by
          show LP=_
          rw [Rp.o,cY]
          rfl
         have yB:0<=((h2.rdH c1 I.a m.ret.kind).must false).calls/\((h2.rdH c1 I.a m.ret.kind).must false).calls<=20:=by rw [(dw (h2.rdH c1 I.a m.ret.kind) false).calls];exact yB
         refine wp_region_held_drew (S:=fun w'=>w'.cell? ⟨V5.heap.size,0,none⟩=some (ι (c1.rd I.a).kind)/\w'.cell? ⟨V5.heap.size,1,none⟩=some (ι (c1.rd I.a).n)/\w'.cell? ⟨w.heap.size,1,none⟩=some (ι m.ret.kind)/\w'.cell? ⟨w.heap.size,2,none⟩=some (ι m.ret.cls)) (by kernel_rfl) ?_ (fun aa=>?_)
         ·exact SP.o
         iterate 7 (refine tn rfl (by kernel_rfl) (fun _ _ _ h=>h) (by intro _ h;go_split_ands;go_simp<;>with_reducible rfl) aa ?_;try simp only [aZ])
         refine aY (i:=7) (by kernel_rfl) rfl fun K hK=>?_
         go_wp2_with fail
         refine hK.out _ _ (aa) (fun ah=>?_)
         try simp only [aZ]
         iterate 2 (refine tn rfl (by kernel_rfl) (fun _ _ _ h=>h) (by intro _ h;go_split_ands;go_simp<;>with_reducible rfl) ah ?_;try simp only [aZ])
         refine eE (i:=10) (d:=some 106) rfl rfl (by kernel_rfl) (by kernel_rfl) (by kernel_rfl) (fun _ _ _ h=>h) (by rfl) ah ?_
         try simp only [aZ]
         refine eE (i:=11) (d:=some 107) rfl rfl (by kernel_rfl) (by kernel_rfl) (by kernel_rfl) (fun _ _ _ h=>h) (by rfl) ah ?_
         try simp only [aZ]
         refine eE (i:=12) (d:=some 108) rfl rfl (by kernel_rfl) (by kernel_rfl) (by kernel_rfl) (fun _ _ _ h=>h) (by rfl) ah ?_
         try simp only [aZ]
         refine eE (i:=13) (d:=some 109) rfl rfl (by kernel_rfl) (by kernel_rfl) (by kernel_rfl) (fun _ _ _ h=>h) (by rfl) ah ?_
         try simp only [aZ]
         refine eE (i:=14) (d:=some 110) rfl rfl (by kernel_rfl) (by kernel_rfl) (by kernel_rfl) (fun _ _ _ h=>h) (by rfl) ah ?_
         try simp only [aZ]
         refine eE (i:=15) (d:=some 111) rfl rfl (by kernel_rfl) (by kernel_rfl) (by kernel_rfl) (fun _ _ _ h=>h) (by rfl) ah ?_
         try simp only [aZ]
         refine eE (i:=16) (d:=some 112) rfl rfl (by kernel_rfl) (by kernel_rfl) (by kernel_rfl) (fun _ _ _ h=>h) (by rfl) ah ?_
         try simp only [aZ]
         refine tn rfl (by kernel_rfl) (fun _ _ _ h=>h) (by intro _ h;go_split_ands;go_simp<;>with_reducible rfl) ah ?_
         try simp only [aZ]
         refine aY (i:=18) (by kernel_rfl) rfl fun K hK=>?_
         go_simp
         go_at_call 56
         refine (bZ w0 g HC.o.k p (h2.rdH c1 I.a m.ret.kind) false _ (UX.o.drewN 1)).mono ?_
         rintro e Z7 ⟨rfl,rT,f10⟩
         have d10:=ae (Su.o _ (((Fr.refl w0.heap.size g.T ((w7.setCell ⟨V5.heap.size,0,none⟩ (ι (c1.rd I.a).kind)).setCell ⟨V5.heap.size,1,none⟩ (ι (c1.rd I.a).n))).drewN 1).trans f10))
         have UY:=ae ((B8.o).keep HC.o.k (((Fr.refl w0.heap.size g.T ((w7.setCell ⟨V5.heap.size,0,none⟩ (ι (c1.rd I.a).kind)).setCell ⟨V5.heap.size,1,none⟩ (ι (c1.rd I.a).n))).drewN 1).trans f10))
         have Pd:=ae (F8.o.trans (((Fr.refl w0.heap.size g.T ((w7.setCell ⟨V5.heap.size,0,none⟩ (ι (c1.rd I.a).kind)).setCell ⟨V5.heap.size,1,none⟩ (ι (c1.rd I.a).n))).drewN 1).trans f10).fq)
         have Rq:=ae rT
         clear rT f10
         go_wp2_with fail
         refine hK.out _ _ (d10.o) (fun aH=>?_)
         try simp only [aZ]
         refine wpAnyH_done (by kernel_rfl) ?_ _
         have Pe:=Rq.o
         obtain ⟨vo,vx,hv,nj⟩:=Pe
         have c4:=nj.cells.c4
         have f4:=nj.free 4
         obtain ⟨r0,r1,rf⟩:=aC.three (AG.o.fq HC.o.k Pd.o n3 n4)
         obtain ⟨k0,k1,-⟩:=aC.three UY.o
         clear nj
         repeat (first|go_values|go_skip|go_guarded|go_step|go_upon|(simp only [Int.not_lt,Int.not_le] at *;go_simp)|(go_values<;>(try go_simp))|(go_ite<;>go_prune<;>(try go_simp)))
         (try simp only [Exit.inBlock,Exit.then])
         obtain ⟨vo,vx,hv,nj⟩:=Rq.o
         have om:=AG.o.fq HC.o.k Pd.o n3 n4
         refine bodyPost_ret (results_cell_row rfl _ _ (w.heap.size+1) _ _ _ _ rfl ((om.far BZ).set (c1.rd I.a)).blk underlying62 rfl bC) rfl ?_
         rw [vt.o]
         exact ⟨rfl,⟨vo,vx,hv,(nj.leave HC.o.k).cf ((om.far BZ).cf HC.o.k iB _ _)⟩,((((Fq.fr O4.o Pd.o O7 MN).trans (nj.frSet 4 _)).new lI iB _).new lI iB _)⟩
      ·have hz:(I.op==20)=false:=by simpa using hop
       have UZ:Θ (LP=dM (cn k') (j9 k' h2 c1 I)):=by show LP=_;rw [O9.o,if_neg hop]
       have KD:Θ (Kept h2 c1 (j9 k' h2 c1 I)):=KQ yh.o.may G2.o Xr.o E2.o L5.o Xq.o yi.o.1 yi.o.2 hop ⟨by rw [HN.o];omega,by rw [HN.o,oa.o];omega⟩
       have dC:=ae hop
       have g9:=JO.o.cells.c9
       have Od:=JO.o.cells.c10
       have PX:=JO.o.cells.c11
       have PY:=JO.o.cells.c12
       have Rr:V5.cell? ⟨w1.heap.size+1,13,none⟩=some (ι (n:Int)):=by rw [<-HN.o];exact JO.o.cells.c13
       have gf:=JO.o.free
       dsimp only at g9 Od PX PY gf
       obtain ⟨I0,I7,-⟩:=aC.three (JJ.o.fq HC.o.k L7.o Na n14)
       obtain ⟨-,j1,j2,j3,j4,j5⟩:=Ro.o.cs
       have XE:=Lu SY.o JO.o yh.o.cq
       dsimp only at XE
       obtain ⟨Rs,XF,XG,Rt,Rv,BI⟩:=XE
       have JP:=ae Rs
       have AH:=ae XF
       have E3:=ae (L7.o.trans XG)
       have Rt:=ae Rt
       have Rv:=ae Rv
       have Rx:Θ (cP ((((((V5.setCell ⟨w1.heap.size+1,9,none⟩ (ι aE.kind)).setCell ⟨w1.heap.size+1,10,none⟩ (ι aE.n)).setCell ⟨w1.heap.size+1,11,none⟩ (ι aE.kind)).setCell ⟨w1.heap.size+1,12,none⟩ (ι aE.n)).alloc (.cells #[ι c1.giv.kind,ι c1.giv.n] 62)).alloc (.cells #[ι c1.cau.kind,ι c1.cau.n] 62)) ib I.op I.a I.b I.c I.n Qa I.args.length qq):=⟨(BI ib ZW UW).trans Ro.o.blk⟩
       clear hop Rs XF XG BI
       have Fk:(I.op=19/\c1.giv.kind=I.b)∨(I.op=19/\c1.giv.kind≠I.b)∨(I.op=22/\c1.cau.kind=3)∨(I.op=22/\c1.cau.kind≠3)∨(I.op≠19/\I.op≠22):=by omega
       refine Fk.elim (fun hw=>?Uu) fun Fk=>Fk.elim (fun hw=>?U0) fun Fk=>Fk.elim (fun hw=>?U1) fun Fk=>Fk.elim (fun hw=>?U7) (fun hw=>?Z8)
       case' Uu =>
        have L8:(I.op==19)=true:=by simp [hw.1]
        have L9:(I.op==22)=false:=by simp [hw.1]
        have U9:(c1.giv.kind==I.b)=true:=by simp [hw.2]
        have AJ:Θ ((j9 k' h2 c1 I)=⟨h2,mI h2 c1.clr I.a c1.giv,c1.pc+1⟩):=Re hw.1 hw.2 L5.o
        have HW:=ae hw
        clear hw
        repeat (first|go_values|go_skip|go_guarded|go_step|go_upon|(simp only [Int.not_lt,Int.not_le] at *;go_simp)|(go_values<;>(try go_simp))|(go_ite<;>go_prune<;>(try go_simp)))
        obtain ⟨VV,l8⟩:∃VV,VV=((((((V5.setCell ⟨w1.heap.size+1,9,none⟩ (ι aE.kind)).setCell ⟨w1.heap.size+1,10,none⟩ (ι aE.n)).setCell ⟨w1.heap.size+1,11,none⟩ (ι aE.kind)).setCell ⟨w1.heap.size+1,12,none⟩ (ι aE.n)).alloc (.cells #[ι c1.giv.kind,ι c1.giv.n] 62)).alloc (.cells #[ι c1.cau.kind,ι c1.cau.n] 62)):=⟨_,rfl⟩
        rw [<-l8]
        have EF:Θ (Hs w0 g VV p h2):=by rw [l8];exact JP
        have sZ:Θ (aK w0 VV ⟨w1.heap.size+1,w1.heap.size,m.regs.toNat,P,CC,KA,pp,cc,kk⟩ c1.clr):=by rw [l8];exact AH
        have Ja:Θ (Fq w0.heap.size g.T ⟨w1.heap.size+1,w1.heap.size,m.regs.toNat,P,CC,KA,pp,cc,kk⟩ WA VV):=by rw [l8];exact E3
        have U8:Θ (aC VV (V5.heap.size) c1.giv):=by rw [l8];exact Rt
        have I8:Θ (cP VV ib I.op I.a I.b I.c I.n Qa I.args.length qq):=by rw [l8];exact Rx
        clear l8 g9 Od PX PY Rr gf I0 I7 j0 j1 j2 j3 j4 j5
        have Jb:=ae (And.intro U8.o.c0 I8.o.cs.2.2.1)
        refine wp_region_held_drew (S:=fun w'=>w'.cell? ⟨V5.heap.size,0,none⟩=some (ι c1.giv.kind)/\w'.cell? ⟨ib,2,none⟩=some (ι I.b)) (by kernel_rfl) ?_ (fun aa=>?_)
        ·exact Jb.o
        iterate 8 (refine tn rfl (by kernel_rfl) (fun _ _ _ h=>h) (by intro _ h;go_split_ands;go_simp<;>with_reducible rfl) aa ?_;try simp only [aZ])
        refine aY (i:=8) (by kernel_rfl) rfl fun K hK=>?_
        go_simp
        go_at_call 56
        refine (fU w0 g p h2 _ (EF.o.drewN 1)).mono ?_
        rintro e w9 ⟨he,Ry⟩
        rw [Gk] at he
        subst he
        rw [Ry]
        clear Ry w9
        go_wp2_with fail
        refine hK.out _ _ (aa) (fun ah=>?_)
        try simp only [aZ]
        refine wpAnyH_done (by kernel_rfl) ?_ _
        have j1:VV.cell? ⟨ib,1,none⟩=some (ι I.a):=I8.o.cs.2.1
        have v0:VV.cell? ⟨V5.heap.size,0,none⟩=some (ι c1.giv.kind):=U8.o.c0
        have v1:VV.cell? ⟨V5.heap.size,1,none⟩=some (ι c1.giv.n):=U8.o.c1
        have M9:Θ (∀w',Hs w0 g w' p h2->aK w0 w' ⟨w1.heap.size+1,w1.heap.size,m.regs.toNat,P,CC,KA,pp,cc,kk⟩ c1.clr->χ 75 #[π p 0,π (w1.heap.size+1) 0,ι I.a,jc c1.giv] w' fun e w''=>e=.returned (.tuple #[])/\Hs w0 g w'' p h2/\aK w0 w'' ⟨w1.heap.size+1,w1.heap.size,m.regs.toNat,P,CC,KA,pp,cc,kk⟩ (mI h2 c1.clr I.a c1.giv)/\Fq w0.heap.size g.T ⟨w1.heap.size+1,w1.heap.size,m.regs.toNat,P,CC,KA,pp,cc,kk⟩ w' w''):=fun w' a1 a2 =>
         mO w0 g p h2 ⟨w1.heap.size+1,w1.heap.size,m.regs.toNat,P,CC,KA,pp,cc,kk⟩ c1.clr I.a c1.giv w' a1 a2 yh.o.cq (by have e1:=yi.o.1.a (by have:=HW.o.1;omega);have e2:=E2.o.len;show 0<=I.a/\I.a<c1.locs.length;omega) (fun _=>⟨E2.o.ok,fun e=>by
          have e1:=HW.o
          have e2:=E2.o.len
          show I.a+1<c1.locs.length
          have e3:=yi.o.1.two (by right;right;right;right;right;left;exact ⟨e1.1,by rw [<-e1.2];exact e⟩);omega⟩)
        repeat (first|(go_big_may;go_says (go_at_call 75;refine (M9.o _ (EF.o.drewN 1) (by exact ⟨sZ.o.own,sZ.o.ownl,sZ.o.blk,⟨sZ.o.loc.blk,sZ.o.loc.len⟩,sZ.o.me⟩)).mono ?_;rintro e w6 ⟨rfl,tK,Nc,Nd⟩;have Ak:Θ (Hs w0 g w6 p (j9 k' h2 c1 I).h):=(by rw [AJ.o];exact tK);have EE:Θ (aK w0 w6 ⟨w1.heap.size+1,w1.heap.size,m.regs.toNat,P,CC,KA,pp,cc,kk⟩ (j9 k' h2 c1 I).c):=(by rw [AJ.o];exact Nc);have I9:Θ (Fq w0.heap.size g.T ⟨w1.heap.size+1,w1.heap.size,m.regs.toNat,P,CC,KA,pp,cc,kk⟩ WA w6):=Ja.o.trans ((Fr.fq ((Fr.refl w0.heap.size g.T VV).drewN 1)).trans Nd);clear tK Nc Nd j1 v0 v1))|go_values|go_skip|go_guarded|go_step|go_upon|(simp only [Int.not_lt,Int.not_le] at *;go_simp)|(go_values<;>(try go_simp))|(go_ite<;>go_prune<;>(try go_simp)))
        obtain ⟨NX,vu⟩:∃NX:Int,NX=(n:Int)+1:=⟨_,rfl⟩
        rw [<-vu]
        have Bn:Θ (NX=(j9 k' h2 c1 I).nx):=by show NX=_;rw [vu,AJ.o];show (n:Int)+1=c1.pc+1;rw [HN.o]
        clear vu
        clear EF sZ Ja U8 I8 M9 Jb
       case' U0 =>
        have L8:(I.op==19)=true:=by simp [hw.1]
        have L9:(I.op==22)=false:=by simp [hw.1]
        have U9:(c1.giv.kind==I.b)=false:=by simp [hw.2]
        have AJ:Θ ((j9 k' h2 c1 I)=⟨h2.must false,c1.clr,c1.pc+1⟩):=Rf hw.1 hw.2 L5.o
        have HW:=ae hw
        clear hw
        repeat (first|go_values|go_skip|go_guarded|go_step|go_upon|(simp only [Int.not_lt,Int.not_le] at *;go_simp)|(go_values<;>(try go_simp))|(go_ite<;>go_prune<;>(try go_simp)))
        obtain ⟨VV,l8⟩:∃VV,VV=((((((V5.setCell ⟨w1.heap.size+1,9,none⟩ (ι aE.kind)).setCell ⟨w1.heap.size+1,10,none⟩ (ι aE.n)).setCell ⟨w1.heap.size+1,11,none⟩ (ι aE.kind)).setCell ⟨w1.heap.size+1,12,none⟩ (ι aE.n)).alloc (.cells #[ι c1.giv.kind,ι c1.giv.n] 62)).alloc (.cells #[ι c1.cau.kind,ι c1.cau.n] 62)):=⟨_,rfl⟩
        rw [<-l8]
        have EF:Θ (Hs w0 g VV p h2):=by rw [l8];exact JP
        have sZ:Θ (aK w0 VV ⟨w1.heap.size+1,w1.heap.size,m.regs.toNat,P,CC,KA,pp,cc,kk⟩ c1.clr):=by rw [l8];exact AH
        have Ja:Θ (Fq w0.heap.size g.T ⟨w1.heap.size+1,w1.heap.size,m.regs.toNat,P,CC,KA,pp,cc,kk⟩ WA VV):=by rw [l8];exact E3
        have U8:Θ (aC VV (V5.heap.size) c1.giv):=by rw [l8];exact Rt
        have I8:Θ (cP VV ib I.op I.a I.b I.c I.n Qa I.args.length qq):=by rw [l8];exact Rx
        clear l8 g9 Od PX PY Rr gf I0 I7 j0 j1 j2 j3 j4 j5
        have Jb:=ae (And.intro U8.o.c0 I8.o.cs.2.2.1)
        refine wp_region_held_drew (S:=fun w'=>w'.cell? ⟨V5.heap.size,0,none⟩=some (ι c1.giv.kind)/\w'.cell? ⟨ib,2,none⟩=some (ι I.b)) (by kernel_rfl) ?_ (fun aa=>?_)
        ·exact Jb.o
        iterate 8 (refine tn rfl (by kernel_rfl) (fun _ _ _ h=>h) (by intro _ h;go_split_ands;go_simp<;>with_reducible rfl) aa ?_;try simp only [aZ])
        refine aY (i:=8) (by kernel_rfl) rfl fun K hK=>?_
        go_simp
        go_at_call 56
        refine (bZ w0 g HC.o.k p h2 false _ (EF.o.drewN 1)).mono ?_
        rintro e w6 ⟨rfl,tK,f6⟩
        have F6:=ae (((Fr.refl w0.heap.size g.T VV).drewN 1).trans f6)
        have Ak:Θ (Hs w0 g w6 p (j9 k' h2 c1 I).h):=by rw [AJ.o];exact tK
        have EE:Θ (aK w0 w6 ⟨w1.heap.size+1,w1.heap.size,m.regs.toNat,P,CC,KA,pp,cc,kk⟩ (j9 k' h2 c1 I).c):=by rw [AJ.o];exact aK.fr sZ.o HC.o.k HC.o.n7 F6.o
        have I9:Θ (Fq w0.heap.size g.T ⟨w1.heap.size+1,w1.heap.size,m.regs.toNat,P,CC,KA,pp,cc,kk⟩ WA w6):=Ja.o.trans F6.o.fq
        have d6:=ae (And.intro (U8.o.keep HC.o.k F6.o).c0 (I8.o.keep HC.o.k F6.o).cs.2.2.1)
        have JC:h2.mustB false=false:=rfl
        clear tK f6
        go_wp2_with fail
        refine hK.out _ _ (d6.o) (fun ah=>?_)
        try simp only [aZ]
        refine wpAnyH_done (by kernel_rfl) ?_ _
        repeat (first|go_values|go_skip|go_guarded|go_step|go_upon|(simp only [Int.not_lt,Int.not_le] at *;go_simp)|(go_values<;>(try go_simp))|(go_ite<;>go_prune<;>(try go_simp)))
        obtain ⟨NX,vu⟩:∃NX:Int,NX=(n:Int)+1:=⟨_,rfl⟩
        rw [<-vu]
        have Bn:Θ (NX=(j9 k' h2 c1 I).nx):=by show NX=_;rw [vu,AJ.o];show (n:Int)+1=c1.pc+1;rw [HN.o]
        clear vu
        clear EF sZ Ja U8 I8 F6 d6 Jb
       case' U1 =>
        have L8:(I.op==19)=false:=by simp [hw.1]
        have L9:(I.op==22)=true:=by simp [hw.1]
        have U9:(c1.cau.kind==3)=true:=by simp [hw.2]
        have AJ:Θ ((j9 k' h2 c1 I)=⟨h2,mI h2 c1.clr I.a c1.cau,c1.pc+1⟩):=Rg hw.1 hw.2 L5.o
        have HW:=ae hw
        clear hw
        repeat (first|go_values|go_skip|go_guarded|go_step|go_upon|(simp only [Int.not_lt,Int.not_le] at *;go_simp)|(go_values<;>(try go_simp))|(go_ite<;>go_prune<;>(try go_simp)))
        obtain ⟨VV,l8⟩:∃VV,VV=((((((V5.setCell ⟨w1.heap.size+1,9,none⟩ (ι aE.kind)).setCell ⟨w1.heap.size+1,10,none⟩ (ι aE.n)).setCell ⟨w1.heap.size+1,11,none⟩ (ι aE.kind)).setCell ⟨w1.heap.size+1,12,none⟩ (ι aE.n)).alloc (.cells #[ι c1.giv.kind,ι c1.giv.n] 62)).alloc (.cells #[ι c1.cau.kind,ι c1.cau.n] 62)):=⟨_,rfl⟩
        rw [<-l8]
        have EF:Θ (Hs w0 g VV p h2):=by rw [l8];exact JP
        have sZ:Θ (aK w0 VV ⟨w1.heap.size+1,w1.heap.size,m.regs.toNat,P,CC,KA,pp,cc,kk⟩ c1.clr):=by rw [l8];exact AH
        have Ja:Θ (Fq w0.heap.size g.T ⟨w1.heap.size+1,w1.heap.size,m.regs.toNat,P,CC,KA,pp,cc,kk⟩ WA VV):=by rw [l8];exact E3
        have U8:Θ (aC VV (V5.heap.size+1) c1.cau):=by rw [l8];exact Rv
        have I8:Θ (cP VV ib I.op I.a I.b I.c I.n Qa I.args.length qq):=by rw [l8];exact Rx
        clear l8 g9 Od PX PY Rr gf I0 I7 j0 j1 j2 j3 j4 j5
        have Jb:=ae U8.o.c0
        refine wp_region_held_drew (S:=fun w'=>w'.cell? ⟨V5.heap.size+1,0,none⟩=some (ι c1.cau.kind)) (by kernel_rfl) ?_ (fun aa=>?_)
        ·exact Jb.o
        iterate 6 (refine tn rfl (by kernel_rfl) (fun _ _ _ h=>h) (by intro _ h;go_split_ands;go_simp<;>with_reducible rfl) aa ?_;try simp only [aZ])
        refine aY (i:=6) (by kernel_rfl) rfl fun K hK=>?_
        go_simp
        go_at_call 56
        refine (fU w0 g p h2 _ (EF.o.drewN 1)).mono ?_
        rintro e w9 ⟨he,Ry⟩
        rw [Gk] at he
        subst he
        rw [Ry]
        clear Ry w9
        go_wp2_with fail
        refine hK.out _ _ (aa) (fun ah=>?_)
        try simp only [aZ]
        refine wpAnyH_done (by kernel_rfl) ?_ _
        have j1:VV.cell? ⟨ib,1,none⟩=some (ι I.a):=I8.o.cs.2.1
        have v0:VV.cell? ⟨V5.heap.size+1,0,none⟩=some (ι c1.cau.kind):=U8.o.c0
        have v1:VV.cell? ⟨V5.heap.size+1,1,none⟩=some (ι c1.cau.n):=U8.o.c1
        have M9:Θ (∀w',Hs w0 g w' p h2->aK w0 w' ⟨w1.heap.size+1,w1.heap.size,m.regs.toNat,P,CC,KA,pp,cc,kk⟩ c1.clr->χ 75 #[π p 0,π (w1.heap.size+1) 0,ι I.a,jc c1.cau] w' fun e w''=>e=.returned (.tuple #[])/\Hs w0 g w'' p h2/\aK w0 w'' ⟨w1.heap.size+1,w1.heap.size,m.regs.toNat,P,CC,KA,pp,cc,kk⟩ (mI h2 c1.clr I.a c1.cau)/\Fq w0.heap.size g.T ⟨w1.heap.size+1,w1.heap.size,m.regs.toNat,P,CC,KA,pp,cc,kk⟩ w' w''):=fun w' a1 a2 =>
         mO w0 g p h2 ⟨w1.heap.size+1,w1.heap.size,m.regs.toNat,P,CC,KA,pp,cc,kk⟩ c1.clr I.a c1.cau w' a1 a2 yh.o.cq (by have e1:=yi.o.1.a (by have:=HW.o.1;omega);have e2:=E2.o.len;show 0<=I.a/\I.a<c1.locs.length;omega) (fun _=>⟨E2.o.ok,fun e=>by
          have e1:=HW.o
          have e2:=E2.o.len
          show I.a+1<c1.locs.length
          exfalso;rw [e1.2] at e;omega⟩)
        repeat (first|(go_big_may;go_says (go_at_call 75;refine (M9.o _ (EF.o.drewN 1) (by exact ⟨sZ.o.own,sZ.o.ownl,sZ.o.blk,⟨sZ.o.loc.blk,sZ.o.loc.len⟩,sZ.o.me⟩)).mono ?_;rintro e w6 ⟨rfl,tK,Nc,Nd⟩;have Ak:Θ (Hs w0 g w6 p (j9 k' h2 c1 I).h):=(by rw [AJ.o];exact tK);have EE:Θ (aK w0 w6 ⟨w1.heap.size+1,w1.heap.size,m.regs.toNat,P,CC,KA,pp,cc,kk⟩ (j9 k' h2 c1 I).c):=(by rw [AJ.o];exact Nc);have I9:Θ (Fq w0.heap.size g.T ⟨w1.heap.size+1,w1.heap.size,m.regs.toNat,P,CC,KA,pp,cc,kk⟩ WA w6):=Ja.o.trans ((Fr.fq ((Fr.refl w0.heap.size g.T VV).drewN 1)).trans Nd);clear tK Nc Nd j1 v0 v1))|go_values|go_skip|go_guarded|go_step|go_upon|(simp only [Int.not_lt,Int.not_le] at *;go_simp)|(go_values<;>(try go_simp))|(go_ite<;>go_prune<;>(try go_simp)))
        obtain ⟨NX,vu⟩:∃NX:Int,NX=(n:Int)+1:=⟨_,rfl⟩
        rw [<-vu]
        have Bn:Θ (NX=(j9 k' h2 c1 I).nx):=by show NX=_;rw [vu,AJ.o];show (n:Int)+1=c1.pc+1;rw [HN.o]
        clear vu
        clear EF sZ Ja U8 I8 M9 Jb
       case' U7 =>
        have L8:(I.op==19)=false:=by simp [hw.1]
        have L9:(I.op==22)=true:=by simp [hw.1]
        have U9:(c1.cau.kind==3)=false:=by simp [hw.2]
        have AJ:Θ ((j9 k' h2 c1 I)=⟨h2.must false,c1.clr,c1.pc+1⟩):=Rh hw.1 hw.2 L5.o
        have HW:=ae hw
        clear hw
        repeat (first|go_values|go_skip|go_guarded|go_step|go_upon|(simp only [Int.not_lt,Int.not_le] at *;go_simp)|(go_values<;>(try go_simp))|(go_ite<;>go_prune<;>(try go_simp)))
        obtain ⟨VV,l8⟩:∃VV,VV=((((((V5.setCell ⟨w1.heap.size+1,9,none⟩ (ι aE.kind)).setCell ⟨w1.heap.size+1,10,none⟩ (ι aE.n)).setCell ⟨w1.heap.size+1,11,none⟩ (ι aE.kind)).setCell ⟨w1.heap.size+1,12,none⟩ (ι aE.n)).alloc (.cells #[ι c1.giv.kind,ι c1.giv.n] 62)).alloc (.cells #[ι c1.cau.kind,ι c1.cau.n] 62)):=⟨_,rfl⟩
        rw [<-l8]
        have EF:Θ (Hs w0 g VV p h2):=by rw [l8];exact JP
        have sZ:Θ (aK w0 VV ⟨w1.heap.size+1,w1.heap.size,m.regs.toNat,P,CC,KA,pp,cc,kk⟩ c1.clr):=by rw [l8];exact AH
        have Ja:Θ (Fq w0.heap.size g.T ⟨w1.heap.size+1,w1.heap.size,m.regs.toNat,P,CC,KA,pp,cc,kk⟩ WA VV):=by rw [l8];exact E3
        have U8:Θ (aC VV (V5.heap.size+1) c1.cau):=by rw [l8];exact Rv
        have I8:Θ (cP VV ib I.op I.a I.b I.c I.n Qa I.args.length qq):=by rw [l8];exact Rx
        clear l8 g9 Od PX PY Rr gf I0 I7 j0 j1 j2 j3 j4 j5
        have Jb:=ae U8.o.c0
        refine wp_region_held_drew (S:=fun w'=>w'.cell? ⟨V5.heap.size+1,0,none⟩=some (ι c1.cau.kind)) (by kernel_rfl) ?_ (fun aa=>?_)
        ·exact Jb.o
        iterate 6 (refine tn rfl (by kernel_rfl) (fun _ _ _ h=>h) (by intro _ h;go_split_ands;go_simp<;>with_reducible rfl) aa ?_;try simp only [aZ])
        refine aY (i:=6) (by kernel_rfl) rfl fun K hK=>?_
        go_simp
        go_at_call 56
        refine (bZ w0 g HC.o.k p h2 false _ (EF.o.drewN 1)).mono ?_
        rintro e w6 ⟨rfl,tK,f6⟩
        have F6:=ae (((Fr.refl w0.heap.size g.T VV).drewN 1).trans f6)
        have Ak:Θ (Hs w0 g w6 p (j9 k' h2 c1 I).h):=by rw [AJ.o];exact tK
        have EE:Θ (aK w0 w6 ⟨w1.heap.size+1,w1.heap.size,m.regs.toNat,P,CC,KA,pp,cc,kk⟩ (j9 k' h2 c1 I).c):=by rw [AJ.o];exact aK.fr sZ.o HC.o.k HC.o.n7 F6.o
        have I9:Θ (Fq w0.heap.size g.T ⟨w1.heap.size+1,w1.heap.size,m.regs.toNat,P,CC,KA,pp,cc,kk⟩ WA w6):=Ja.o.trans F6.o.fq
        have d6:=ae (U8.o.keep HC.o.k F6.o).c0
        have JC:h2.mustB false=false:=rfl
        clear tK f6
        go_wp2_with fail
        refine hK.out _ _ (d6.o) (fun ah=>?_)
        try simp only [aZ]
        refine wpAnyH_done (by kernel_rfl) ?_ _
        repeat (first|go_values|go_skip|go_guarded|go_step|go_upon|(simp only [Int.not_lt,Int.not_le] at *;go_simp)|(go_values<;>(try go_simp))|(go_ite<;>go_prune<;>(try go_simp)))
        obtain ⟨NX,vu⟩:∃NX:Int,NX=(n:Int)+1:=⟨_,rfl⟩
        rw [<-vu]
        have Bn:Θ (NX=(j9 k' h2 c1 I).nx):=by show NX=_;rw [vu,AJ.o];show (n:Int)+1=c1.pc+1;rw [HN.o]
        clear vu
        clear EF sZ Ja U8 I8 F6 d6 Jb
       case' Z8 =>
        have L8:(I.op==19)=false:=by simpa using hw.1
        have L9:(I.op==22)=false:=by simpa using hw.2
        have DA:Θ (∀w',Hs w0 g w' p h2->aK w0 w' ⟨w1.heap.size+1,w1.heap.size,m.regs.toNat,P,CC,KA,pp,cc,kk⟩ c1.clr->χ 76 #[π p 0,π (w1.heap.size+1) 0,.agg #[ι I.op,ι I.a,ι I.b,ι I.c,ι I.n,.slice Qa I.args.length qq]] w' fun e w'' =>
          e=.returned (ι (j9 k' h2 c1 I).nx)/\Hs w0 g w'' p (j9 k' h2 c1 I).h/\aK w0 w'' ⟨w1.heap.size+1,w1.heap.size,m.regs.toNat,P,CC,KA,pp,cc,kk⟩ (j9 k' h2 c1 I).c/\Fq w0.heap.size g.T ⟨w1.heap.size+1,w1.heap.size,m.regs.toNat,P,CC,KA,pp,cc,kk⟩ w' w''):=fun w' a1 a2 =>
         Oe w0 g p h2 ⟨w1.heap.size+1,w1.heap.size,m.regs.toNat,P,CC,KA,pp,cc,kk⟩ c1 I Qa qq w' a1 a2 yh.o ⟨by rw [HN.o];omega,by rw [HN.o];omega⟩ hw.1 dC.o hw.2 k' (ZF.o k' UO.o) G2.o Xr.o L5.o Xq.o E2.o yi.o.1 yi.o.2 TZ.o UN.o
        clear hw
        repeat (first|(go_big_may;go_says (go_at_call 76;refine (DA.o _ JP.o AH.o).mono ?_;rintro e w6 ⟨rfl,tK,Nc,Nd⟩;have Ak:=ae tK;have EE:=ae Nc;have I9:=ae (E3.o.trans Nd);clear tK Nc Nd g9 Od PX PY Rr gf I0 I7 j0 j1 j2 j3 j4 j5))|go_values|go_skip|go_guarded|go_step|go_upon|(simp only [Int.not_lt,Int.not_le] at *;go_simp)|(go_values<;>(try go_simp))|(go_ite<;>go_prune<;>(try go_simp)))
        obtain ⟨NX,vu⟩:∃NX:Int,NX=(j9 k' h2 c1 I).nx:=⟨_,rfl⟩
        rw [<-vu]
        have Bn:Θ (NX=(j9 k' h2 c1 I).nx):=vu
        clear vu DA
       all_goals clear JP AH E3 Rt Rv Rx
       all_goals as_aux_lemma =>
        have S0:Θ ((j9 k' h2 c1 I).c.pc=n):=KD.o.pc.trans HN.o
        have XH:Θ ((j9 k' h2 c1 I).c.m=m):=KD.o.m.trans oa.o
        generalize (j9 k' h2 c1 I)=D at *
        have mD:w6.cell? ⟨p,12,none⟩=some (.bool D.h.over):=by obtain ⟨vo,vx,hv,X⟩:=Ak.o;exact X.cells.c12
        have Z9:w6.cell? ⟨p,13,none⟩=some (ι D.h.thrown):=by obtain ⟨vo,vx,hv,X⟩:=Ak.o;exact X.cells.c13
        have XI:Θ (∀w',Fq w0.heap.size g.T ⟨w1.heap.size+1,w1.heap.size,m.regs.toNat,P,CC,KA,pp,cc,kk⟩ WA w'->aK w0 w' ⟨w1.heap.size+1,w1.heap.size,m.regs.toNat,P,CC,KA,pp,cc,kk⟩ D.c->(fun w'=>w'.cell? ⟨w.heap.size,0,none⟩=some (.slice P m.params.length pp)/\w'.cell? ⟨w.heap.size,1,none⟩=some (ι m.ret.kind)/\w'.cell? ⟨w.heap.size,2,none⟩=some (ι m.ret.cls)/\w'.cell? ⟨w.heap.size,3,none⟩=some (ι m.stack)/\w'.cell? ⟨w.heap.size,4,none⟩=some (ι m.locs)/\w'.cell? ⟨w.heap.size,5,none⟩=some (ι m.regs)/\w'.cell? ⟨w.heap.size,6,none⟩=some (.slice CC m.code.length cc)/\w'.cell? ⟨w.heap.size,7,none⟩=some (.slice KA m.hands.length kk)/\w'.cell? ⟨w1.heap.size+1,13,none⟩=some (ι (n:Int))) w'):=fun w' f c=>by
         have x:=(O3.o.fq HC.o.k f n5 n6).cells
         exact ⟨x.c0,x.c1,x.c2,x.c3,x.c4,x.c5,x.c6,x.c7,by rw [<-S0.o];exact c.cells.c13⟩
        cases cY:D.h.over
        ·rw [cY] at mD
         have Vb:Θ (Gc D.h D.c):=KD.o.gc cY
         by_cases ht:0<=D.h.thrown
         ·have Vc:decide (0<=D.h.thrown)=true:=decide_eq_true ht
          have XJ:Θ (LP=if D.h.caughtL (n:Int) m.hands<0 then (D.h.leave,aE) else cn k' ({ D.h with thrown:=-1 }:Hp) { D.c with cau:=⟨3,D.h.thrown⟩,pc:=D.h.caughtL (n:Int) m.hands }):=by
           show LP=_
           rw [UZ.o];unfold dM;rw [if_neg (by rw [cY];decide),if_pos ht,S0.o,XH.o]
          have HAB:Θ (D.h.caughtL (n:Int) m.hands=-1∨(0<=D.h.caughtL (n:Int) m.hands/\D.h.caughtL (n:Int) m.hands<D.c.m.code.length)):=by
           have:=l3 (h:=D.h) (pc:=(n:Int)) (n:=D.c.m.code.length) (k:=D.h.file.classes.length) D.c.m.hands (jW Vb.o.me).2.2.2.2.2.2.2.2.1
           rw [XH.o] at this ⊢;exact this
          have HCA:Θ (∀w',Hs w0 g w' p D.h->χ 60 #[π p 0,sF m P CC KA pp cc kk,ι (n:Int)] w' fun e w''=>e=.returned (ι (D.h.caughtL (n:Int) m.hands))/\Hs w0 g w'' p D.h/\Fr w0.heap.size g.T w' w''):=fun w' hx=>zc w0 g p D.h m P CC KA pp cc kk (n:Int) w' hx (yh.o.le KD.o.le).cq.cw sU.o.2.2.1 ⟨ht,KD.o.gh.thr.2⟩
          have z36:=ae (XI.o w6 I9.o EE.o)
          have Hu:=ae ht
          clear ht
          generalize D.h.caughtL (n:Int) m.hands=AT at *
          repeat (first|go_values|go_skip|go_guarded|go_step|go_upon|(simp only [Int.not_lt,Int.not_le] at *;go_simp)|(go_values<;>(try go_simp))|(go_ite<;>go_prune<;>(try go_simp)))
          refine wp_region_held_drew (S:=fun w'=>w'.cell? ⟨w.heap.size,0,none⟩=some (.slice P m.params.length pp)/\w'.cell? ⟨w.heap.size,1,none⟩=some (ι m.ret.kind)/\w'.cell? ⟨w.heap.size,2,none⟩=some (ι m.ret.cls)/\w'.cell? ⟨w.heap.size,3,none⟩=some (ι m.stack)/\w'.cell? ⟨w.heap.size,4,none⟩=some (ι m.locs)/\w'.cell? ⟨w.heap.size,5,none⟩=some (ι m.regs)/\w'.cell? ⟨w.heap.size,6,none⟩=some (.slice CC m.code.length cc)/\w'.cell? ⟨w.heap.size,7,none⟩=some (.slice KA m.hands.length kk)/\w'.cell? ⟨w1.heap.size+1,13,none⟩=some (ι (n:Int))) (by kernel_rfl) ?_ (fun aa=>?_)
          ·exact z36.o
          iterate 8 (refine tn rfl (by kernel_rfl) (fun _ _ _ h=>h) (by intro _ h;go_split_ands;go_simp<;>with_reducible rfl) aa ?_;try simp only [aZ])
          refine aY (i:=8) (by kernel_rfl) rfl fun K hK=>?_
          go_simp
          go_at_call 60
          refine (HCA.o _ (Ak.o.drewN 1)).mono ?_
          rintro e w7 ⟨rfl,Rs,f7⟩
          have F7:=ae (((Fr.refl w0.heap.size g.T w6).drewN 1).trans f7)
          have E3:=ae (I9.o.trans F7.o.fq)
          have AH:=ae (aK.fr EE.o HC.o.k HC.o.n7 F7.o)
          have d36:=ae (XI.o w7 E3.o AH.o)
          have JP:=ae Rs
          clear Rs f7
          go_wp2_with fail
          refine hK.out _ _ (d36.o) (fun ah=>?_)
          try simp only [aZ]
          refine tn rfl (by kernel_rfl) (fun _ _ _ h=>h) (by intro _ h;go_split_ands;go_simp<;>with_reducible rfl) ah ?_
          try simp only [aZ]
          refine wpAnyH_done (by kernel_rfl) ?_ _
          clear aa ah mD Z9
          by_cases hat:AT<0
          ·have vt:Θ (LP=(D.h.leave,aE)):=by show LP=_;rw [XJ.o,if_pos hat]
           have Vd:decide (AT<0)=true:=decide_eq_true hat
           have yB:0<=D.h.calls/\D.h.calls<=20:=KD.o.gh.calls
           have Bu:=ae (And.intro JP.o E3.o)
           obtain ⟨c4,f4⟩:=Hs.c4 Bu.o.1
           obtain ⟨r0,r1,rf⟩:=aC.three (AG.o.fq HC.o.k E3.o n3 n4)
           obtain ⟨I0,I7,-⟩:=aC.three (JJ.o.fq HC.o.k E3.o Na n14)
           repeat (first|go_values|go_skip|go_guarded|go_step|go_upon|(simp only [Int.not_lt,Int.not_le] at *;go_simp)|(go_values<;>(try go_simp))|(go_ite<;>go_prune<;>(try go_simp)))
           (try simp only [Exit.inBlock,Exit.then])
           obtain ⟨⟨vo,vx,hv,nj⟩,sI⟩:=Bu.o
           have om:=AG.o.fq HC.o.k sI n3 n4
           refine bodyPost_ret (results_cell_row rfl _ _ (w.heap.size+1) _ _ _ _ rfl ((om.far BZ).set aE).blk underlying62 rfl bC) rfl ?_
           rw [vt.o]
           exact ⟨rfl,⟨vo,vx,hv,(nj.leave HC.o.k).cf ((om.far BZ).cf HC.o.k iB _ _)⟩,((((Fq.fr O4.o sI O7 MN).trans (nj.frSet 4 _)).new lI iB _).new lI iB _)⟩
          ·have vt:Θ (cn k' ({ D.h with thrown:=-1 }:Hp) { D.c with cau:=⟨3,D.h.thrown⟩,pc:=AT }=LP):=by show _=LP;rw [XJ.o,if_neg hat]
           have Vd:decide (AT<0)=false:=decide_eq_false hat
           have aaa:0<=D.h.thrown:=Hu.o
           obtain ⟨Uy,aab⟩:w7.cell? ⟨p,13,none⟩=some (ι D.h.thrown)/\w7.frozen? ⟨p,13,none⟩=false:=by obtain ⟨vo,vx,hv,X⟩:=JP.o;exact ⟨X.cells.c13,X.free 13⟩
           have q11:=AH.o.cells.c11
           have q12:=AH.o.cells.c12
           have Sp:=AH.o.cells.c13
           have qf:=AH.o.free
           dsimp only at q11 q12 Sp qf
           repeat (first|go_values|go_skip|go_guarded|go_step|go_upon|(simp only [Int.not_lt,Int.not_le] at *;go_simp)|(go_values<;>(try go_simp))|(go_ite<;>go_prune<;>(try go_simp)))
           have a8:=AH.o.setC (c':={ D.c with cau:=⟨3,D.c.cau.n⟩ }) (i:=11) (v:=ι 3) rfl rfl rfl
           have h8:=JP.o.cf (AH.o.cf HC.o.n7 11 (ι 3))
           have a9:=a8.setC (c':={ D.c with cau:=⟨3,D.h.thrown⟩ }) (i:=12) (v:=ι D.h.thrown) rfl rfl rfl
           have h9:=h8.cf (a8.cf HC.o.n7 12 (ι D.h.thrown))
           obtain ⟨vo,vx,hv,X⟩:=h9
           have rT:Hs w0 g _ p ({ D.h with thrown:=-1 }:Hp):=⟨vo,vx,hv,X.set HC.o.k ({ D.h with thrown:=-1 }:Hp) (i:=13) (v:=ι (-1)) rfl rfl rfl⟩
           have Ve:=a9.fr HC.o.k HC.o.n7 (X.frSet 13 (ι (-1)))
           have a11:=Ve.setC (c':={ D.c with cau:=⟨3,D.h.thrown⟩,pc:=AT }) (i:=13) (v:=ι AT) rfl rfl rfl
           have lK:=rT.cf (Ve.cf HC.o.n7 13 (ι AT))
           have f11:=(((E3.o.trans (AH.o.fq g.T 11 (ι 3))).trans (a8.fq g.T 12 (ι D.h.thrown))).trans (X.frSet 13 (ι (-1))).fq).trans (Ve.fq g.T 13 (ι AT))
           have XL:Le D.h ({ D.h with thrown:=-1 }:Hp):=⟨rfl,rfl,rfl,Nat.le_refl _,Int.le_refl _,rfl⟩
           have AK:=KD.o.le.trans XL
           have gt:Gh 0 ({ D.h with thrown:=-1 }:Hp):=KD.o.gh.same rfl rfl rfl rfl rfl rfl rfl ⟨by dsimp only;omega,by dsimp only;omega⟩
           have gv:jq ({ D.h with thrown:=-1 }:Hp) (⟨3,D.h.thrown⟩:Va):=⟨fun _=>⟨by dsimp only;omega,KD.o.gh.thr.2⟩,by have:=KD.o.gh.thr;have:=KD.o.gh.len;dsimp only;unfold cJ;omega⟩
           have gx:=Vb.o.le XL
           have hAB:=HAB.o
           go_roundw
           case rel=>exact ⟨k',({ D.h with thrown:=-1 }:Hp),{ D.c with cau:=⟨3,D.h.thrown⟩,pc:=AT },⟨lK,a11,f11,gt,KD.o.kd,by rw [AK.calls];exact Xs.o,fun _=>⟨rfl,⟨gx.giv,gv,gx.locs,gx.ok,gx.len,gx.me,gx.mok⟩,by dsimp only;omega,by show AT<=D.c.m.code.length;omega⟩,KD.o.m.trans oa.o,AK.file.trans MU.o.1,AK.input.trans MU.o.2.1,AK.fuel.trans MU.o.2.2,by have:=AK.steps;have:=AK.fuel;have:=UN.o;omega,Nat.le_of_lt UO.o,vt.o⟩⟩
           case measure =>
            have key:∀S:Int,h2.sh.steps<=S->(h0.fuel-S).toNat<o8 p h0.fuel wr:=fun S hS=>by have ET:=Xt.o;rw [ET.1];omega
            have Fz:=vZ lK h0.fuel
            rw [Fz]
            exact key _ AK.steps
         ·have HTD:Θ (D.h.thrown=-1):=by have:=KD.o.gh.thr;show D.h.thrown=-1;omega
          have vt:Θ (cn k' D.h { D.c with pc:=D.nx }=LP):=by
           show _=LP
           rw [UZ.o];unfold dM;rw [if_neg (by rw [cY];decide),if_neg ht]
          have Vc:decide (0<=D.h.thrown)=false:=decide_eq_false ht
          have zd:Θ (0<=D.nx/\D.nx<=D.c.m.code.length):=by show _/\_;rw [KD.o.m];exact KD.o.nx
          have Sp:=EE.o.cells.c13
          have qf:=EE.o.free
          dsimp only at Sp qf
          clear ht
          repeat (first|go_values|go_skip|go_guarded|go_step|go_upon|(simp only [Int.not_lt,Int.not_le] at *;go_simp)|(go_values<;>(try go_simp))|(go_ite<;>go_prune<;>(try go_simp)))
          have a7:=EE.o.setC (c':={ D.c with pc:=NX }) (i:=13) (v:=ι NX) rfl rfl rfl
          rw [Bn.o] at a7
          have h7:=Ak.o.cf (EE.o.cf HC.o.n7 13 (ι NX))
          have f7:=I9.o.trans (EE.o.fq g.T 13 (ι NX))
          go_roundw
          case rel=>exact ⟨k',D.h,{ D.c with pc:=D.nx },⟨h7,by rw [Bn.o];exact a7,f7,KD.o.gh,KD.o.kd,by rw [KD.o.le.calls];exact Xs.o,fun _=>⟨HTD.o,Vb.o.pc _,zd.o⟩,KD.o.m.trans oa.o,KD.o.le.file.trans MU.o.1,KD.o.le.input.trans MU.o.2.1,KD.o.le.fuel.trans MU.o.2.2,by have:=KD.o.le.steps;have:=KD.o.le.fuel;have:=UN.o;omega,Nat.le_of_lt UO.o,vt.o⟩⟩
          case measure =>
           have key:∀S:Int,h2.sh.steps<=S->(h0.fuel-S).toNat<o8 p h0.fuel wr:=fun S hS=>by have ET:=Xt.o;rw [ET.1];omega
           have Fz:=vZ h7 h0.fuel
           rw [Fz]
           exact key _ KD.o.le.steps
        ·rw [cY] at mD
         have vt:Θ (LP=(D.h.leave,aE)):=by
          show LP=_
          rw [UZ.o];unfold dM;rw [if_pos cY]
         have yB:0<=D.h.calls/\D.h.calls<=20:=KD.o.gh.calls
         have Bu:=ae (And.intro Ak.o I9.o)
         obtain ⟨c4,f4⟩:=Hs.c4 Bu.o.1
         obtain ⟨r0,r1,rf⟩:=aC.three (AG.o.fq HC.o.k I9.o n3 n4)
         obtain ⟨I0,I7,-⟩:=aC.three (JJ.o.fq HC.o.k I9.o Na n14)
         repeat (first|go_values|go_skip|go_guarded|go_step|go_upon|(simp only [Int.not_lt,Int.not_le] at *;go_simp)|(go_values<;>(try go_simp))|(go_ite<;>go_prune<;>(try go_simp)))
         (try simp only [Exit.inBlock,Exit.then])
         obtain ⟨⟨vo,vx,hv,nj⟩,sI⟩:=Bu.o
         have om:=AG.o.fq HC.o.k sI n3 n4
         refine bodyPost_ret (results_cell_row rfl _ _ (w.heap.size+1) _ _ _ _ rfl ((om.far BZ).set aE).blk underlying62 rfl bC) rfl ?_
         rw [vt.o]
         exact ⟨rfl,⟨vo,vx,hv,(nj.leave HC.o.k).cf ((om.far BZ).cf HC.o.k iB _ _)⟩,((((Fq.fr O4.o sI O7 MN).trans (nj.frSet 4 _)).new lI iB _).new lI iB _)⟩
     ·as_aux_lemma =>
      have vt:Θ (LP=((h2.fin 6).leave,aE)):=by
       show LP=_
       have e1:h2.mustB (decide (c1.pc<c1.m.code.length))=false:=by rw [mg h2 L5.o,oa.o];exact decide_eq_false Bh
       have e2:h2.must (decide (c1.pc<c1.m.code.length))=h2.fin 6:=by rw [oa.o,decide_eq_false Bh];rfl
       rw [UQ.o]
       unfold gw
       rw [if_pos e1,e2]
      have yB:0<=(h2.fin 6).calls/\(h2.fin 6).calls<=20:=by rw [(gN h2 6).calls];exact G2.o.calls
      have hd:decide (c1.pc<m.code.length)=false:=decide_eq_false Bh
      have HMF:Θ (h2.mustB false=false):=rfl
      have HMM:Θ (h2.must false=h2.fin 6):=rfl
      go_wp2_with (go_at_call 55;refine SA.o.mono ?_;rintro e w2 ⟨rfl,th,f2⟩;have Nb:=ae (NN.o.trans f2.fq);have tG:=ae th;have Pb:=aK.fr UR.o HC.o.k HC.o.n7 f2;have d13:w2.cell? ⟨w1.heap.size+1,13,none⟩=some (ι c1.pc):=Pb.cells.c13;have m6:=(O3.o.fq HC.o.k Nb.o n5 n6).cells.c6;clear Pb)
      go_region_held3 (fun w'=>w'.cell? ⟨w1.heap.size+1,13,none⟩=some (ι c1.pc)/\w'.cell? ⟨w.heap.size,6,none⟩=some (.slice CC m.code.length cc))
       (go_keep)
       (first
        | (go_at_call 56;refine (bZ w0 g HC.o.k p h2 false _ (by first|exact tG.o.cf (Cf.drew (Cf.refl _ _ _))|exact tG.o)).mono ?_;rintro e w3 ⟨he,Sc,f3⟩;rw [HMF.o] at he;subst he;rw [HMM.o] at Sc;have F3:Θ (Fr w0.heap.size g.T wr w3):=Fr.trans (Fr.trans f2 (Fr.drew (Fr.refl _ _ _))) f3;have Rz:=NN.o.trans F3.o.fq;have XM:=aK.fr UR.o HC.o.k HC.o.n7 F3.o;have aac:w3.cell? ⟨w1.heap.size+1,13,none⟩=some (ι c1.pc):=XM.cells.c13;have m6':=(O3.o.fq HC.o.k Rz n5 n6).cells.c6;have Bu:=ae (And.intro Sc Rz);obtain ⟨c4,f4⟩:=Hs.c4 Bu.o.1;obtain ⟨r0,r1,rf⟩:=aC.three (AG.o.fq HC.o.k Rz n3 n4);obtain ⟨I0,I7,-⟩:=aC.three (JJ.o.fq HC.o.k Rz Na n14);clear XM F3 Rz Sc f3))
      repeat (first|go_values|go_skip|go_guarded|go_step|go_upon|(simp only [Int.not_lt,Int.not_le] at *;go_simp)|(go_values<;>(try go_simp))|(go_ite<;>go_prune<;>(try go_simp)))
      (try simp only [Exit.inBlock,Exit.then])
      obtain ⟨⟨vo,vx,hv,nj⟩,sI⟩:=Bu.o
      have om:=AG.o.fq HC.o.k sI n3 n4
      refine bodyPost_ret (results_cell_row rfl _ _ (w.heap.size+1) _ _ _ _ rfl ((om.far BZ).set aE).blk underlying62 rfl bC) rfl ?_
      rw [vt.o]
      exact ⟨rfl,⟨vo,vx,hv,(nj.leave HC.o.k).cf ((om.far BZ).cf HC.o.k iB _ _)⟩,((((Fq.fr O4.o sI O7 MN).trans (nj.frSet 4 _)).new lI iB _).new lI iB _)⟩
end Go.Proofs.YtgbebphpjnmafaaGreat
