import Derived.Test.YtgiiapenmjollaaGreatRraw
namespace Go.Proofs.YtgiiapenmjollaaGreat
set_option linter.all false
set_option maxHeartbeats 40000000
set_option maxRecDepth 100000
open Go.RowKit
open Tryz
theorem Md (w0:World) (g:Ad) (p:Nat) (h:Hp) (m:Me) (P CC KA:Option Addr) (pp cc kk:Nat) (A:Option Addr) (ac lb:Nat) (l:List Va) (w:World) (hH:Hs w0 g w p h) (E:Env w0 g h) (ho:h.over=false) (gh:Gh 0 h) (hme:ku w0 m P CC KA) (hl:l.length=m.params.length) (hg:∀v∈l,jw h v) (hA:ej lb w A l) (kd:Kd h) (EG:fG h.file.classes h.file.methods m=true) (hok:∀i∈m.code,i.ok) (Sy:l.length<=ac) (hb:h.enterB m l=true) (iG:h.thrown=-1) (N:Nat) (hN:(h.fuel-h.sh.steps).toNat<=N) (IH:∀k,k<N->GM w0 g p k) :
  χ 33 #[π p 0,sK m P CC KA pp cc kk,.slice A l.length ac] w fun e w'=>e=.returned (jh (cn N (h.enterH m l) (cv m l)).2)/\Hs w0 g w' p (cn N (h.enterH m l) (cv m l)).1/\Fr w0.heap.size g.T w w':=by
 have dX:=hH.base
 obtain ⟨WI,Dn⟩:∃WI,WI=(((w.alloc (.cells #[.slice P m.params.length pp,ι m.ret.kind,ι m.ret.cls,ι m.stack,ι m.locs,ι m.regs,.slice CC m.code.length cc,.slice KA m.hands.length kk] 49)).alloc (.cells #[ι 0,ι 0] 62)).alloc (.cells #[ι 0,ι 0] 62)):=⟨_,rfl⟩
 have hbl:Bl w WI:=by rw [Dn];exact (((Bl.refl w).alloc _).alloc _).alloc _
 have HF:Θ (Fr w0.heap.size g.T w WI):=Fr.old dX hbl
 have HH:Θ (Hs w0 g WI p h):=hH.old hbl
 have HM:Θ (fI WI w.heap.size m P CC KA pp cc kk):=⟨by rw [Dn];exact fH (by simp;omega) (fH (by simp) (cK rfl))⟩
 have HR:Θ (aC WI (w.heap.size+1) aE):=⟨by rw [Dn];exact fH (by simp) (cK (by simp))⟩
 have HN:Θ (aC WI (w.heap.size+1+1) aE):=⟨by rw [Dn];exact cK (by simp)⟩
 have HA:Θ (ej lb WI A l):=hA.keep fun b cs f e _=>(hbl.block _ (af e)).trans e
 have HC:=ae E.cq
 have HP:Θ (cX w0 P m.params):=hme.1
 have HL:Θ (l.length=m.params.length):=hl
 have HG:Θ (∀v∈l,v.kind=3->v.n<h.objs.length):=fun v hv e=>((hg v hv).ref e).2
 have hcl:=gh.calls
 have iH:w0.heap.size<=w.heap.size+1:=by omega
 have lN:w.heap.size<=w.heap.size+1:=by omega
 have tL:Θ (∀w',fI w' w.heap.size m P CC KA pp cc kk->(fun w'=>w'.cell? ⟨w.heap.size,0,none⟩=some (.slice P m.params.length pp)/\w'.cell? ⟨w.heap.size,1,none⟩=some (ι m.ret.kind)/\w'.cell? ⟨w.heap.size,2,none⟩=some (ι m.ret.cls)/\w'.cell? ⟨w.heap.size,3,none⟩=some (ι m.stack)/\w'.cell? ⟨w.heap.size,4,none⟩=some (ι m.locs)/\w'.cell? ⟨w.heap.size,5,none⟩=some (ι m.regs)/\w'.cell? ⟨w.heap.size,6,none⟩=some (.slice CC m.code.length cc)/\w'.cell? ⟨w.heap.size,7,none⟩=some (.slice KA m.hands.length kk)) w'):=fun w' X=>⟨X.cells.c0,X.cells.c1,X.cells.c2,X.cells.c3,X.cells.c4,X.cells.c5,X.cells.c6,X.cells.c7⟩
 have z2:=ae (tL.o _ HM.o)
 obtain ⟨NB,SX⟩:∃NB,NB=w.heap.size+1+1:=⟨_,rfl⟩
 rw [<-SX] at HN
 have HB:Θ (h.enterB m l=true):=hb
 obtain ⟨q1,q2,q3,q5,q6,q7,-,-,-,-⟩:=j6 EG
 have hlo:0<=m.regs:=by omega
 have NL:=GJ m.regs hlo (by omega)
 have HE:=ae E
 have Xi:=ae hH
 have Xj:=ae gh
 have Xk:=ae kd
 have sZ:=ae hme
 have UJ:=ae EG
 have Bb:=ae hok
 have UK:=ae hg
 have Ng:=ae iG
 have Zz:=ae IH
 have sP:=ae hN
 obtain ⟨LP,UL⟩:∃LP,cn N (h.enterH m l) (cv m l)=LP:=⟨_,rfl⟩
 rw [UL]
 have Xl:=ae UL
 have UM:Θ (h.enterL l m.params=true):=by show h.enterL l m.params=true;unfold Hp.enterB at hb;rw [Bool.and_eq_true] at hb;exact hb.1
 clear hbl hH E gh kd hme EG hok hl hg hA hb iG hN IH UL
 go_enter func33,ntmps33
 go_wp2
 rw [<-Dn,<-SX]
 have PG:=ae SX
 clear Dn SX
 refine wp_region_held_drew (S:=fun w'=>w'.cell? ⟨w.heap.size,0,none⟩=some (.slice P m.params.length pp)/\w'.cell? ⟨w.heap.size,1,none⟩=some (ι m.ret.kind)/\w'.cell? ⟨w.heap.size,2,none⟩=some (ι m.ret.cls)/\w'.cell? ⟨w.heap.size,3,none⟩=some (ι m.stack)/\w'.cell? ⟨w.heap.size,4,none⟩=some (ι m.locs)/\w'.cell? ⟨w.heap.size,5,none⟩=some (ι m.regs)/\w'.cell? ⟨w.heap.size,6,none⟩=some (.slice CC m.code.length cc)/\w'.cell? ⟨w.heap.size,7,none⟩=some (.slice KA m.hands.length kk)) (by kernel_rfl) ?_ (fun aa=>?_)
 ·exact z2.o
 iterate 5 (refine tn rfl (by kernel_rfl) (fun _ _ _ h=>h) (by intro _ h;go_split_ands;go_simp<;>with_reducible rfl) aa ?_;try simp only [aZ])
 refine aY (i:=5) (by kernel_rfl) rfl fun K hK=>?_
 go_simp
 go_at_call 51
 refine (tK w0 g p h m P CC KA pp cc kk A ac lb l _ (HH.o.drewN 1) HC.o.cw ho HP.o HL.o (by exact HA.o) HG.o hcl).mono ?_
 rintro e w1 ⟨he,h1,f1⟩
 rw [HB.o] at he
 subst he
 have F1:=ae (((Fr.refl w0.heap.size g.T WI).drewN 1).trans f1)
 have Oo:=ae (HM.o.fr HC.o.k F1.o)
 have kA:=ae (HR.o.keep HC.o.k F1.o)
 have PV:=ae (HN.o.keep HC.o.k F1.o)
 have d1:=ae (tL.o _ Oo.o)
 have H1:=ae h1
 clear h1 f1
 go_wp2_with fail
 refine hK.out _ _ (d1.o) (fun ah=>?_)
 try simp only [aZ]
 refine tn rfl (by kernel_rfl) (fun _ _ _ h=>h) (by intro _ h;go_split_ands;go_simp<;>with_reducible rfl) ah ?_
 try simp only [aZ]
 refine wpAnyH_done (by kernel_rfl) ?_ _
 have x:=Oo.o.cells
 have x0:=x.c0
 have x1:=x.c1
 have x2:=x.c2
 have x3:=x.c3
 have x4:=x.c4
 have x5:=x.c5
 have x6:=x.c6
 have x7:=x.c7
 have vm:=af Oo.o.blk
 have UN:=af kA.o.blk
 have UO:=af PV.o.blk
 clear x d1 z2 aa ah hK
 go_wp2
 go_region_held3 (fun w'=>w'.cell? ⟨w.heap.size,0,none⟩=some (.slice P m.params.length pp)/\w'.cell? ⟨w.heap.size,1,none⟩=some (ι m.ret.kind)/\w'.cell? ⟨w.heap.size,2,none⟩=some (ι m.ret.cls)/\w'.cell? ⟨w.heap.size,3,none⟩=some (ι m.stack)/\w'.cell? ⟨w.heap.size,4,none⟩=some (ι m.locs)/\w'.cell? ⟨w.heap.size,5,none⟩=some (ι m.regs)/\w'.cell? ⟨w.heap.size,6,none⟩=some (.slice CC m.code.length cc)/\w'.cell? ⟨w.heap.size,7,none⟩=some (.slice KA m.hands.length kk))
  (go_keep)
  (fail)
 (try (rename_i ZA;clear ZA))
 go_wp2
 obtain ⟨W3,Rm⟩:∃W3,W3=((w1.alloc (.cells (bh (List.replicate m.regs.toNat aE)).toArray 62)).alloc (.cells #[.slice P m.params.length pp,ι m.ret.kind,ι m.ret.cls,ι m.stack,ι m.locs,ι m.regs,.slice CC m.code.length cc,.slice KA m.hands.length kk,.slice (some ⟨w1.heap.size,0,none⟩) m.regs.toNat m.regs.toNat,ι 0,ι 0,ι 0,ι 0,ι 0] 149)).drew:=⟨_,rfl⟩
 have mW:Bl w1 W3:=by rw [Rm];exact (((Bl.refl w1).alloc _).alloc _).drew
 have SW:(List.replicate m.regs.toNat aE).length=m.regs.toNat:=List.length_replicate ..
 have L3:Θ (cL W3 w1.heap.size (List.replicate m.regs.toNat aE)):=⟨by rw [Rm];exact fH (by simp) (cK rfl),by rw [SW];unfold maxLen;omega⟩
 have C3:Θ (aK w0 W3 ⟨w1.heap.size+1,w1.heap.size,m.regs.toNat,P,CC,KA,pp,cc,kk⟩ ⟨m,List.replicate m.regs.toNat aE,aE,aE,0⟩):=by
  have:=H1.o.base
  refine ⟨by dsimp only;omega,by dsimp only;omega,?_,L3.o,sZ.o⟩
  rw [Rm]
  have e:lM ⟨w1.heap.size+1,w1.heap.size,m.regs.toNat,P,CC,KA,pp,cc,kk⟩ ⟨m,List.replicate m.regs.toNat aE,aE,aE,0⟩=#[.slice P m.params.length pp,ι m.ret.kind,ι m.ret.cls,ι m.stack,ι m.locs,ι m.regs,.slice CC m.code.length cc,.slice KA m.hands.length kk,.slice (some ⟨w1.heap.size,0,none⟩) m.regs.toNat m.regs.toNat,ι 0,ι 0,ι 0,ι 0,ι 0]:=by
   simp [lM,aE]
  rw [e]
  exact cK (by simp)
 have JT:Θ (Bl w1 W3):=mW
 rw [<-Rm]
 clear Rm mW SW x0 x1 x2 x3 x4 x5 x6 x7
 go_loopw [9,10] (fun fE i wr=>∃k:Nat,k<=l.length/\i=ι k/\fE=ι ((bN (l.take k):Nat):Int)/\Θ (dU w1.heap.size W3 wr)/\Θ (cL wr w1.heap.size (dT (List.replicate m.regs.toNat aE) 0 (l.take k)))) (fun _ i _=>l.length-(intOf i).toNat)
 case atStart=>exact ⟨0,Nat.zero_le _,rfl,rfl,dU.refl _ _,L3.o⟩
 case round =>
  obtain ⟨k,hk,rfl,rfl,ho,hL⟩:=hrel
  obtain ⟨a1,a2,a3,a4⟩:=EF UJ.o HL.o UK.o UM.o k hk
  by_cases LO:k<l.length
  ·obtain ⟨a5,a6⟩:=a4 LO
   clear a4
   have SY:ej lb w1 A l:=HA.o.fr HC.o.k F1.o
   have Xm:ej lb W3 A l:=SY.keep fun b cs f e _=>(JT.o.block _ (af e)).trans e
   have ZB:Θ (∀w',dU w1.heap.size W3 w'->ej lb w' A l):=fun w' o=>Xm.only o w1.heap.size (Nat.le_refl _) fun x y cs f hx hh VR=>by
    rcases SY with h0|⟨x',y',cs',f',Fp,QV,-⟩
    ·omega
    ·rw [hx] at Fp
     simp only [Option.some.injEq,Addr.mk.injEq] at Fp
     obtain ⟨rfl,-,-⟩:=Fp
     exact af QV
   obtain ⟨b,off,Ub,hcl⟩:=(ZB.o wr ho.o).fst (by omega)
   obtain ⟨v0,v1⟩:=hcl k LO
   subst Ub
   have y8:wr.cell? ⟨w1.heap.size+1,8,none⟩=some (.slice (some ⟨w1.heap.size,0,none⟩) m.regs.toNat m.regs.toNat):=by
    have hb:=(ho.o.block (w1.heap.size+1) (af C3.o.blk) (by omega)).trans C3.o.blk
    rw [ab hb]
    simp [lM]
   have hX:=sx LO
   have ZC:Θ (dT (List.replicate m.regs.toNat aE) 0 (l.take (k+1))=eL (dT (List.replicate m.regs.toNat aE) 0 (l.take k)) (bN (l.take k)) (nth aE l k)):=by
    show dT (List.replicate m.regs.toNat aE) 0 (l.take (k+1))=_
    rw [hX,tW,Nat.zero_add]
   have SZ:Θ (bN (l.take (k+1))=bN (l.take k)+bN [nth aE l k]):=by
    show bN (l.take (k+1))=_
    rw [hX,jD]
   have ZE:Θ (iK (dT (List.replicate m.regs.toNat aE) 0 (l.take k))):=a1
   have QK:Θ (m.regs.toNat=(dT (List.replicate m.regs.toNat aE) 0 (l.take k)).length):=a2.symm
   have H2:Θ ((nth aE l k).kind=2->bN (l.take k)+1<m.regs.toNat):=fun e=>by have:=a6 e;omega
   have UQ:bN (l.take k)<m.regs.toNat:=by omega
   have C9:bN [nth aE l k]<=2:=by have:=Br [nth aE l k];simp at this;omega
   have Fo:(0:Int)<=(k:Int):=by omega
   have PW:(k:Int)<(l.length:Int):=by omega
   have PE:l.length<=2 ^ 63-1:=by have:=HL.o;omega
   have hne:b≠w1.heap.size:=by
    rcases SY with h0|⟨x',y',cs',f',Fp,QV,-⟩
    ·omega
    ·simp only [Option.some.injEq,Addr.mk.injEq] at Fp
     obtain ⟨rfl,-,-⟩:=Fp
     have:=af QV
     omega
   clear hcl hX a1 a2 a6 SY Xm
   generalize nth aE l k=V at *
   generalize bN (l.take k)=T at *
   generalize (dT (List.replicate m.regs.toNat aE) 0 (l.take k))=AL at *
   go_wp2
   go_region_held3 (fun w'=>w'.cell? ⟨w1.heap.size+1,8,none⟩=some (.slice (some ⟨w1.heap.size,0,none⟩) m.regs.toNat m.regs.toNat)/\w'.cell? ⟨b,off+k*2,none⟩=some (ι V.kind)/\w'.cell? ⟨b,off+k*2+1,none⟩=some (ι V.n))
    (go_keep)
    (first
     | (go_at_call 52;refine (Jb w1.heap.size AL T m.regs.toNat m.regs.toNat V _ (by exact ⟨hL.o.blk,hL.o.len⟩) ZE.o QK.o UQ H2.o).mono ?_;rintro e w2 ⟨rfl,l2,o2⟩;have O2:Θ (dU w1.heap.size W3 w2):=(dU.drew ho.o).trans o2;have u8:w2.cell? ⟨w1.heap.size+1,8,none⟩=some (.slice (some ⟨w1.heap.size,0,none⟩) m.regs.toNat m.regs.toNat):=(by have hb:=(O2.o.block (w1.heap.size+1) (af C3.o.blk) (by omega)).trans C3.o.blk;rw [ab hb];simp [lM]);have u0:w2.cell? ⟨b,off+k*2,none⟩=some (ι V.kind):=(by rw [<-v0];exact World.cell?_of_block (o2.block b (br v0) hne));have u1:w2.cell? ⟨b,off+k*2+1,none⟩=some (ι V.n):=(by rw [<-v1];exact World.cell?_of_block (o2.block b (br v1) hne))))
   go_wp2_with (go_at_call 53;refine (KT _ _ 1 [V] _ (Ma u0 u1) (by simp) rfl).mono ?_;rintro e w3 ⟨rfl,sO⟩;rw [sO];clear sO w3)
   go_roundw
   case rel=>exact ⟨k+1,by omega,by go_num,by rw [SZ.o];go_num,O2,by show cL _ _ _;rw [ZC.o];exact l2⟩
   case measure=>simp [intOf];omega
  ·obtain rfl:k=l.length:=by omega
   generalize bN (List.take l.length l)=TT at *
   rw [List.take_length] at hL
   have Nh:Θ (aK w0 wr ⟨w1.heap.size+1,w1.heap.size,m.regs.toNat,P,CC,KA,pp,cc,kk⟩ (cv m l)):=by
    have:=C3.o.setLoc ho.o hL.o (by rw [List.take_length] at a2;rw [a2];simp)
    exact this
   have Xn:Θ (Hs w0 g wr p (h.enterH m l)):=dU.hs (H1.o.old JT.o) ho.o HC.o.k L3.o H1.o.base
   have Pd:Θ (fI wr w.heap.size m P CC KA pp cc kk):=⟨(ho.o.block _ (by have:=JT.o.size;omega) (by omega)).trans ((JT.o.block _ vm).trans Oo.o.blk)⟩
   have AO:Θ (aC wr (w.heap.size+1) aE):=⟨(ho.o.block _ (by have:=JT.o.size;omega) (by omega)).trans ((JT.o.block _ UN).trans kA.o.blk)⟩
   have JP:Θ (aC wr NB aE):=⟨(ho.o.block _ (by have:=JT.o.size;omega) (by omega)).trans ((JT.o.block _ UO).trans PV.o.blk)⟩
   have Pe:Θ (Fr w0.heap.size g.T w wr):=by
    have f3:Fr w0.heap.size g.T w W3:=(HF.o.trans F1.o).trans (Fr.old H1.o.base JT.o)
    refine ⟨⟨ho.o.os.trans f3.bl.os,ho.o.tape.trans f3.bl.tape,ho.o.output.trans f3.bl.output,Nat.le_trans f3.bl.size ho.o.size,fun b hb=>(ho.o.block b (by have:=f3.bl.size;omega) (by omega)).trans (f3.bl.block b hb)⟩,fun b cs t f e n=>?_⟩
    have:=af e
    exact (ho.o.block b (by have:=f3.bl.size;omega) (by omega)).trans (f3.keep b cs t f e n)
   have EY:Θ (L2 w0 g p ⟨w1.heap.size+1,w1.heap.size,m.regs.toNat,P,CC,KA,pp,cc,kk⟩ m wr (h.enterH m l) N LP N (h.enterH m l) (cv m l) wr):=by
    have EH:=HB.o
    unfold Hp.enterB at EH
    rw [Bool.and_eq_true] at EH
    have hd:h.deep=false:=by simpa using EH.2
    have Rn:h.enterH m l={ h with calls:=h.calls+1 }:=by
     unfold Hp.enterH;rw [if_neg (by rw [EH.1];decide),if_neg (by rw [hd];decide)]
    have Qz:h.calls<20:=by
     unfold Hp.deep at hd;simpa using hd
    have gc:=nQ UJ.o Bb.o HL.o UK.o UM.o
    have g1:Gh 0 (h.enterH m l):=by
     have gh:=Xj.o
     rw [Rn]
     exact ⟨fun o ho x hx=>⟨(gh.held o ho x hx).ref,(gh.held o ho x hx).num⟩,gh.thr,gh.used,gh.steps,gh.fuel,gh.o,gh.len,gh.inp,by dsimp only;omega⟩
    refine ⟨Xn.o,Nh.o,Fq.refl _ _ _ _,g1,by rw [Rn];exact Xk.o,by rw [Rn];dsimp only;omega,fun _=>?_,rfl,rfl,rfl,rfl,by rw [Rn];exact sP.o,Nat.le_refl _,Xl.o⟩
    rw [Rn]
    exact ⟨Ng.o,⟨⟨gc.giv.ref,gc.giv.num⟩,⟨gc.cau.ref,gc.cau.num⟩,fun v hv=>⟨(gc.locs v hv).ref,(gc.locs v hv).num⟩,gc.ok,gc.len,gc.me,gc.mok⟩,Int.le_refl _,by show (0:Int)<=_;omega⟩
   have ZF:Θ (Env w0 g (h.enterH m l)):=by
    refine HE.o.of ?_ ?_<;>(unfold Hp.enterH;split;exact (by first|exact (gN h 6).file|exact (gN h 6).input);split;exact (by first|exact (gN h 5).file|exact (gN h 5).input);rfl)
   have hpw:p<w.heap.size:=by obtain ⟨vo,vx,hv,X⟩:=Xi.o;exact af X.blk
   obtain ⟨WA,ZG⟩:∃WA,WA=wr:=⟨wr,rfl⟩
   subst ZG
   clear HF HH HM HR HN HA HP HL HG Xj Xk UJ Bb UK Ng sP Xl UM NL F1 kA PV Oo H1 C3 L3 JT Nh Xn a1 a2 a3 a4 hL ho tL HB HE Xi
   generalize h.enterH m l=h0 at *
   generalize cv m l=c0 at *
   go_wp2
   (try (rename_i ZH ZI ZJ;clear ZH))
   go_loopw [15] (fun _ wr=>∃(k:Nat) (h1:Hp) (c1:aL),Θ (L2 w0 g p ⟨w1.heap.size+1,w1.heap.size,m.regs.toNat,P,CC,KA,pp,cc,kk⟩ m WA h0 N LP k h1 c1 wr)) (fun _ wr=>ph p h0.fuel wr)
   case atStart=>exact ⟨N,h0,c0,EY⟩
   case round =>
    obtain ⟨k,h1,c1,lx⟩:=hrel
    have n3:w.heap.size+1≠w1.heap.size+1:=by omega
    have n4:w.heap.size+1≠w1.heap.size:=by omega
    have Ni:NB≠w1.heap.size+1:=by omega
    have n14:NB≠w1.heap.size:=by omega
    have n5:w.heap.size≠w1.heap.size+1:=by omega
    have n6:w.heap.size≠w1.heap.size:=by omega
    have Cb:w.heap.size+1≠p:=by omega
    have ZK:p≠w.heap.size+1:=by omega
    have CP:NB≠p:=by have:=PG.o;omega
    have ZL:p≠NB:=Ne.symm CP
    have Ia:NB≠w.heap.size+1:=by have:=PG.o;omega
    have ZM:w.heap.size+1≠NB:=Ne.symm Ia
    have Pf:w.heap.size<=w1.heap.size+1:=by omega
    have MU:w.heap.size<=w1.heap.size:=by omega
    have hst:0<=h1.sh.steps/\h1.sh.steps<=60000:=by have:=lx.o.gh.steps;have:=lx.o.gh.fuel;have:=lx.o.gh.o;omega
    cases J3:h1.stepB
    ·as_aux_lemma =>
     have vC:Θ (LP=(h1.step.leave,aE)):=lx.o.is.symm.trans (Jc J3)
     have yG:0<=h1.step.calls/\h1.step.calls<=20:=by rw [(jC h1).calls];exact lx.o.gh.calls
     repeat (first|(go_big_may;go_says (go_at_call 54;refine (xp w0 g HC.o.k p h1 _ lx.o.hs hst).mono ?_;rintro e w2 ⟨he,h2,f2⟩;rw [J3] at he;subst he;have Cc:=ae (And.intro h2 (lx.o.fq.trans f2.fq));obtain ⟨c4,f4⟩:=Hs.c4 Cc.o.1;obtain ⟨r0,r1,rf⟩:=aC.three (AO.o.fq HC.o.k (lx.o.fq.trans f2.fq) n3 n4);obtain ⟨Jd,Je,-⟩:=aC.three (JP.o.fq HC.o.k (lx.o.fq.trans f2.fq) Ni n14);clear h2 f2 lx))|go_values|go_skip|go_guarded|go_step|go_upon|(simp only [Int.not_lt,Int.not_le] at *;go_simp)|(go_values<;>(try go_simp))|(go_ite<;>go_prune<;>(try go_simp)))
     (try simp only [Exit.inBlock,Exit.then])
     obtain ⟨⟨vo,vx,hv,nz⟩,sN⟩:=Cc.o
     have oB:=AO.o.fq HC.o.k sN n3 n4
     refine bodyPost_ret (results_cell_row rfl _ _ (w.heap.size+1) _ _ _ _ rfl ((oB.far Cb).set aE).blk underlying62 rfl bC) rfl ?_
     rw [vC.o]
     exact ⟨rfl,⟨vo,vx,hv,(nz.leave HC.o.k).cf ((oB.far Cb).cf HC.o.k iH _ _)⟩,((((Fq.fr Pe.o sN Pf MU).trans (nz.frSet 4 _)).new lN iH _).new lN iH _)⟩
    ·have EI:=J3
     unfold Hp.stepB at EI
     simp at EI
     obtain ⟨k',rfl⟩:∃k',k=k'+1:=⟨k-1,by have:=lx.o.left;omega⟩
     have hle:=jC h1
     have Pg:h1.step={ h1 with sh:={ h1.sh with steps:=h1.sh.steps+1 } }:=by unfold Hp.step;rw [if_neg (by rw [EI.1];decide),if_neg (by omega)]
     obtain ⟨Ro,N3,Rp⟩:=lx.o.inv EI.1
     have Mf:Θ (h1.step.over=false):=by show h1.step.over=false;rw [Pg];exact EI.1
     have Xo:Θ (h1.step.thrown=-1):=by show h1.step.thrown=-1;rw [Pg];exact Ro
     have G2:Θ (Gh 1 h1.step):=lx.o.gh.step J3
     have Xq:Θ (Kd h1.step):=lx.o.kd.step
     have E7:Θ (Gc h1.step c1):=N3.le hle
     have sX:Θ (0<=c1.pc/\c1.pc<=c1.m.code.length):=Rp
     have oh:Θ (c1.m=m):=lx.o.me
     have UR:Θ ((h1.step.fuel-h1.step.sh.steps).toNat<=k'):=by
      show (h1.step.fuel-h1.step.sh.steps).toNat<=k'
      have:=lx.o.left
      rw [Pg];dsimp only;omega
     have US:Θ (k'<N):=by have:=lx.o.le;show k'<N;omega
     have ym:Θ (Env w0 g h1.step):=ZF.o.of (hle.file.trans lx.o.file) (hle.input.trans lx.o.inp)
     have M1:Θ (h1.step.file=h0.file/\h1.step.input=h0.input/\h1.step.fuel=h0.fuel):=⟨hle.file.trans lx.o.file,hle.input.trans lx.o.inp,hle.fuel.trans lx.o.fuel⟩
     have Xr:Θ (1<=h1.step.calls):=by show 1<=h1.step.calls;rw [hle.calls];exact lx.o.calls
     have UT:Θ (LP=gw (cn k') h1.step c1):=by
      show LP=_
      rw [<-lx.o.is]
      show (if h1.stepB=false then _ else _)=_
      rw [if_neg (by rw [J3];decide)]
     have Xs:Θ (ph p h0.fuel wr=(h0.fuel-(h1.step.sh.steps-1)).toNat/\h1.step.sh.steps<=h0.fuel/\1<=h1.step.sh.steps):=by
      refine ⟨(we lx.o.hs _).trans ?_,?_,?_⟩
      ·rw [Pg];dsimp only;congr 1;omega
      ·have:=lx.o.fuel;rw [Pg];dsimp only;omega
      ·have:=lx.o.gh.o;rw [Pg];dsimp only;omega
     have SA:Θ (χ 54 #[π p 0] wr fun e w'=>e=.returned (.bool true)/\Hs w0 g w' p h1.step/\Fr w0.heap.size g.T wr w'):=(xp w0 g HC.o.k p h1 _ lx.o.hs hst).mono fun e w' hh=>⟨by rw [hh.1,J3],hh.2⟩
     have UU:=ae lx.o.cs
     have NV:=ae lx.o.fq
     clear J3 EI Pg hle Ro N3 Rp hst lx
     generalize h1.step=h2 at *
     by_cases Bn:c1.pc<m.code.length
     ·have JN:=sX.o
      obtain ⟨n,hn⟩:∃n:Nat,c1.pc=n:=⟨c1.pc.toNat,by omega⟩
      have HN:=ae hn
      have pE:n<m.code.length:=by omega
      have wG:m.code.length<=2 ^ 63-1:=by have:=sZ.o.2.1.1;unfold maxLen at this;omega
      have iw:(0:Int)<=(n:Int):=by omega
      have fT:(n:Int)<(m.code.length:Int):=by omega
      obtain ⟨xb,xo,Qa,qq,Xt,SQ,T5⟩:∃xb xo Qa qq,CC=some ⟨xb,xo,none⟩/\Θ (∀w',Bl w0 w'->w'.cell? ⟨xb,xo+n*6,none⟩=some (ι (nth eR m.code n).op)/\w'.cell? ⟨xb,xo+n*6+1,none⟩=some (ι (nth eR m.code n).a)/\w'.cell? ⟨xb,xo+n*6+2,none⟩=some (ι (nth eR m.code n).b)/\w'.cell? ⟨xb,xo+n*6+3,none⟩=some (ι (nth eR m.code n).c)/\w'.cell? ⟨xb,xo+n*6+4,none⟩=some (ι (nth eR m.code n).n)/\w'.cell? ⟨xb,xo+n*6+5,none⟩=some (.slice Qa (nth eR m.code n).args.length qq))/\Θ (aU w0 Qa (nth eR m.code n).args):=by
       rcases sZ.o.2.1.2 with X6|⟨xb,xo,hX,hc⟩
       ·omega
       obtain ⟨e0,e1,e2,e3,e4,-,Qa,qq,e5,e6⟩:=hc n pE
       exact ⟨xb,xo,Qa,qq,hX,fun w' hb=>⟨hb.cell e0,hb.cell e1,hb.cell e2,hb.cell e3,hb.cell e4,hb.cell e5⟩,e6⟩
      have ZN:=ae Xt
      have hd:decide ((n:Int)<(m.code.length:Int))=true:=decide_eq_true fT
      have Gq:(!h2.over)=true:=by rw [Mf.o];rfl
      have yn:Θ (pR h2.file.classes h2.file.methods c1.m.code.length c1.m.regs c1.m.ret.kind (nth eR m.code n)/\(nth eR m.code n).ok):=by
       have:=nT E7.o ⟨by omega,by rw [oh.o];omega⟩
       rw [hn,Int.toNat_natCast] at this
       rw [<-oh.o];exact this
      have Ph:Θ (LP=if (nth eR m.code n).op=20 then lC h2 c1 (nth eR m.code n) else dM (cn k') (kl k' h2 c1 (nth eR m.code n))):=by
       show LP=_
       have e1:h2.mustB (decide (c1.pc<c1.m.code.length))=true:=by rw [mm h2 Mf.o,oh.o];exact decide_eq_true Bn
       rw [UT.o]
       unfold gw
       rw [if_neg (by rw [e1];decide),hn,Int.toNat_natCast,oh.o]
       rfl
      clear JN hn Bn Xt UT
      generalize (nth eR m.code n)=I at *
      go_wp2_with (go_at_call 54;refine SA.o.mono ?_;rintro e w2 ⟨rfl,tt,f2⟩;have Nj:=ae (NV.o.trans f2.fq);have F2:=ae f2;have tL:=ae tt;have Pj:=aK.fr UU.o HC.o.k HC.o.n7 f2;have d13:w2.cell? ⟨w1.heap.size+1,13,none⟩=some (ι (n:Int)):=(by rw [<-HN.o];exact Pj.cells.c13);have m6:=(Pd.o.fq HC.o.k Nj.o n5 n6).cells.c6;rw [ZN.o] at m6;have Rq:=ae Pj;obtain ⟨i0,i1,i2,i3,i4,i5⟩:=SQ.o w2 tt.bl;have BJ:=af Pj.blk;have EZ:=af (Pd.o.fq HC.o.k Nj.o n5 n6).blk;have pT:=br i0;clear Pj f2 tt)
      go_region_held3 (fun w'=>w'.cell? ⟨w1.heap.size+1,13,none⟩=some (ι (n:Int))/\w'.cell? ⟨w.heap.size,6,none⟩=some (.slice (some ⟨xb,xo,none⟩) m.code.length cc))
       (go_keep)
       (first
        | (go_at_call 55;refine (fU w0 g p h2 _ (by first|exact tL.o.cf (Cf.drew (Cf.refl _ _ _))|exact tL.o)).mono ?_;rintro e w3 ⟨he,sO⟩;rw [Gq] at he;subst he;rw [sO];clear sO w3))
      (try (rename_i ZO;clear ZO))
      go_wp2
      go_region_held3 (fun w'=>w'.cell? ⟨w1.heap.size+1,13,none⟩=some (ι (n:Int))/\w'.cell? ⟨w.heap.size,6,none⟩=some (.slice (some ⟨xb,xo,none⟩) m.code.length cc)/\w'.cell? ⟨xb,xo+n*6,none⟩=some (ι I.op)/\w'.cell? ⟨xb,xo+n*6+1,none⟩=some (ι I.a)/\w'.cell? ⟨xb,xo+n*6+2,none⟩=some (ι I.b)/\w'.cell? ⟨xb,xo+n*6+3,none⟩=some (ι I.c)/\w'.cell? ⟨xb,xo+n*6+4,none⟩=some (ι I.n)/\w'.cell? ⟨xb,xo+n*6+5,none⟩=some (.slice Qa I.args.length qq))
       (go_keep)
       (fail)
      (try (rename_i ZP;clear ZP))
      have UW:p<w2.heap.size:=by obtain ⟨wW,wX,FK,X'⟩:=tL.o;exact af X'.blk
      have UX:w.heap.size+1<w2.heap.size:=af (AO.o.fq HC.o.k Nj.o n3 n4).blk
      have UY:NB<w2.heap.size:=af (JP.o.fq HC.o.k Nj.o Ni n14).blk
      obtain ⟨V5,Su⟩:∃V5,V5=(w2.alloc (.cells #[ι I.op,ι I.a,ι I.b,ι I.c,ι I.n,.slice Qa I.args.length qq] 55)).drew.drew:=⟨_,rfl⟩
      obtain ⟨ib,Sl⟩:∃ib,ib=w2.heap.size:=⟨_,rfl⟩
      rw [<-Su,<-Sl]
      have Rr:Bl w2 V5:=by rw [Su];exact ((Bl.refl w2).alloc _).drew.drew
      have S0:Θ (Hs w0 g V5 p h2):=tL.o.old Rr
      have JU:Θ (aK w0 V5 ⟨w1.heap.size+1,w1.heap.size,m.regs.toNat,P,CC,KA,pp,cc,kk⟩ c1):=Rq.o.old Rr
      have Mh:Θ (Fq w0.heap.size g.T ⟨w1.heap.size+1,w1.heap.size,m.regs.toNat,P,CC,KA,pp,cc,kk⟩ WA V5):=Nj.o.trans (Fr.fq (Fr.old tL.o.base Rr))
      have Rs:Θ (cP V5 ib I.op I.a I.b I.c I.n Qa I.args.length qq):=⟨by rw [Su,Sl];exact (aB w2 _ _)⟩
      have Xv:Θ (fI V5 w.heap.size m P CC KA pp cc kk):=Pd.o.fq HC.o.k Mh.o n5 n6
      have UZ:=af Rs.o.blk
      have ZQ:w2.heap.size<=ib:=by omega
      have ZR:ib≠w1.heap.size+1:=by omega
      have ZS:w1.heap.size+1≠ib:=by omega
      have kI:=Rr.size
      clear Su Rr i0 i1 i2 i3 i4 i5 d13 m6
      have PK:=S0.o.base
      have j0:=Rs.o.cs.1
      have ZT:=af JU.o.blk
      have ZU:=af JU.o.loc.blk
      dsimp only at ZT ZU
      have Yt:p<V5.heap.size:=by omega
      have hr5:w.heap.size+1<V5.heap.size:=by omega
      have Xh:NB<V5.heap.size:=by omega
      have hm5:w.heap.size<V5.heap.size:=by omega
      have n20:w.heap.size≠V5.heap.size:=by omega
      have n21:V5.heap.size≠p:=by omega
      have ZV:p≠V5.heap.size:=by omega
      have n22:V5.heap.size≠w.heap.size+1:=by omega
      have ZW:w.heap.size+1≠V5.heap.size:=by omega
      have n23:V5.heap.size≠w1.heap.size+1:=by omega
      have n24:V5.heap.size≠w1.heap.size:=by omega
      have n25:V5.heap.size≠NB:=by omega
      have n26:NB≠V5.heap.size:=by omega
      clear Sl ZQ kI UW UX UY BJ EZ pT tL Rq F2 Nj
      by_cases hop:I.op=20
      ·by_cases Db:m.ret.kind=0
       ·as_aux_lemma =>
        have vC:Θ (LP=(h2.leave,aE)):=by
         show LP=_
         rw [Ph.o,if_pos hop]
         unfold lC
         rw [if_pos (by rw [oh.o];exact Db)]
        have hz:(I.op==20)=true:=by simpa using hop
        have ZX:(m.ret.kind !=0)=false:=by simpa using Db
        have yG:0<=h2.calls/\h2.calls<=20:=G2.o.calls
        have m1:=Xv.o.cells.c1
        clear hop Db
        have Cc:=ae (And.intro S0.o Mh.o)
        obtain ⟨c4,f4⟩:=Hs.c4 Cc.o.1
        obtain ⟨r0,r1,rf⟩:=aC.three (AO.o.fq HC.o.k Mh.o n3 n4)
        obtain ⟨Jd,Je,-⟩:=aC.three (JP.o.fq HC.o.k Mh.o Ni n14)
        repeat (first|go_values|go_skip|go_guarded|go_step|go_upon|(simp only [Int.not_lt,Int.not_le] at *;go_simp)|(go_values<;>(try go_simp))|(go_ite<;>go_prune<;>(try go_simp)))
        (try simp only [Exit.inBlock,Exit.then])
        obtain ⟨⟨vo,vx,hv,nz⟩,sN⟩:=Cc.o
        have oB:=AO.o.fq HC.o.k sN n3 n4
        have Xw:=((oB.far Cb).set aE:aC (((V5.setCell ⟨p,4,none⟩ (ι (h2.calls-1))).setCell ⟨w.heap.size+1,0,none⟩ (ι aE.kind)).setCell ⟨w.heap.size+1,1,none⟩ (ι aE.n)) (w.heap.size+1) aE).blk
        refine bodyPost_ret (results_cell_row rfl _ _ (w.heap.size+1) _ _ _ _ rfl (fH (o':=eI) (af Xw) Xw) underlying62 rfl bC) rfl ?_
        rw [vC.o]
        have Xx:Hs w0 g (((V5.setCell ⟨p,4,none⟩ (ι (h2.calls-1))).setCell ⟨w.heap.size+1,0,none⟩ (ι aE.kind)).setCell ⟨w.heap.size+1,1,none⟩ (ι aE.n)) p h2.leave:=⟨vo,vx,hv,(nz.leave HC.o.k).cf ((oB.far Cb).cf HC.o.k iH _ _)⟩
        have ZY:Fr w0.heap.size g.T w (((V5.setCell ⟨p,4,none⟩ (ι (h2.calls-1))).setCell ⟨w.heap.size+1,0,none⟩ (ι aE.kind)).setCell ⟨w.heap.size+1,1,none⟩ (ι aE.n)):=((((Fq.fr Pe.o sN Pf MU).trans (nz.frSet 4 _)).new lN iH _).new lN iH _)
        exact ⟨rfl,Xx.old ((Bl.refl _).alloc _),ZY.trans (Fr.old Xx.base ((Bl.refl _).alloc _))⟩
       ·as_aux_lemma =>
        have hz:(I.op==20)=true:=by simpa using hop
        have ZX:(m.ret.kind !=0)=true:=by simpa using Db
        have qp:0<=I.a/\I.a<c1.locs.length:=by
         have e1:=yn.o.1.ret hop (by rw [oh.o];exact Db)
         have e2:=E7.o.len
         omega
        have MV:Θ ((c1.rd I.a).kind=3->(c1.rd I.a).n<(h2.rdH c1 I.a m.ret.kind).objs.length):=fun e=>by rw [eO];exact ((E7.o.rd (a:=I.a) (by have:=E7.o.len;omega)).ref e).2
        have Rt:Θ (LP=(((h2.rdH c1 I.a m.ret.kind).must (!(h2.rdH c1 I.a m.ret.kind).over&&(h2.rdH c1 I.a m.ret.kind).of (c1.rd I.a) m.ret)).leave,(c1.rd I.a))):=by
         show LP=_
         rw [Ph.o,if_pos hop]
         unfold lC
         rw [if_neg (by rw [oh.o];exact Db),oh.o]
        have Xy:=ae ((ym.o.cq.same (dW h2 c1 I.a m.ret.kind)).cw)
        have ZZ:=ae ym.o.cq
        have yG:0<=(h2.rdH c1 I.a m.ret.kind).calls/\(h2.rdH c1 I.a m.ret.kind).calls<=20:=by rw [(dP h2 c1 I.a m.ret.kind).calls];exact G2.o.calls
        have j1:=Rs.o.cs.2.1
        have m1:=Xv.o.cells.c1
        have S2:Bl V5 (V5.alloc (.cells #[ι 0,ι 0] 62)):=(Bl.refl _).alloc _
        have Aq:Θ (Hs w0 g (V5.alloc (.cells #[ι 0,ι 0] 62)) p h2):=S0.o.old S2
        have EJ:Θ (aK w0 (V5.alloc (.cells #[ι 0,ι 0] 62)) ⟨w1.heap.size+1,w1.heap.size,m.regs.toNat,P,CC,KA,pp,cc,kk⟩ c1):=JU.o.old S2
        have Jf:Θ (Fq w0.heap.size g.T ⟨w1.heap.size+1,w1.heap.size,m.regs.toNat,P,CC,KA,pp,cc,kk⟩ WA (V5.alloc (.cells #[ι 0,ι 0] 62))):=Mh.o.trans (Fr.fq (Fr.old PK S2))
        have Zu:Θ (aC (V5.alloc (.cells #[ι 0,ι 0] 62)) V5.heap.size aE):=⟨cK rfl⟩
        obtain ⟨Jd,Je,-⟩:=aC.three (JP.o.fq HC.o.k Mh.o Ni n14)
        clear hop Db S2
        repeat (first|(go_big_may;go_says (go_at_call 74;refine (bQ w0 g p h2 ⟨w1.heap.size+1,w1.heap.size,m.regs.toNat,P,CC,KA,pp,cc,kk⟩ c1 I.a m.ret.kind _ Aq.o EJ.o ZZ.o qp).mono ?_;rintro e w7 ⟨rfl,h7,f7⟩;have B7:=ae (Zu.o.keep HC.o.k f7);have u0:=B7.o.c0;have u1:=B7.o.c1;have uf:=B7.o.fr;have H7:=ae h7;have F7:=ae f7;clear h7 f7))|go_values|go_skip|go_guarded|go_step|go_upon|(simp only [Int.not_lt,Int.not_le] at *;go_simp)|(go_values<;>(try go_simp))|(go_ite<;>go_prune<;>(try go_simp)))
        have Uu:Θ (Hs w0 g ((w7.setCell ⟨V5.heap.size,0,none⟩ (ι (c1.rd I.a).kind)).setCell ⟨V5.heap.size,1,none⟩ (ι (c1.rd I.a).n)) p (h2.rdH c1 I.a m.ret.kind)):=H7.o.cf (B7.o.cf HC.o.k PK _ _)
        have Xz:Fr w0.heap.size g.T V5 ((w7.setCell ⟨V5.heap.size,0,none⟩ (ι (c1.rd I.a).kind)).setCell ⟨V5.heap.size,1,none⟩ (ι (c1.rd I.a).n)):=(((Fr.old PK ((Bl.refl _).alloc _)).trans F7.o).new (Nat.le_refl _) PK _).new (Nat.le_refl _) PK _
        have F8:Θ (Fq w0.heap.size g.T ⟨w1.heap.size+1,w1.heap.size,m.regs.toNat,P,CC,KA,pp,cc,kk⟩ WA ((w7.setCell ⟨V5.heap.size,0,none⟩ (ι (c1.rd I.a).kind)).setCell ⟨V5.heap.size,1,none⟩ (ι (c1.rd I.a).n))):=Mh.o.trans Xz.fq
        have B8:Θ (aC ((w7.setCell ⟨V5.heap.size,0,none⟩ (ι (c1.rd I.a).kind)).setCell ⟨V5.heap.size,1,none⟩ (ι (c1.rd I.a).n)) V5.heap.size (c1.rd I.a)):=B7.o.set (c1.rd I.a)
        have XC:Θ (fI ((w7.setCell ⟨V5.heap.size,0,none⟩ (ι (c1.rd I.a).kind)).setCell ⟨V5.heap.size,1,none⟩ (ι (c1.rd I.a).n)) w.heap.size m P CC KA pp cc kk):=Pd.o.fq HC.o.k F8.o n5 n6
        have S4:Θ (∀w',Fr w0.heap.size g.T ((w7.setCell ⟨V5.heap.size,0,none⟩ (ι (c1.rd I.a).kind)).setCell ⟨V5.heap.size,1,none⟩ (ι (c1.rd I.a).n)) w'->(fun w'=>w'.cell? ⟨V5.heap.size,0,none⟩=some (ι (c1.rd I.a).kind)/\w'.cell? ⟨V5.heap.size,1,none⟩=some (ι (c1.rd I.a).n)/\w'.cell? ⟨w.heap.size,1,none⟩=some (ι m.ret.kind)/\w'.cell? ⟨w.heap.size,2,none⟩=some (ι m.ret.cls)) w'):=fun w' f=>⟨(B8.o.keep HC.o.k f).c0,(B8.o.keep HC.o.k f).c1,(XC.o.fr HC.o.k f).cells.c1,(XC.o.fr HC.o.k f).cells.c2⟩
        have SS:=ae (S4.o _ (Fr.refl _ _ _))
        have mI:((w7.setCell ⟨V5.heap.size,0,none⟩ (ι (c1.rd I.a).kind)).setCell ⟨V5.heap.size,1,none⟩ (ι (c1.rd I.a).n)).cell? ⟨p,12,none⟩=some (.bool (h2.rdH c1 I.a m.ret.kind).over):=by obtain ⟨wW,wX,FK,X'⟩:=Uu.o;exact X'.cells.c12
        clear u0 u1 uf Xz
        cases cY:(h2.rdH c1 I.a m.ret.kind).over
        ·rw [cY] at mI
         obtain ⟨R,hR⟩:∃R,(h2.rdH c1 I.a m.ret.kind).of (c1.rd I.a) ⟨m.ret.kind,m.ret.cls⟩=R:=⟨_,rfl⟩
         have Q4:=ae hR
         have vC:Θ (LP=(((h2.rdH c1 I.a m.ret.kind).must R).leave,(c1.rd I.a))):=by
          show LP=_
          rw [Rt.o,cY]
          show (((h2.rdH c1 I.a m.ret.kind).must (true&&(h2.rdH c1 I.a m.ret.kind).of (c1.rd I.a) ⟨m.ret.kind,m.ret.cls⟩)).leave,(c1.rd I.a))=_
          rw [hR];rfl
         have yG:0<=((h2.rdH c1 I.a m.ret.kind).must R).calls/\((h2.rdH c1 I.a m.ret.kind).must R).calls<=20:=by rw [(dw (h2.rdH c1 I.a m.ret.kind) R).calls];exact yG
         clear hR
         refine wp_region_held_drew (S:=fun w'=>w'.cell? ⟨V5.heap.size,0,none⟩=some (ι (c1.rd I.a).kind)/\w'.cell? ⟨V5.heap.size,1,none⟩=some (ι (c1.rd I.a).n)/\w'.cell? ⟨w.heap.size,1,none⟩=some (ι m.ret.kind)/\w'.cell? ⟨w.heap.size,2,none⟩=some (ι m.ret.cls)) (by kernel_rfl) ?_ (fun aa=>?_)
         ·exact SS.o
         iterate 7 (refine tn rfl (by kernel_rfl) (fun _ _ _ h=>h) (by intro _ h;go_split_ands;go_simp<;>with_reducible rfl) aa ?_;try simp only [aZ])
         refine aY (i:=7) (by kernel_rfl) rfl fun K hK=>?_
         go_wp2_with fail
         refine hK.out _ _ (aa) (fun ah=>?_)
         try simp only [aZ]
         iterate 8 (refine tn rfl (by kernel_rfl) (fun _ _ _ h=>h) (by intro _ h;go_split_ands;go_simp<;>with_reducible rfl) ah ?_;try simp only [aZ])
         refine aY (i:=16) (by kernel_rfl) rfl fun K hK=>?_
         rw [if_pos]
         rotate_left 1
         ·rfl
         go_simp
         go_at_call 57
         refine (ji w0 g p (h2.rdH c1 I.a m.ret.kind) (c1.rd I.a) ⟨m.ret.kind,m.ret.cls⟩ _ (Uu.o.drewN 1) Xy.o.cls Xy.o.tree MV.o).mono ?_
         rintro e w9 ⟨he,h9,f9,b9⟩
         rw [Q4.o] at he
         subst he
         have F9:=ae (((Fr.refl w0.heap.size g.T ((w7.setCell ⟨V5.heap.size,0,none⟩ (ι (c1.rd I.a).kind)).setCell ⟨V5.heap.size,1,none⟩ (ι (c1.rd I.a).n))).drewN 1).trans f9)
         have d9:=ae (S4.o _ F9.o)
         have H9:=ae h9
         clear h9 f9 b9
         go_wp2_with fail
         refine hK.out _ _ (d9.o) (fun aH=>?_)
         try simp only [aZ]
         refine tn rfl (by kernel_rfl) (fun _ _ _ h=>h) (by intro _ h;go_split_ands;go_simp<;>with_reducible rfl) aH ?_
         try simp only [aZ]
         refine aY (i:=18) (by kernel_rfl) rfl fun K hK=>?_
         go_simp
         go_at_call 55
         refine (bZ w0 g HC.o.k p (h2.rdH c1 I.a m.ret.kind) R _ H9.o).mono ?_
         rintro e Z0 ⟨rfl,rZ,f10⟩
         have d10:=ae (S4.o _ (F9.o.trans f10))
         have U0:=ae ((B8.o).keep HC.o.k (F9.o.trans f10))
         have Pk:=ae (F8.o.trans (F9.o.trans f10).fq)
         have Rv:=ae rZ
         clear rZ f10
         go_wp2_with fail
         refine hK.out _ _ (d10.o) (fun bG=>?_)
         try simp only [aZ]
         refine wpAnyH_done (by kernel_rfl) ?_ _
         have Pm:=Rv.o
         obtain ⟨vo,vx,hv,nz⟩:=Pm
         have c4:=nz.cells.c4
         have f4:=nz.free 4
         obtain ⟨r0,r1,rf⟩:=aC.three (AO.o.fq HC.o.k Pk.o n3 n4)
         obtain ⟨k0,k1,-⟩:=aC.three U0.o
         clear nz
         repeat (first|go_values|go_skip|go_guarded|go_step|go_upon|(simp only [Int.not_lt,Int.not_le] at *;go_simp)|(go_values<;>(try go_simp))|(go_ite<;>go_prune<;>(try go_simp)))
         (try simp only [Exit.inBlock,Exit.then])
         obtain ⟨vo,vx,hv,nz⟩:=Rv.o
         have oB:=AO.o.fq HC.o.k Pk.o n3 n4
         refine bodyPost_ret (results_cell_row rfl _ _ (w.heap.size+1) _ _ _ _ rfl ((oB.far Cb).set (c1.rd I.a)).blk underlying62 rfl bC) rfl ?_
         rw [vC.o]
         exact ⟨rfl,⟨vo,vx,hv,(nz.leave HC.o.k).cf ((oB.far Cb).cf HC.o.k iH _ _)⟩,((((Fq.fr Pe.o Pk.o Pf MU).trans (nz.frSet 4 _)).new lN iH _).new lN iH _)⟩
        ·rw [cY] at mI
         have vC:Θ (LP=(((h2.rdH c1 I.a m.ret.kind).must false).leave,(c1.rd I.a))):=by
          show LP=_
          rw [Rt.o,cY]
          rfl
         have yG:0<=((h2.rdH c1 I.a m.ret.kind).must false).calls/\((h2.rdH c1 I.a m.ret.kind).must false).calls<=20:=by rw [(dw (h2.rdH c1 I.a m.ret.kind) false).calls];exact yG
         refine wp_region_held_drew (S:=fun w'=>w'.cell? ⟨V5.heap.size,0,none⟩=some (ι (c1.rd I.a).kind)/\w'.cell? ⟨V5.heap.size,1,none⟩=some (ι (c1.rd I.a).n)/\w'.cell? ⟨w.heap.size,1,none⟩=some (ι m.ret.kind)/\w'.cell? ⟨w.heap.size,2,none⟩=some (ι m.ret.cls)) (by kernel_rfl) ?_ (fun aa=>?_)
         ·exact SS.o
         iterate 7 (refine tn rfl (by kernel_rfl) (fun _ _ _ h=>h) (by intro _ h;go_split_ands;go_simp<;>with_reducible rfl) aa ?_;try simp only [aZ])
         refine aY (i:=7) (by kernel_rfl) rfl fun K hK=>?_
         go_wp2_with fail
         refine hK.out _ _ (aa) (fun ah=>?_)
         try simp only [aZ]
         iterate 2 (refine tn rfl (by kernel_rfl) (fun _ _ _ h=>h) (by intro _ h;go_split_ands;go_simp<;>with_reducible rfl) ah ?_;try simp only [aZ])
         refine eE (i:=10) (d:=some 106) rfl rfl (by kernel_rfl) (by kernel_rfl) (by kernel_rfl) (fun _ _ _ h=>h) (by rfl) ah ?_
         try simp only [aZ]
         refine eE (i:=11) (d:=some 107) rfl rfl (by kernel_rfl) (by kernel_rfl) (by kernel_rfl) (fun _ _ _ h=>h) (by rfl) ah ?_
         try simp only [aZ]
         refine eE (i:=12) (d:=some 108) rfl rfl (by kernel_rfl) (by kernel_rfl) (by kernel_rfl) (fun _ _ _ h=>h) (by rfl) ah ?_
         try simp only [aZ]
         refine eE (i:=13) (d:=some 109) rfl rfl (by kernel_rfl) (by kernel_rfl) (by kernel_rfl) (fun _ _ _ h=>h) (by rfl) ah ?_
         try simp only [aZ]
         refine eE (i:=14) (d:=some 110) rfl rfl (by kernel_rfl) (by kernel_rfl) (by kernel_rfl) (fun _ _ _ h=>h) (by rfl) ah ?_
         try simp only [aZ]
         refine eE (i:=15) (d:=some 111) rfl rfl (by kernel_rfl) (by kernel_rfl) (by kernel_rfl) (fun _ _ _ h=>h) (by rfl) ah ?_
         try simp only [aZ]
         refine eE (i:=16) (d:=some 112) rfl rfl (by kernel_rfl) (by kernel_rfl) (by kernel_rfl) (fun _ _ _ h=>h) (by rfl) ah ?_
         try simp only [aZ]
         refine tn rfl (by kernel_rfl) (fun _ _ _ h=>h) (by intro _ h;go_split_ands;go_simp<;>with_reducible rfl) ah ?_
         try simp only [aZ]
         refine aY (i:=18) (by kernel_rfl) rfl fun K hK=>?_
         go_simp
         go_at_call 55
         refine (bZ w0 g HC.o.k p (h2.rdH c1 I.a m.ret.kind) false _ (Uu.o.drewN 1)).mono ?_
         rintro e Z0 ⟨rfl,rZ,f10⟩
         have d10:=ae (S4.o _ (((Fr.refl w0.heap.size g.T ((w7.setCell ⟨V5.heap.size,0,none⟩ (ι (c1.rd I.a).kind)).setCell ⟨V5.heap.size,1,none⟩ (ι (c1.rd I.a).n))).drewN 1).trans f10))
         have U0:=ae ((B8.o).keep HC.o.k (((Fr.refl w0.heap.size g.T ((w7.setCell ⟨V5.heap.size,0,none⟩ (ι (c1.rd I.a).kind)).setCell ⟨V5.heap.size,1,none⟩ (ι (c1.rd I.a).n))).drewN 1).trans f10))
         have Pk:=ae (F8.o.trans (((Fr.refl w0.heap.size g.T ((w7.setCell ⟨V5.heap.size,0,none⟩ (ι (c1.rd I.a).kind)).setCell ⟨V5.heap.size,1,none⟩ (ι (c1.rd I.a).n))).drewN 1).trans f10).fq)
         have Rv:=ae rZ
         clear rZ f10
         go_wp2_with fail
         refine hK.out _ _ (d10.o) (fun aH=>?_)
         try simp only [aZ]
         refine wpAnyH_done (by kernel_rfl) ?_ _
         have Pm:=Rv.o
         obtain ⟨vo,vx,hv,nz⟩:=Pm
         have c4:=nz.cells.c4
         have f4:=nz.free 4
         obtain ⟨r0,r1,rf⟩:=aC.three (AO.o.fq HC.o.k Pk.o n3 n4)
         obtain ⟨k0,k1,-⟩:=aC.three U0.o
         clear nz
         repeat (first|go_values|go_skip|go_guarded|go_step|go_upon|(simp only [Int.not_lt,Int.not_le] at *;go_simp)|(go_values<;>(try go_simp))|(go_ite<;>go_prune<;>(try go_simp)))
         (try simp only [Exit.inBlock,Exit.then])
         obtain ⟨vo,vx,hv,nz⟩:=Rv.o
         have oB:=AO.o.fq HC.o.k Pk.o n3 n4
         refine bodyPost_ret (results_cell_row rfl _ _ (w.heap.size+1) _ _ _ _ rfl ((oB.far Cb).set (c1.rd I.a)).blk underlying62 rfl bC) rfl ?_
         rw [vC.o]
         exact ⟨rfl,⟨vo,vx,hv,(nz.leave HC.o.k).cf ((oB.far Cb).cf HC.o.k iH _ _)⟩,((((Fq.fr Pe.o Pk.o Pf MU).trans (nz.frSet 4 _)).new lN iH _).new lN iH _)⟩
      ·have hz:(I.op==20)=false:=by simpa using hop
       have U1:Θ (LP=dM (cn k') (kl k' h2 c1 I)):=by show LP=_;rw [Ph.o,if_neg hop]
       have KD:Θ (Kept h2 c1 (kl k' h2 c1 I)):=KW ym.o.may G2.o Xq.o E7.o Mf.o Xo.o yn.o.1 yn.o.2 hop ⟨by rw [HN.o];omega,by rw [HN.o,oh.o];omega⟩
       have dC:=ae hop
       have g9:=JU.o.cells.c9
       have g10:=JU.o.cells.c10
       have g11:=JU.o.cells.c11
       have g12:=JU.o.cells.c12
       have g13:V5.cell? ⟨w1.heap.size+1,13,none⟩=some (ι (n:Int)):=by rw [<-HN.o];exact JU.o.cells.c13
       have gf:=JU.o.free
       dsimp only at g9 g10 g11 g12 gf
       obtain ⟨Jd,Je,-⟩:=aC.three (JP.o.fq HC.o.k Mh.o Ni n14)
       obtain ⟨-,j1,j2,j3,j4,j5⟩:=Rs.o.cs
       have XD:=Mb S0.o JU.o ym.o.cq
       dsimp only at XD
       obtain ⟨Rx,XE,XF,Ry,Rz,BN⟩:=XD
       have JV:=ae Rx
       have AP:=ae XE
       have E8:=ae (Mh.o.trans XF)
       have Ry:=ae Ry
       have Rz:=ae Rz
       have RA:Θ (cP ((((((V5.setCell ⟨w1.heap.size+1,9,none⟩ (ι aE.kind)).setCell ⟨w1.heap.size+1,10,none⟩ (ι aE.n)).setCell ⟨w1.heap.size+1,11,none⟩ (ι aE.kind)).setCell ⟨w1.heap.size+1,12,none⟩ (ι aE.n)).alloc (.cells #[ι c1.giv.kind,ι c1.giv.n] 62)).alloc (.cells #[ι c1.cau.kind,ι c1.cau.n] 62)) ib I.op I.a I.b I.c I.n Qa I.args.length qq):=⟨(BN ib ZR UZ).trans Rs.o.blk⟩
       clear hop Rx XE XF BN
       have Fs:(I.op=19/\c1.giv.kind=I.b)∨(I.op=19/\c1.giv.kind≠I.b)∨(I.op=22/\c1.cau.kind=3)∨(I.op=22/\c1.cau.kind≠3)∨(I.op≠19/\I.op≠22):=by omega
       refine Fs.elim (fun hw=>?U7) fun Fs=>Fs.elim (fun hw=>?U9) fun Fs=>Fs.elim (fun hw=>?Vb) fun Fs=>Fs.elim (fun hw=>?Vc) (fun hw=>?Z1)
       case' U7 =>
        have Mi:(I.op==19)=true:=by simp [hw.1]
        have Mj:(I.op==22)=false:=by simp [hw.1]
        have Vd:(c1.giv.kind==I.b)=true:=by simp [hw.2]
        have AQ:Θ ((kl k' h2 c1 I)=⟨h2,mN h2 c1.clr I.a c1.giv,c1.pc+1⟩):=Ri hw.1 hw.2 Mf.o
        have HW:=ae hw
        clear hw
        repeat (first|go_values|go_skip|go_guarded|go_step|go_upon|(simp only [Int.not_lt,Int.not_le] at *;go_simp)|(go_values<;>(try go_simp))|(go_ite<;>go_prune<;>(try go_simp)))
        obtain ⟨VV,mh⟩:∃VV,VV=((((((V5.setCell ⟨w1.heap.size+1,9,none⟩ (ι aE.kind)).setCell ⟨w1.heap.size+1,10,none⟩ (ι aE.n)).setCell ⟨w1.heap.size+1,11,none⟩ (ι aE.kind)).setCell ⟨w1.heap.size+1,12,none⟩ (ι aE.n)).alloc (.cells #[ι c1.giv.kind,ι c1.giv.n] 62)).alloc (.cells #[ι c1.cau.kind,ι c1.cau.n] 62)):=⟨_,rfl⟩
        rw [<-mh]
        have EK:Θ (Hs w0 g VV p h2):=by rw [mh];exact JV
        have s9:Θ (aK w0 VV ⟨w1.heap.size+1,w1.heap.size,m.regs.toNat,P,CC,KA,pp,cc,kk⟩ c1.clr):=by rw [mh];exact AP
        have Jg:Θ (Fq w0.heap.size g.T ⟨w1.heap.size+1,w1.heap.size,m.regs.toNat,P,CC,KA,pp,cc,kk⟩ WA VV):=by rw [mh];exact E8
        have U8:Θ (aC VV (V5.heap.size) c1.giv):=by rw [mh];exact Ry
        have I8:Θ (cP VV ib I.op I.a I.b I.c I.n Qa I.args.length qq):=by rw [mh];exact RA
        clear mh g9 g10 g11 g12 g13 gf Jd Je j0 j1 j2 j3 j4 j5
        have Jh:=ae (And.intro U8.o.c0 I8.o.cs.2.2.1)
        refine wp_region_held_drew (S:=fun w'=>w'.cell? ⟨V5.heap.size,0,none⟩=some (ι c1.giv.kind)/\w'.cell? ⟨ib,2,none⟩=some (ι I.b)) (by kernel_rfl) ?_ (fun aa=>?_)
        ·exact Jh.o
        iterate 8 (refine tn rfl (by kernel_rfl) (fun _ _ _ h=>h) (by intro _ h;go_split_ands;go_simp<;>with_reducible rfl) aa ?_;try simp only [aZ])
        refine aY (i:=8) (by kernel_rfl) rfl fun K hK=>?_
        go_simp
        go_at_call 55
        refine (fU w0 g p h2 _ (EK.o.drewN 1)).mono ?_
        rintro e w9 ⟨he,RB⟩
        rw [Gq] at he
        subst he
        rw [RB]
        clear RB w9
        go_wp2_with fail
        refine hK.out _ _ (aa) (fun ah=>?_)
        try simp only [aZ]
        refine wpAnyH_done (by kernel_rfl) ?_ _
        have j1:VV.cell? ⟨ib,1,none⟩=some (ι I.a):=I8.o.cs.2.1
        have v0:VV.cell? ⟨V5.heap.size,0,none⟩=some (ι c1.giv.kind):=U8.o.c0
        have v1:VV.cell? ⟨V5.heap.size,1,none⟩=some (ι c1.giv.n):=U8.o.c1
        have Nh:Θ (∀w',Hs w0 g w' p h2->aK w0 w' ⟨w1.heap.size+1,w1.heap.size,m.regs.toNat,P,CC,KA,pp,cc,kk⟩ c1.clr->χ 75 #[π p 0,π (w1.heap.size+1) 0,ι I.a,jh c1.giv] w' fun e w''=>e=.returned (.tuple #[])/\Hs w0 g w'' p h2/\aK w0 w'' ⟨w1.heap.size+1,w1.heap.size,m.regs.toNat,P,CC,KA,pp,cc,kk⟩ (mN h2 c1.clr I.a c1.giv)/\Fq w0.heap.size g.T ⟨w1.heap.size+1,w1.heap.size,m.regs.toNat,P,CC,KA,pp,cc,kk⟩ w' w''):=fun w' a1 a2 =>
         mT w0 g p h2 ⟨w1.heap.size+1,w1.heap.size,m.regs.toNat,P,CC,KA,pp,cc,kk⟩ c1.clr I.a c1.giv w' a1 a2 ym.o.cq (by have e1:=yn.o.1.a (by have:=HW.o.1;omega);have e2:=E7.o.len;show 0<=I.a/\I.a<c1.locs.length;omega) (fun _=>⟨E7.o.ok,fun e=>by
          have e1:=HW.o
          have e2:=E7.o.len
          show I.a+1<c1.locs.length
          have e3:=yn.o.1.two (by right;right;right;right;right;left;exact ⟨e1.1,by rw [<-e1.2];exact e⟩);omega⟩)
        repeat (first|(go_big_may;go_says (go_at_call 75;refine (Nh.o _ (EK.o.drewN 1) (by exact ⟨s9.o.own,s9.o.ownl,s9.o.blk,⟨s9.o.loc.blk,s9.o.loc.len⟩,s9.o.me⟩)).mono ?_;rintro e w6 ⟨rfl,tP,Nk,Nl⟩;have Aq:Θ (Hs w0 g w6 p (kl k' h2 c1 I).h):=(by rw [AQ.o];exact tP);have EJ:Θ (aK w0 w6 ⟨w1.heap.size+1,w1.heap.size,m.regs.toNat,P,CC,KA,pp,cc,kk⟩ (kl k' h2 c1 I).c):=(by rw [AQ.o];exact Nk);have Jf:Θ (Fq w0.heap.size g.T ⟨w1.heap.size+1,w1.heap.size,m.regs.toNat,P,CC,KA,pp,cc,kk⟩ WA w6):=Jg.o.trans ((Fr.fq ((Fr.refl w0.heap.size g.T VV).drewN 1)).trans Nl);clear tP Nk Nl j1 v0 v1))|go_values|go_skip|go_guarded|go_step|go_upon|(simp only [Int.not_lt,Int.not_le] at *;go_simp)|(go_values<;>(try go_simp))|(go_ite<;>go_prune<;>(try go_simp)))
        obtain ⟨NX,wh⟩:∃NX:Int,NX=(n:Int)+1:=⟨_,rfl⟩
        rw [<-wh]
        have Bt:Θ (NX=(kl k' h2 c1 I).nx):=by show NX=_;rw [wh,AQ.o];show (n:Int)+1=c1.pc+1;rw [HN.o]
        clear wh
        clear EK s9 Jg U8 I8 Nh Jh
       case' U9 =>
        have Mi:(I.op==19)=true:=by simp [hw.1]
        have Mj:(I.op==22)=false:=by simp [hw.1]
        have Vd:(c1.giv.kind==I.b)=false:=by simp [hw.2]
        have AQ:Θ ((kl k' h2 c1 I)=⟨h2.must false,c1.clr,c1.pc+1⟩):=Rj hw.1 hw.2 Mf.o
        have HW:=ae hw
        clear hw
        repeat (first|go_values|go_skip|go_guarded|go_step|go_upon|(simp only [Int.not_lt,Int.not_le] at *;go_simp)|(go_values<;>(try go_simp))|(go_ite<;>go_prune<;>(try go_simp)))
        obtain ⟨VV,mh⟩:∃VV,VV=((((((V5.setCell ⟨w1.heap.size+1,9,none⟩ (ι aE.kind)).setCell ⟨w1.heap.size+1,10,none⟩ (ι aE.n)).setCell ⟨w1.heap.size+1,11,none⟩ (ι aE.kind)).setCell ⟨w1.heap.size+1,12,none⟩ (ι aE.n)).alloc (.cells #[ι c1.giv.kind,ι c1.giv.n] 62)).alloc (.cells #[ι c1.cau.kind,ι c1.cau.n] 62)):=⟨_,rfl⟩
        rw [<-mh]
        have EK:Θ (Hs w0 g VV p h2):=by rw [mh];exact JV
        have s9:Θ (aK w0 VV ⟨w1.heap.size+1,w1.heap.size,m.regs.toNat,P,CC,KA,pp,cc,kk⟩ c1.clr):=by rw [mh];exact AP
        have Jg:Θ (Fq w0.heap.size g.T ⟨w1.heap.size+1,w1.heap.size,m.regs.toNat,P,CC,KA,pp,cc,kk⟩ WA VV):=by rw [mh];exact E8
        have U8:Θ (aC VV (V5.heap.size) c1.giv):=by rw [mh];exact Ry
        have I8:Θ (cP VV ib I.op I.a I.b I.c I.n Qa I.args.length qq):=by rw [mh];exact RA
        clear mh g9 g10 g11 g12 g13 gf Jd Je j0 j1 j2 j3 j4 j5
        have Jh:=ae (And.intro U8.o.c0 I8.o.cs.2.2.1)
        refine wp_region_held_drew (S:=fun w'=>w'.cell? ⟨V5.heap.size,0,none⟩=some (ι c1.giv.kind)/\w'.cell? ⟨ib,2,none⟩=some (ι I.b)) (by kernel_rfl) ?_ (fun aa=>?_)
        ·exact Jh.o
        iterate 8 (refine tn rfl (by kernel_rfl) (fun _ _ _ h=>h) (by intro _ h;go_split_ands;go_simp<;>with_reducible rfl) aa ?_;try simp only [aZ])
        refine aY (i:=8) (by kernel_rfl) rfl fun K hK=>?_
        go_simp
        go_at_call 55
        refine (bZ w0 g HC.o.k p h2 false _ (EK.o.drewN 1)).mono ?_
        rintro e w6 ⟨rfl,tP,f6⟩
        have F6:=ae (((Fr.refl w0.heap.size g.T VV).drewN 1).trans f6)
        have Aq:Θ (Hs w0 g w6 p (kl k' h2 c1 I).h):=by rw [AQ.o];exact tP
        have EJ:Θ (aK w0 w6 ⟨w1.heap.size+1,w1.heap.size,m.regs.toNat,P,CC,KA,pp,cc,kk⟩ (kl k' h2 c1 I).c):=by rw [AQ.o];exact aK.fr s9.o HC.o.k HC.o.n7 F6.o
        have Jf:Θ (Fq w0.heap.size g.T ⟨w1.heap.size+1,w1.heap.size,m.regs.toNat,P,CC,KA,pp,cc,kk⟩ WA w6):=Jg.o.trans F6.o.fq
        have d6:=ae (And.intro (U8.o.keep HC.o.k F6.o).c0 (I8.o.keep HC.o.k F6.o).cs.2.2.1)
        have JI:h2.mustB false=false:=rfl
        clear tP f6
        go_wp2_with fail
        refine hK.out _ _ (d6.o) (fun ah=>?_)
        try simp only [aZ]
        refine wpAnyH_done (by kernel_rfl) ?_ _
        repeat (first|go_values|go_skip|go_guarded|go_step|go_upon|(simp only [Int.not_lt,Int.not_le] at *;go_simp)|(go_values<;>(try go_simp))|(go_ite<;>go_prune<;>(try go_simp)))
        obtain ⟨NX,wh⟩:∃NX:Int,NX=(n:Int)+1:=⟨_,rfl⟩
        rw [<-wh]
        have Bt:Θ (NX=(kl k' h2 c1 I).nx):=by show NX=_;rw [wh,AQ.o];show (n:Int)+1=c1.pc+1;rw [HN.o]
        clear wh
        clear EK s9 Jg U8 I8 F6 d6 Jh
       case' Vb =>
        have Mi:(I.op==19)=false:=by simp [hw.1]
        have Mj:(I.op==22)=true:=by simp [hw.1]
        have Vd:(c1.cau.kind==3)=true:=by simp [hw.2]
        have AQ:Θ ((kl k' h2 c1 I)=⟨h2,mN h2 c1.clr I.a c1.cau,c1.pc+1⟩):=Rk hw.1 hw.2 Mf.o
        have HW:=ae hw
        clear hw
        repeat (first|go_values|go_skip|go_guarded|go_step|go_upon|(simp only [Int.not_lt,Int.not_le] at *;go_simp)|(go_values<;>(try go_simp))|(go_ite<;>go_prune<;>(try go_simp)))
        obtain ⟨VV,mh⟩:∃VV,VV=((((((V5.setCell ⟨w1.heap.size+1,9,none⟩ (ι aE.kind)).setCell ⟨w1.heap.size+1,10,none⟩ (ι aE.n)).setCell ⟨w1.heap.size+1,11,none⟩ (ι aE.kind)).setCell ⟨w1.heap.size+1,12,none⟩ (ι aE.n)).alloc (.cells #[ι c1.giv.kind,ι c1.giv.n] 62)).alloc (.cells #[ι c1.cau.kind,ι c1.cau.n] 62)):=⟨_,rfl⟩
        rw [<-mh]
        have EK:Θ (Hs w0 g VV p h2):=by rw [mh];exact JV
        have s9:Θ (aK w0 VV ⟨w1.heap.size+1,w1.heap.size,m.regs.toNat,P,CC,KA,pp,cc,kk⟩ c1.clr):=by rw [mh];exact AP
        have Jg:Θ (Fq w0.heap.size g.T ⟨w1.heap.size+1,w1.heap.size,m.regs.toNat,P,CC,KA,pp,cc,kk⟩ WA VV):=by rw [mh];exact E8
        have U8:Θ (aC VV (V5.heap.size+1) c1.cau):=by rw [mh];exact Rz
        have I8:Θ (cP VV ib I.op I.a I.b I.c I.n Qa I.args.length qq):=by rw [mh];exact RA
        clear mh g9 g10 g11 g12 g13 gf Jd Je j0 j1 j2 j3 j4 j5
        have Jh:=ae U8.o.c0
        refine wp_region_held_drew (S:=fun w'=>w'.cell? ⟨V5.heap.size+1,0,none⟩=some (ι c1.cau.kind)) (by kernel_rfl) ?_ (fun aa=>?_)
        ·exact Jh.o
        iterate 6 (refine tn rfl (by kernel_rfl) (fun _ _ _ h=>h) (by intro _ h;go_split_ands;go_simp<;>with_reducible rfl) aa ?_;try simp only [aZ])
        refine aY (i:=6) (by kernel_rfl) rfl fun K hK=>?_
        go_simp
        go_at_call 55
        refine (fU w0 g p h2 _ (EK.o.drewN 1)).mono ?_
        rintro e w9 ⟨he,RB⟩
        rw [Gq] at he
        subst he
        rw [RB]
        clear RB w9
        go_wp2_with fail
        refine hK.out _ _ (aa) (fun ah=>?_)
        try simp only [aZ]
        refine wpAnyH_done (by kernel_rfl) ?_ _
        have j1:VV.cell? ⟨ib,1,none⟩=some (ι I.a):=I8.o.cs.2.1
        have v0:VV.cell? ⟨V5.heap.size+1,0,none⟩=some (ι c1.cau.kind):=U8.o.c0
        have v1:VV.cell? ⟨V5.heap.size+1,1,none⟩=some (ι c1.cau.n):=U8.o.c1
        have Nh:Θ (∀w',Hs w0 g w' p h2->aK w0 w' ⟨w1.heap.size+1,w1.heap.size,m.regs.toNat,P,CC,KA,pp,cc,kk⟩ c1.clr->χ 75 #[π p 0,π (w1.heap.size+1) 0,ι I.a,jh c1.cau] w' fun e w''=>e=.returned (.tuple #[])/\Hs w0 g w'' p h2/\aK w0 w'' ⟨w1.heap.size+1,w1.heap.size,m.regs.toNat,P,CC,KA,pp,cc,kk⟩ (mN h2 c1.clr I.a c1.cau)/\Fq w0.heap.size g.T ⟨w1.heap.size+1,w1.heap.size,m.regs.toNat,P,CC,KA,pp,cc,kk⟩ w' w''):=fun w' a1 a2 =>
         mT w0 g p h2 ⟨w1.heap.size+1,w1.heap.size,m.regs.toNat,P,CC,KA,pp,cc,kk⟩ c1.clr I.a c1.cau w' a1 a2 ym.o.cq (by have e1:=yn.o.1.a (by have:=HW.o.1;omega);have e2:=E7.o.len;show 0<=I.a/\I.a<c1.locs.length;omega) (fun _=>⟨E7.o.ok,fun e=>by
          have e1:=HW.o
          have e2:=E7.o.len
          show I.a+1<c1.locs.length
          exfalso;rw [e1.2] at e;omega⟩)
        repeat (first|(go_big_may;go_says (go_at_call 75;refine (Nh.o _ (EK.o.drewN 1) (by exact ⟨s9.o.own,s9.o.ownl,s9.o.blk,⟨s9.o.loc.blk,s9.o.loc.len⟩,s9.o.me⟩)).mono ?_;rintro e w6 ⟨rfl,tP,Nk,Nl⟩;have Aq:Θ (Hs w0 g w6 p (kl k' h2 c1 I).h):=(by rw [AQ.o];exact tP);have EJ:Θ (aK w0 w6 ⟨w1.heap.size+1,w1.heap.size,m.regs.toNat,P,CC,KA,pp,cc,kk⟩ (kl k' h2 c1 I).c):=(by rw [AQ.o];exact Nk);have Jf:Θ (Fq w0.heap.size g.T ⟨w1.heap.size+1,w1.heap.size,m.regs.toNat,P,CC,KA,pp,cc,kk⟩ WA w6):=Jg.o.trans ((Fr.fq ((Fr.refl w0.heap.size g.T VV).drewN 1)).trans Nl);clear tP Nk Nl j1 v0 v1))|go_values|go_skip|go_guarded|go_step|go_upon|(simp only [Int.not_lt,Int.not_le] at *;go_simp)|(go_values<;>(try go_simp))|(go_ite<;>go_prune<;>(try go_simp)))
        obtain ⟨NX,wh⟩:∃NX:Int,NX=(n:Int)+1:=⟨_,rfl⟩
        rw [<-wh]
        have Bt:Θ (NX=(kl k' h2 c1 I).nx):=by show NX=_;rw [wh,AQ.o];show (n:Int)+1=c1.pc+1;rw [HN.o]
        clear wh
        clear EK s9 Jg U8 I8 Nh Jh
       case' Vc =>
        have Mi:(I.op==19)=false:=by simp [hw.1]
        have Mj:(I.op==22)=true:=by simp [hw.1]
        have Vd:(c1.cau.kind==3)=false:=by simp [hw.2]
        have AQ:Θ ((kl k' h2 c1 I)=⟨h2.must false,c1.clr,c1.pc+1⟩):=Rl hw.1 hw.2 Mf.o
        have HW:=ae hw
        clear hw
        repeat (first|go_values|go_skip|go_guarded|go_step|go_upon|(simp only [Int.not_lt,Int.not_le] at *;go_simp)|(go_values<;>(try go_simp))|(go_ite<;>go_prune<;>(try go_simp)))
        obtain ⟨VV,mh⟩:∃VV,VV=((((((V5.setCell ⟨w1.heap.size+1,9,none⟩ (ι aE.kind)).setCell ⟨w1.heap.size+1,10,none⟩ (ι aE.n)).setCell ⟨w1.heap.size+1,11,none⟩ (ι aE.kind)).setCell ⟨w1.heap.size+1,12,none⟩ (ι aE.n)).alloc (.cells #[ι c1.giv.kind,ι c1.giv.n] 62)).alloc (.cells #[ι c1.cau.kind,ι c1.cau.n] 62)):=⟨_,rfl⟩
        rw [<-mh]
        have EK:Θ (Hs w0 g VV p h2):=by rw [mh];exact JV
        have s9:Θ (aK w0 VV ⟨w1.heap.size+1,w1.heap.size,m.regs.toNat,P,CC,KA,pp,cc,kk⟩ c1.clr):=by rw [mh];exact AP
        have Jg:Θ (Fq w0.heap.size g.T ⟨w1.heap.size+1,w1.heap.size,m.regs.toNat,P,CC,KA,pp,cc,kk⟩ WA VV):=by rw [mh];exact E8
        have U8:Θ (aC VV (V5.heap.size+1) c1.cau):=by rw [mh];exact Rz
        have I8:Θ (cP VV ib I.op I.a I.b I.c I.n Qa I.args.length qq):=by rw [mh];exact RA
        clear mh g9 g10 g11 g12 g13 gf Jd Je j0 j1 j2 j3 j4 j5
        have Jh:=ae U8.o.c0
        refine wp_region_held_drew (S:=fun w'=>w'.cell? ⟨V5.heap.size+1,0,none⟩=some (ι c1.cau.kind)) (by kernel_rfl) ?_ (fun aa=>?_)
        ·exact Jh.o
        iterate 6 (refine tn rfl (by kernel_rfl) (fun _ _ _ h=>h) (by intro _ h;go_split_ands;go_simp<;>with_reducible rfl) aa ?_;try simp only [aZ])
        refine aY (i:=6) (by kernel_rfl) rfl fun K hK=>?_
        go_simp
        go_at_call 55
        refine (bZ w0 g HC.o.k p h2 false _ (EK.o.drewN 1)).mono ?_
        rintro e w6 ⟨rfl,tP,f6⟩
        have F6:=ae (((Fr.refl w0.heap.size g.T VV).drewN 1).trans f6)
        have Aq:Θ (Hs w0 g w6 p (kl k' h2 c1 I).h):=by rw [AQ.o];exact tP
        have EJ:Θ (aK w0 w6 ⟨w1.heap.size+1,w1.heap.size,m.regs.toNat,P,CC,KA,pp,cc,kk⟩ (kl k' h2 c1 I).c):=by rw [AQ.o];exact aK.fr s9.o HC.o.k HC.o.n7 F6.o
        have Jf:Θ (Fq w0.heap.size g.T ⟨w1.heap.size+1,w1.heap.size,m.regs.toNat,P,CC,KA,pp,cc,kk⟩ WA w6):=Jg.o.trans F6.o.fq
        have d6:=ae (U8.o.keep HC.o.k F6.o).c0
        have JI:h2.mustB false=false:=rfl
        clear tP f6
        go_wp2_with fail
        refine hK.out _ _ (d6.o) (fun ah=>?_)
        try simp only [aZ]
        refine wpAnyH_done (by kernel_rfl) ?_ _
        repeat (first|go_values|go_skip|go_guarded|go_step|go_upon|(simp only [Int.not_lt,Int.not_le] at *;go_simp)|(go_values<;>(try go_simp))|(go_ite<;>go_prune<;>(try go_simp)))
        obtain ⟨NX,wh⟩:∃NX:Int,NX=(n:Int)+1:=⟨_,rfl⟩
        rw [<-wh]
        have Bt:Θ (NX=(kl k' h2 c1 I).nx):=by show NX=_;rw [wh,AQ.o];show (n:Int)+1=c1.pc+1;rw [HN.o]
        clear wh
        clear EK s9 Jg U8 I8 F6 d6 Jh
       case' Z1 =>
        have Mi:(I.op==19)=false:=by simpa using hw.1
        have Mj:(I.op==22)=false:=by simpa using hw.2
        have DA:Θ (∀w',Hs w0 g w' p h2->aK w0 w' ⟨w1.heap.size+1,w1.heap.size,m.regs.toNat,P,CC,KA,pp,cc,kk⟩ c1.clr->χ 76 #[π p 0,π (w1.heap.size+1) 0,.agg #[ι I.op,ι I.a,ι I.b,ι I.c,ι I.n,.slice Qa I.args.length qq]] w' fun e w'' =>
          e=.returned (ι (kl k' h2 c1 I).nx)/\Hs w0 g w'' p (kl k' h2 c1 I).h/\aK w0 w'' ⟨w1.heap.size+1,w1.heap.size,m.regs.toNat,P,CC,KA,pp,cc,kk⟩ (kl k' h2 c1 I).c/\Fq w0.heap.size g.T ⟨w1.heap.size+1,w1.heap.size,m.regs.toNat,P,CC,KA,pp,cc,kk⟩ w' w''):=fun w' a1 a2 =>
         Ol w0 g p h2 ⟨w1.heap.size+1,w1.heap.size,m.regs.toNat,P,CC,KA,pp,cc,kk⟩ c1 I Qa qq w' a1 a2 ym.o ⟨by rw [HN.o];omega,by rw [HN.o];omega⟩ hw.1 dC.o hw.2 k' (Zz.o k' US.o) G2.o Xq.o Mf.o Xo.o E7.o yn.o.1 yn.o.2 T5.o UR.o
        clear hw
        repeat (first|(go_big_may;go_says (go_at_call 76;refine (DA.o _ JV.o AP.o).mono ?_;rintro e w6 ⟨rfl,tP,Nk,Nl⟩;have Aq:=ae tP;have EJ:=ae Nk;have Jf:=ae (E8.o.trans Nl);clear tP Nk Nl g9 g10 g11 g12 g13 gf Jd Je j0 j1 j2 j3 j4 j5))|go_values|go_skip|go_guarded|go_step|go_upon|(simp only [Int.not_lt,Int.not_le] at *;go_simp)|(go_values<;>(try go_simp))|(go_ite<;>go_prune<;>(try go_simp)))
        obtain ⟨NX,wh⟩:∃NX:Int,NX=(kl k' h2 c1 I).nx:=⟨_,rfl⟩
        rw [<-wh]
        have Bt:Θ (NX=(kl k' h2 c1 I).nx):=wh
        clear wh DA
       all_goals clear JV AP E8 Ry Rz RA
       all_goals as_aux_lemma =>
        have S5:Θ ((kl k' h2 c1 I).c.pc=n):=KD.o.pc.trans HN.o
        have XG:Θ ((kl k' h2 c1 I).c.m=m):=KD.o.m.trans oh.o
        generalize (kl k' h2 c1 I)=D at *
        have mI:w6.cell? ⟨p,12,none⟩=some (.bool D.h.over):=by obtain ⟨vo,vx,hv,X⟩:=Aq.o;exact X.cells.c12
        have Z2:w6.cell? ⟨p,13,none⟩=some (ι D.h.thrown):=by obtain ⟨vo,vx,hv,X⟩:=Aq.o;exact X.cells.c13
        have XH:Θ (∀w',Fq w0.heap.size g.T ⟨w1.heap.size+1,w1.heap.size,m.regs.toNat,P,CC,KA,pp,cc,kk⟩ WA w'->aK w0 w' ⟨w1.heap.size+1,w1.heap.size,m.regs.toNat,P,CC,KA,pp,cc,kk⟩ D.c->(fun w'=>w'.cell? ⟨w.heap.size,0,none⟩=some (.slice P m.params.length pp)/\w'.cell? ⟨w.heap.size,1,none⟩=some (ι m.ret.kind)/\w'.cell? ⟨w.heap.size,2,none⟩=some (ι m.ret.cls)/\w'.cell? ⟨w.heap.size,3,none⟩=some (ι m.stack)/\w'.cell? ⟨w.heap.size,4,none⟩=some (ι m.locs)/\w'.cell? ⟨w.heap.size,5,none⟩=some (ι m.regs)/\w'.cell? ⟨w.heap.size,6,none⟩=some (.slice CC m.code.length cc)/\w'.cell? ⟨w.heap.size,7,none⟩=some (.slice KA m.hands.length kk)/\w'.cell? ⟨w1.heap.size+1,13,none⟩=some (ι (n:Int))) w'):=fun w' f c=>by
         have x:=(Pd.o.fq HC.o.k f n5 n6).cells
         exact ⟨x.c0,x.c1,x.c2,x.c3,x.c4,x.c5,x.c6,x.c7,by rw [<-S5.o];exact c.cells.c13⟩
        cases cY:D.h.over
        ·rw [cY] at mI
         have Ve:Θ (Gc D.h D.c):=KD.o.gc cY
         by_cases ht:0<=D.h.thrown
         ·have Vf:decide (0<=D.h.thrown)=true:=decide_eq_true ht
          have XI:Θ (LP=if D.h.caughtL (n:Int) m.hands<0 then (D.h.leave,aE) else cn k' ({ D.h with thrown:=-1 }:Hp) { D.c with cau:=⟨3,D.h.thrown⟩,pc:=D.h.caughtL (n:Int) m.hands }):=by
           show LP=_
           rw [U1.o];unfold dM;rw [if_neg (by rw [cY];decide),if_pos ht,S5.o,XG.o]
          have Z5:Θ (D.h.caughtL (n:Int) m.hands=-1∨(0<=D.h.caughtL (n:Int) m.hands/\D.h.caughtL (n:Int) m.hands<D.c.m.code.length)):=by
           have:=l8 (h:=D.h) (pc:=(n:Int)) (n:=D.c.m.code.length) (k:=D.h.file.classes.length) D.c.m.hands (j6 Ve.o.me).2.2.2.2.2.2.2.2.1
           rw [XG.o] at this ⊢;exact this
          have Z6:Θ (∀w',Hs w0 g w' p D.h->χ 59 #[π p 0,sK m P CC KA pp cc kk,ι (n:Int)] w' fun e w''=>e=.returned (ι (D.h.caughtL (n:Int) m.hands))/\Hs w0 g w'' p D.h/\Fr w0.heap.size g.T w' w''):=fun w' hx=>zi w0 g p D.h m P CC KA pp cc kk (n:Int) w' hx (ym.o.le KD.o.le).cq.cw sZ.o.2.2.1 ⟨ht,KD.o.gh.thr.2⟩
          have Z7:=ae (XH.o w6 Jf.o EJ.o)
          have Ig:=ae ht
          clear ht
          generalize D.h.caughtL (n:Int) m.hands=AT at *
          repeat (first|go_values|go_skip|go_guarded|go_step|go_upon|(simp only [Int.not_lt,Int.not_le] at *;go_simp)|(go_values<;>(try go_simp))|(go_ite<;>go_prune<;>(try go_simp)))
          refine wp_region_held_drew (S:=fun w'=>w'.cell? ⟨w.heap.size,0,none⟩=some (.slice P m.params.length pp)/\w'.cell? ⟨w.heap.size,1,none⟩=some (ι m.ret.kind)/\w'.cell? ⟨w.heap.size,2,none⟩=some (ι m.ret.cls)/\w'.cell? ⟨w.heap.size,3,none⟩=some (ι m.stack)/\w'.cell? ⟨w.heap.size,4,none⟩=some (ι m.locs)/\w'.cell? ⟨w.heap.size,5,none⟩=some (ι m.regs)/\w'.cell? ⟨w.heap.size,6,none⟩=some (.slice CC m.code.length cc)/\w'.cell? ⟨w.heap.size,7,none⟩=some (.slice KA m.hands.length kk)/\w'.cell? ⟨w1.heap.size+1,13,none⟩=some (ι (n:Int))) (by kernel_rfl) ?_ (fun aa=>?_)
          ·exact Z7.o
          iterate 8 (refine tn rfl (by kernel_rfl) (fun _ _ _ h=>h) (by intro _ h;go_split_ands;go_simp<;>with_reducible rfl) aa ?_;try simp only [aZ])
          refine aY (i:=8) (by kernel_rfl) rfl fun K hK=>?_
          go_simp
          go_at_call 59
          refine (Z6.o _ (Aq.o.drewN 1)).mono ?_
          rintro e w7 ⟨rfl,Rx,f7⟩
          have F7:=ae (((Fr.refl w0.heap.size g.T w6).drewN 1).trans f7)
          have E8:=ae (Jf.o.trans F7.o.fq)
          have AP:=ae (aK.fr EJ.o HC.o.k HC.o.n7 F7.o)
          have d36:=ae (XH.o w7 E8.o AP.o)
          have JV:=ae Rx
          clear Rx f7
          go_wp2_with fail
          refine hK.out _ _ (d36.o) (fun ah=>?_)
          try simp only [aZ]
          refine tn rfl (by kernel_rfl) (fun _ _ _ h=>h) (by intro _ h;go_split_ands;go_simp<;>with_reducible rfl) ah ?_
          try simp only [aZ]
          refine wpAnyH_done (by kernel_rfl) ?_ _
          clear aa ah mI Z2
          by_cases hat:AT<0
          ·have vC:Θ (LP=(D.h.leave,aE)):=by show LP=_;rw [XI.o,if_pos hat]
           have Vg:decide (AT<0)=true:=decide_eq_true hat
           have yG:0<=D.h.calls/\D.h.calls<=20:=KD.o.gh.calls
           have Cc:=ae (And.intro JV.o E8.o)
           obtain ⟨c4,f4⟩:=Hs.c4 Cc.o.1
           obtain ⟨r0,r1,rf⟩:=aC.three (AO.o.fq HC.o.k E8.o n3 n4)
           obtain ⟨Jd,Je,-⟩:=aC.three (JP.o.fq HC.o.k E8.o Ni n14)
           repeat (first|go_values|go_skip|go_guarded|go_step|go_upon|(simp only [Int.not_lt,Int.not_le] at *;go_simp)|(go_values<;>(try go_simp))|(go_ite<;>go_prune<;>(try go_simp)))
           (try simp only [Exit.inBlock,Exit.then])
           obtain ⟨⟨vo,vx,hv,nz⟩,sN⟩:=Cc.o
           have oB:=AO.o.fq HC.o.k sN n3 n4
           refine bodyPost_ret (results_cell_row rfl _ _ (w.heap.size+1) _ _ _ _ rfl ((oB.far Cb).set aE).blk underlying62 rfl bC) rfl ?_
           rw [vC.o]
           exact ⟨rfl,⟨vo,vx,hv,(nz.leave HC.o.k).cf ((oB.far Cb).cf HC.o.k iH _ _)⟩,((((Fq.fr Pe.o sN Pf MU).trans (nz.frSet 4 _)).new lN iH _).new lN iH _)⟩
          ·have vC:Θ (cn k' ({ D.h with thrown:=-1 }:Hp) { D.c with cau:=⟨3,D.h.thrown⟩,pc:=AT }=LP):=by show _=LP;rw [XI.o,if_neg hat]
           have Vg:decide (AT<0)=false:=decide_eq_false hat
           have Z8:0<=D.h.thrown:=Ig.o
           obtain ⟨UB,Z9⟩:w7.cell? ⟨p,13,none⟩=some (ι D.h.thrown)/\w7.frozen? ⟨p,13,none⟩=false:=by obtain ⟨vo,vx,hv,X⟩:=JV.o;exact ⟨X.cells.c13,X.free 13⟩
           have q11:=AP.o.cells.c11
           have q12:=AP.o.cells.c12
           have Ss:=AP.o.cells.c13
           have qf:=AP.o.free
           dsimp only at q11 q12 Ss qf
           repeat (first|go_values|go_skip|go_guarded|go_step|go_upon|(simp only [Int.not_lt,Int.not_le] at *;go_simp)|(go_values<;>(try go_simp))|(go_ite<;>go_prune<;>(try go_simp)))
           have a8:=AP.o.setC (c':={ D.c with cau:=⟨3,D.c.cau.n⟩ }) (i:=11) (v:=ι 3) rfl rfl rfl
           have h8:=JV.o.cf (AP.o.cf HC.o.n7 11 (ι 3))
           have a9:=a8.setC (c':={ D.c with cau:=⟨3,D.h.thrown⟩ }) (i:=12) (v:=ι D.h.thrown) rfl rfl rfl
           have h9:=h8.cf (a8.cf HC.o.n7 12 (ι D.h.thrown))
           obtain ⟨vo,vx,hv,X⟩:=h9
           have rZ:Hs w0 g _ p ({ D.h with thrown:=-1 }:Hp):=⟨vo,vx,hv,X.set HC.o.k ({ D.h with thrown:=-1 }:Hp) (i:=13) (v:=ι (-1)) rfl rfl rfl⟩
           have Vh:=a9.fr HC.o.k HC.o.n7 (X.frSet 13 (ι (-1)))
           have a11:=Vh.setC (c':={ D.c with cau:=⟨3,D.h.thrown⟩,pc:=AT }) (i:=13) (v:=ι AT) rfl rfl rfl
           have lP:=rZ.cf (Vh.cf HC.o.n7 13 (ι AT))
           have f11:=(((E8.o.trans (AP.o.fq g.T 11 (ι 3))).trans (a8.fq g.T 12 (ι D.h.thrown))).trans (X.frSet 13 (ι (-1))).fq).trans (Vh.fq g.T 13 (ι AT))
           have XJ:Le D.h ({ D.h with thrown:=-1 }:Hp):=⟨rfl,rfl,rfl,Nat.le_refl _,Int.le_refl _,rfl⟩
           have AU:=KD.o.le.trans XJ
           have gt:Gh 0 ({ D.h with thrown:=-1 }:Hp):=KD.o.gh.same rfl rfl rfl rfl rfl rfl rfl ⟨by dsimp only;omega,by dsimp only;omega⟩
           have gv:jw ({ D.h with thrown:=-1 }:Hp) (⟨3,D.h.thrown⟩:Va):=⟨fun _=>⟨by dsimp only;omega,KD.o.gh.thr.2⟩,by have:=KD.o.gh.thr;have:=KD.o.gh.len;dsimp only;unfold cJ;omega⟩
           have gx:=Ve.o.le XJ
           have hAB:=Z5.o
           go_roundw
           case rel=>exact ⟨k',({ D.h with thrown:=-1 }:Hp),{ D.c with cau:=⟨3,D.h.thrown⟩,pc:=AT },⟨lP,a11,f11,gt,KD.o.kd,by rw [AU.calls];exact Xr.o,fun _=>⟨rfl,⟨gx.giv,gv,gx.locs,gx.ok,gx.len,gx.me,gx.mok⟩,by dsimp only;omega,by show AT<=D.c.m.code.length;omega⟩,KD.o.m.trans oh.o,AU.file.trans M1.o.1,AU.input.trans M1.o.2.1,AU.fuel.trans M1.o.2.2,by have:=AU.steps;have:=AU.fuel;have:=UR.o;omega,Nat.le_of_lt US.o,vC.o⟩⟩
           case measure =>
            have key:∀S:Int,h2.sh.steps<=S->(h0.fuel-S).toNat<ph p h0.fuel wr:=fun S hS=>by have EZ:=Xs.o;rw [EZ.1];omega
            have FI:=we lP h0.fuel
            rw [FI]
            exact key _ AU.steps
         ·have HTD:Θ (D.h.thrown=-1):=by have:=KD.o.gh.thr;show D.h.thrown=-1;omega
          have vC:Θ (cn k' D.h { D.c with pc:=D.nx }=LP):=by
           show _=LP
           rw [U1.o];unfold dM;rw [if_neg (by rw [cY];decide),if_neg ht]
          have Vf:decide (0<=D.h.thrown)=false:=decide_eq_false ht
          have zj:Θ (0<=D.nx/\D.nx<=D.c.m.code.length):=by show _/\_;rw [KD.o.m];exact KD.o.nx
          have Ss:=EJ.o.cells.c13
          have qf:=EJ.o.free
          dsimp only at Ss qf
          clear ht
          repeat (first|go_values|go_skip|go_guarded|go_step|go_upon|(simp only [Int.not_lt,Int.not_le] at *;go_simp)|(go_values<;>(try go_simp))|(go_ite<;>go_prune<;>(try go_simp)))
          have a7:=EJ.o.setC (c':={ D.c with pc:=NX }) (i:=13) (v:=ι NX) rfl rfl rfl
          rw [Bt.o] at a7
          have h7:=Aq.o.cf (EJ.o.cf HC.o.n7 13 (ι NX))
          have f7:=Jf.o.trans (EJ.o.fq g.T 13 (ι NX))
          go_roundw
          case rel=>exact ⟨k',D.h,{ D.c with pc:=D.nx },⟨h7,by rw [Bt.o];exact a7,f7,KD.o.gh,KD.o.kd,by rw [KD.o.le.calls];exact Xr.o,fun _=>⟨HTD.o,Ve.o.pc _,zj.o⟩,KD.o.m.trans oh.o,KD.o.le.file.trans M1.o.1,KD.o.le.input.trans M1.o.2.1,KD.o.le.fuel.trans M1.o.2.2,by have:=KD.o.le.steps;have:=KD.o.le.fuel;have:=UR.o;omega,Nat.le_of_lt US.o,vC.o⟩⟩
          case measure =>
           have key:∀S:Int,h2.sh.steps<=S->(h0.fuel-S).toNat<ph p h0.fuel wr:=fun S hS=>by have EZ:=Xs.o;rw [EZ.1];omega
           have FI:=we h7 h0.fuel
           rw [FI]
           exact key _ KD.o.le.steps
        ·rw [cY] at mI
         have vC:Θ (LP=(D.h.leave,aE)):=by
          show LP=_
          rw [U1.o];unfold dM;rw [if_pos cY]
         have yG:0<=D.h.calls/\D.h.calls<=20:=KD.o.gh.calls
         have Cc:=ae (And.intro Aq.o Jf.o)
         obtain ⟨c4,f4⟩:=Hs.c4 Cc.o.1
         obtain ⟨r0,r1,rf⟩:=aC.three (AO.o.fq HC.o.k Jf.o n3 n4)
         obtain ⟨Jd,Je,-⟩:=aC.three (JP.o.fq HC.o.k Jf.o Ni n14)
         repeat (first|go_values|go_skip|go_guarded|go_step|go_upon|(simp only [Int.not_lt,Int.not_le] at *;go_simp)|(go_values<;>(try go_simp))|(go_ite<;>go_prune<;>(try go_simp)))
         (try simp only [Exit.inBlock,Exit.then])
         obtain ⟨⟨vo,vx,hv,nz⟩,sN⟩:=Cc.o
         have oB:=AO.o.fq HC.o.k sN n3 n4
         refine bodyPost_ret (results_cell_row rfl _ _ (w.heap.size+1) _ _ _ _ rfl ((oB.far Cb).set aE).blk underlying62 rfl bC) rfl ?_
         rw [vC.o]
         exact ⟨rfl,⟨vo,vx,hv,(nz.leave HC.o.k).cf ((oB.far Cb).cf HC.o.k iH _ _)⟩,((((Fq.fr Pe.o sN Pf MU).trans (nz.frSet 4 _)).new lN iH _).new lN iH _)⟩
     ·as_aux_lemma =>
      have vC:Θ (LP=((h2.fin 6).leave,aE)):=by
       show LP=_
       have e1:h2.mustB (decide (c1.pc<c1.m.code.length))=false:=by rw [mm h2 Mf.o,oh.o];exact decide_eq_false Bn
       have e2:h2.must (decide (c1.pc<c1.m.code.length))=h2.fin 6:=by rw [oh.o,decide_eq_false Bn];rfl
       rw [UT.o]
       unfold gw
       rw [if_pos e1,e2]
      have yG:0<=(h2.fin 6).calls/\(h2.fin 6).calls<=20:=by rw [(gN h2 6).calls];exact G2.o.calls
      have hd:decide (c1.pc<m.code.length)=false:=decide_eq_false Bn
      have HMF:Θ (h2.mustB false=false):=rfl
      have HMM:Θ (h2.must false=h2.fin 6):=rfl
      go_wp2_with (go_at_call 54;refine SA.o.mono ?_;rintro e w2 ⟨rfl,tt,f2⟩;have Nj:=ae (NV.o.trans f2.fq);have tL:=ae tt;have Pj:=aK.fr UU.o HC.o.k HC.o.n7 f2;have d13:w2.cell? ⟨w1.heap.size+1,13,none⟩=some (ι c1.pc):=Pj.cells.c13;have m6:=(Pd.o.fq HC.o.k Nj.o n5 n6).cells.c6;clear Pj)
      go_region_held3 (fun w'=>w'.cell? ⟨w1.heap.size+1,13,none⟩=some (ι c1.pc)/\w'.cell? ⟨w.heap.size,6,none⟩=some (.slice CC m.code.length cc))
       (go_keep)
       (first
        | (go_at_call 55;refine (bZ w0 g HC.o.k p h2 false _ (by first|exact tL.o.cf (Cf.drew (Cf.refl _ _ _))|exact tL.o)).mono ?_;rintro e w3 ⟨he,Sf,f3⟩;rw [HMF.o] at he;subst he;rw [HMM.o] at Sf;have F3:Θ (Fr w0.heap.size g.T wr w3):=Fr.trans (Fr.trans f2 (Fr.drew (Fr.refl _ _ _))) f3;have RC:=NV.o.trans F3.o.fq;have XL:=aK.fr UU.o HC.o.k HC.o.n7 F3.o;have aaa:w3.cell? ⟨w1.heap.size+1,13,none⟩=some (ι c1.pc):=XL.cells.c13;have m6':=(Pd.o.fq HC.o.k RC n5 n6).cells.c6;have Cc:=ae (And.intro Sf RC);obtain ⟨c4,f4⟩:=Hs.c4 Cc.o.1;obtain ⟨r0,r1,rf⟩:=aC.three (AO.o.fq HC.o.k RC n3 n4);obtain ⟨Jd,Je,-⟩:=aC.three (JP.o.fq HC.o.k RC Ni n14);clear XL F3 RC Sf f3))
      repeat (first|go_values|go_skip|go_guarded|go_step|go_upon|(simp only [Int.not_lt,Int.not_le] at *;go_simp)|(go_values<;>(try go_simp))|(go_ite<;>go_prune<;>(try go_simp)))
      (try simp only [Exit.inBlock,Exit.then])
      obtain ⟨⟨vo,vx,hv,nz⟩,sN⟩:=Cc.o
      have oB:=AO.o.fq HC.o.k sN n3 n4
      refine bodyPost_ret (results_cell_row rfl _ _ (w.heap.size+1) _ _ _ _ rfl ((oB.far Cb).set aE).blk underlying62 rfl bC) rfl ?_
      rw [vC.o]
      exact ⟨rfl,⟨vo,vx,hv,(nz.leave HC.o.k).cf ((oB.far Cb).cf HC.o.k iH _ _)⟩,((((Fq.fr Pe.o sN Pf MU).trans (nz.frSet 4 _)).new lN iH _).new lN iH _)⟩
end Go.Proofs.YtgiiapenmjollaaGreat
