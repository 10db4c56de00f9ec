import Derived.Test.YtgiiapenmjollabGreatRsbo
namespace Go.Proofs.YtgiiapenmjollabGreat
set_option linter.all false
set_option maxHeartbeats 40000000
set_option maxRecDepth 100000
open Go.RowKit
theorem run_yes (w0:World) (g:Ad) (p:Nat) (h:Hp) (m:Me) (P CC KA:Option Addr) (pp cc kk:Nat) (A:Option Addr) (ac lb:Nat) (l:List Va) (w:World) (hH:Hs w0 g w p h) (E:Env w0 g h) (ho:h.over=false) (gh:Gh 0 h) (hme:MeAt w0 m P CC KA) (hl:l.length=m.params.length) (hg:∀v∈l,GdV h v) (hA:StkAt lb w A l) (kd:Kd h) (hsm:rmeB h.file.classes h.file.methods m=true) (hok:∀i∈m.code,i.ok) (hac:l.length≤ac) (hb:h.enterB m l=true) (hth:h.thrown=-1) (N:Nat) (hN:(h.fuel-h.sh.steps).toNat≤N) (IH:∀k,k<N→RunOk w0 g p k) :
  Calls Tryz.prog 41 #[.pointer (some ⟨p,0,none⟩),meV m P CC KA pp cc kk,.slice A l.length ac] w fun e w'=>e=.returned (vaV (loopP N (h.enterH m l) (newCal m l)).2)∧Hs w0 g w' p (loopP N (h.enterH m l) (newCal m l)).1∧Fr w0.heap.size g.T w w':=by
 have hbs:=hH.base
 obtain ⟨WI,hWI⟩:∃WI,WI=(((w.alloc (.cells #[.slice P m.params.length pp,.int .i64 m.ret.kind,.int .i64 m.ret.cls,.int .i64 m.stack,.int .i64 m.locs,.int .i64 m.regs,.slice CC m.code.length cc,.slice KA m.hands.length kk] 50)).alloc (.cells #[.int .i64 0,.int .i64 0] 82)).alloc (.cells #[.int .i64 0,.int .i64 0] 82)):=⟨_,rfl⟩
 have hbl:Bl w WI:=by rw [hWI];exact (((Bl.refl w).alloc _).alloc _).alloc _
 have HF:Hid (Fr w0.heap.size g.T w WI):=Fr.old hbs hbl
 have HH:Hid (Hs w0 g WI p h):=hH.old hbl
 have HM:Hid (MthBox WI w.heap.size m P CC KA pp cc kk):=⟨by rw [hWI];exact blk_up (by simp;omega) (blk_up (by simp) (blk_at rfl))⟩
 have HR:Hid (VaBox WI (w.heap.size+1) va0):=⟨by rw [hWI];exact blk_up (by simp) (blk_at (by simp))⟩
 have HN:Hid (VaBox WI (w.heap.size+1+1) va0):=⟨by rw [hWI];exact blk_at (by simp)⟩
 have HA:Hid (StkAt lb WI A l):=hA.keep fun b cs f e _=>(hbl.block _ (lt_some e)).trans e
 have HC:=hid E.cq
 have HP:Hid (TysAt w0 P m.params):=hme.1
 have HL:Hid (l.length=m.params.length):=hl
 have HG:Hid (∀v∈l,v.kind=3→v.n<h.objs.length):=fun v hv e=>((hg v hv).ref e).2
 have hcl:=gh.calls
 have hbs1:w0.heap.size≤w.heap.size+1:=by omega
 have hle1:w.heap.size≤w.heap.size+1:=by omega
 have HS2:Hid (∀w',MthBox w' w.heap.size m P CC KA pp cc kk→(fun w'=>w'.cell? ⟨w.heap.size,0,none⟩=some (.slice P m.params.length pp)∧w'.cell? ⟨w.heap.size,1,none⟩=some (.int .i64 m.ret.kind)∧w'.cell? ⟨w.heap.size,2,none⟩=some (.int .i64 m.ret.cls)∧w'.cell? ⟨w.heap.size,3,none⟩=some (.int .i64 m.stack)∧w'.cell? ⟨w.heap.size,4,none⟩=some (.int .i64 m.locs)∧w'.cell? ⟨w.heap.size,5,none⟩=some (.int .i64 m.regs)∧w'.cell? ⟨w.heap.size,6,none⟩=some (.slice CC m.code.length cc)∧w'.cell? ⟨w.heap.size,7,none⟩=some (.slice KA m.hands.length kk)) w'):=fun w' X=>⟨X.cells.c0,X.cells.c1,X.cells.c2,X.cells.c3,X.cells.c4,X.cells.c5,X.cells.c6,X.cells.c7⟩
 have z2:=hid (HS2.out _ HM.out)
 obtain ⟨NB,hNB⟩:∃NB,NB=w.heap.size+1+1:=⟨_,rfl⟩
 rw [←hNB] at HN
 have HB:Hid (h.enterB m l=true):=hb
 obtain ⟨q1,q2,q3,q5,q6,q7,-,-,-,-⟩:=smeP hsm
 have hlo:0≤m.regs:=by omega
 have hmk:=make_vaI m.regs hlo (by omega)
 have HE:=hid E
 have HPW:=hid hH
 have HGH:=hid gh
 have HKD:=hid kd
 have HME:=hid hme
 have HSM:=hid hsm
 have HOK:=hid hok
 have HGV:=hid hg
 have HTH:=hid hth
 have HIH:=hid IH
 have HNN:=hid hN
 obtain ⟨LP,hLP⟩:∃LP,loopP N (h.enterH m l) (newCal m l)=LP:=⟨_,rfl⟩
 rw [hLP]
 have HLP:=hid hLP
 have HEL:Hid (h.enterL l m.params=true):=by show h.enterL l m.params=true;unfold Hp.enterB at hb;rw [Bool.and_eq_true] at hb;exact hb.1
 clear hbl hH E gh kd hme hsm hok hl hg hA hb hth hN IH hLP
 go_enter Tryz.func41,Tryz.ntmps41
 go_wp2
 rw [←hWI,←hNB]
 have HNB:=hid hNB
 clear hWI hNB
 refine wp_region_held_drew (S:=fun w'=>w'.cell? ⟨w.heap.size,0,none⟩=some (.slice P m.params.length pp)∧w'.cell? ⟨w.heap.size,1,none⟩=some (.int .i64 m.ret.kind)∧w'.cell? ⟨w.heap.size,2,none⟩=some (.int .i64 m.ret.cls)∧w'.cell? ⟨w.heap.size,3,none⟩=some (.int .i64 m.stack)∧w'.cell? ⟨w.heap.size,4,none⟩=some (.int .i64 m.locs)∧w'.cell? ⟨w.heap.size,5,none⟩=some (.int .i64 m.regs)∧w'.cell? ⟨w.heap.size,6,none⟩=some (.slice CC m.code.length cc)∧w'.cell? ⟨w.heap.size,7,none⟩=some (.slice KA m.hands.length kk)) (by kernel_rfl) ?_ (fun hHeld0=>?_)
 ·exact z2.out
 iterate 5 (refine tn rfl (by kernel_rfl) (fun _ _ _ h=>h) (by intro _ h;go_split_ands;go_simp<;>with_reducible rfl) hHeld0 ?_;try simp only [aS,aN,aT,a0,a1])
 refine rd1 (i:=5) (by kernel_rfl) rfl fun K hK=>?_
 go_simp
 go_at_call 81
 refine (enter_any w0 g p h m P CC KA pp cc kk A ac lb l _ (HH.out.drewN 1) HC.out.cw ho HP.out HL.out (by exact HA.out) HG.out hcl).mono ?_
 rintro e w1 ⟨he,h1,f1⟩
 rw [HB.out] at he
 subst he
 have F1:=hid (((Fr.refl w0.heap.size g.T WI).drewN 1).trans f1)
 have HM1:=hid (HM.out.fr HC.out.k F1.out)
 have HB1:=hid (HR.out.keep HC.out.k F1.out)
 have HN1:=hid (HN.out.keep HC.out.k F1.out)
 have d1:=hid (HS2.out _ HM1.out)
 have H1:=hid h1
 clear h1 f1
 go_wp2_with fail
 refine hK.out _ _ (d1.out) (fun hHeld1=>?_)
 try simp only [aS,aN,aT,a0,a1]
 refine tn rfl (by kernel_rfl) (fun _ _ _ h=>h) (by intro _ h;go_split_ands;go_simp<;>with_reducible rfl) hHeld1 ?_
 try simp only [aS,aN,aT,a0,a1]
 refine wpAnyH_done (by kernel_rfl) ?_ _
 have x:=HM1.out.cells
 have x0:=x.c0
 have x1:=x.c1
 have x2:=x.c2
 have x3:=x.c3
 have x4:=x.c4
 have x5:=x.c5
 have x6:=x.c6
 have x7:=x.c7
 have hlt1:=lt_some HM1.out.blk
 have hlt2:=lt_some HB1.out.blk
 have hlt3:=lt_some HN1.out.blk
 clear x d1 z2 hHeld0 hHeld1 hK
 go_wp2
 go_region_held3 (fun w'=>w'.cell? ⟨w.heap.size,0,none⟩=some (.slice P m.params.length pp)∧w'.cell? ⟨w.heap.size,1,none⟩=some (.int .i64 m.ret.kind)∧w'.cell? ⟨w.heap.size,2,none⟩=some (.int .i64 m.ret.cls)∧w'.cell? ⟨w.heap.size,3,none⟩=some (.int .i64 m.stack)∧w'.cell? ⟨w.heap.size,4,none⟩=some (.int .i64 m.locs)∧w'.cell? ⟨w.heap.size,5,none⟩=some (.int .i64 m.regs)∧w'.cell? ⟨w.heap.size,6,none⟩=some (.slice CC m.code.length cc)∧w'.cell? ⟨w.heap.size,7,none⟩=some (.slice KA m.hands.length kk))
  (go_keep)
  (fail)
 (try (rename_i hz9;clear hz9))
 go_wp2
 obtain ⟨W3,hW3⟩:∃W3,W3=((w1.alloc (.cells (vaCells (List.replicate m.regs.toNat va0)).toArray 82)).alloc (.cells #[.slice P m.params.length pp,.int .i64 m.ret.kind,.int .i64 m.ret.cls,.int .i64 m.stack,.int .i64 m.locs,.int .i64 m.regs,.slice CC m.code.length cc,.slice KA m.hands.length kk,.slice (some ⟨w1.heap.size,0,none⟩) m.regs.toNat m.regs.toNat,.int .i64 0,.int .i64 0,.int .i64 0,.int .i64 0,.int .i64 0] 140)).drew:=⟨_,rfl⟩
 have hb3:Bl w1 W3:=by rw [hW3];exact (((Bl.refl w1).alloc _).alloc _).drew
 have hLL:(List.replicate m.regs.toNat va0).length=m.regs.toNat:=List.length_replicate ..
 have L3:Hid (LocBox W3 w1.heap.size (List.replicate m.regs.toNat va0)):=⟨by rw [hW3];exact blk_up (by simp) (blk_at rfl),by rw [hLL];unfold maxLen;omega⟩
 have C3:Hid (CalAt w0 W3 ⟨w1.heap.size+1,w1.heap.size,m.regs.toNat,P,CC,KA,pp,cc,kk⟩ ⟨m,List.replicate m.regs.toNat va0,va0,va0,0⟩):=by
  have:=H1.out.base
  refine ⟨by dsimp only;omega,by dsimp only;omega,?_,L3.out,HME.out⟩
  rw [hW3]
  have e:calRow ⟨w1.heap.size+1,w1.heap.size,m.regs.toNat,P,CC,KA,pp,cc,kk⟩ ⟨m,List.replicate m.regs.toNat va0,va0,va0,0⟩=#[.slice P m.params.length pp,.int .i64 m.ret.kind,.int .i64 m.ret.cls,.int .i64 m.stack,.int .i64 m.locs,.int .i64 m.regs,.slice CC m.code.length cc,.slice KA m.hands.length kk,.slice (some ⟨w1.heap.size,0,none⟩) m.regs.toNat m.regs.toNat,.int .i64 0,.int .i64 0,.int .i64 0,.int .i64 0,.int .i64 0]:=by
   simp [calRow,va0]
  rw [e]
  exact blk_at (by simp)
 have HB3:Hid (Bl w1 W3):=hb3
 rw [←hW3]
 clear hW3 hb3 hLL x0 x1 x2 x3 x4 x5 x6 x7
 go_loopw [9,10] (fun at' i wr=>∃k:Nat,k≤l.length∧i=.int .i64 k∧at'=.int .i64 ((sizP (l.take k):Nat):Int)∧Hid (Only w1.heap.size W3 wr)∧Hid (LocBox wr w1.heap.size (argsP (List.replicate m.regs.toNat va0) 0 (l.take k)))) (fun _ i _=>l.length-(intOf i).toNat)
 case atStart=>exact ⟨0,Nat.zero_le _,rfl,rfl,Only.refl _ _,L3.out⟩
 case round =>
  obtain ⟨k,hk,rfl,rfl,ho,hL⟩:=hrel
  obtain ⟨a1,a2,a3,a4⟩:=args_part HSM.out HL.out HGV.out HEL.out k hk
  by_cases hkl:k<l.length
  ·obtain ⟨a5,a6⟩:=a4 hkl
   clear a4
   have SW1:StkAt lb w1 A l:=HA.out.fr HC.out.k F1.out
   have SW3:StkAt lb W3 A l:=SW1.keep fun b cs f e _=>(HB3.out.block _ (lt_some e)).trans e
   have HSW:Hid (∀w',Only w1.heap.size W3 w'→StkAt lb w' A l):=fun w' o=>SW3.only o w1.heap.size (Nat.le_refl _) fun x y cs f hx hh hl0=>by
    rcases SW1 with h0|⟨x',y',cs',f',hx',hh',-⟩
    ·omega
    ·rw [hx] at hx'
     simp only [Option.some.injEq,Addr.mk.injEq] at hx'
     obtain ⟨rfl,-,-⟩:=hx'
     exact lt_some hh'
   obtain ⟨b,off,hAA,hcl⟩:=(HSW.out wr ho.out).fst (by omega)
   obtain ⟨v0,v1⟩:=hcl k hkl
   subst hAA
   have y8:wr.cell? ⟨w1.heap.size+1,8,none⟩=some (.slice (some ⟨w1.heap.size,0,none⟩) m.regs.toNat m.regs.toNat):=by
    have hb:=(ho.out.block (w1.heap.size+1) (lt_some C3.out.blk) (by omega)).trans C3.out.blk
    rw [cell_blk hb]
    simp [calRow]
   have hX:=take_snoc' hkl
   have HNA:Hid (argsP (List.replicate m.regs.toNat va0) 0 (l.take (k+1))=stoP (argsP (List.replicate m.regs.toNat va0) 0 (l.take k)) (sizP (l.take k)) (nth va0 l k)):=by
    show argsP (List.replicate m.regs.toNat va0) 0 (l.take (k+1))=_
    rw [hX,args_snoc,Nat.zero_add]
   have HNS:Hid (sizP (l.take (k+1))=sizP (l.take k)+sizP [nth va0 l k]):=by
    show sizP (l.take (k+1))=_
    rw [hX,sizP_append]
   have HA1:Hid (LocOk (argsP (List.replicate m.regs.toNat va0) 0 (l.take k))):=a1
   have HA2:Hid (m.regs.toNat=(argsP (List.replicate m.regs.toNat va0) 0 (l.take k)).length):=a2.symm
   have H2:Hid ((nth va0 l k).kind=2→sizP (l.take k)+1<m.regs.toNat):=fun e=>by have:=a6 e;omega
   have hslt:sizP (l.take k)<m.regs.toNat:=by omega
   have hs1:sizP [nth va0 l k]≤2:=by have:=sizP_le [nth va0 l k];simp at this;omega
   have hk0:(0:Int)≤(k:Int):=by omega
   have hk1:(k:Int)<(l.length:Int):=by omega
   have hkm:l.length≤2 ^ 63-1:=by have:=HL.out;omega
   have hne:b≠w1.heap.size:=by
    rcases SW1 with h0|⟨x',y',cs',f',hx',hh',-⟩
    ·omega
    ·simp only [Option.some.injEq,Addr.mk.injEq] at hx'
     obtain ⟨rfl,-,-⟩:=hx'
     have:=lt_some hh'
     omega
   clear hcl hX a1 a2 a6 SW1 SW3
   generalize nth va0 l k=V at *
   generalize sizP (l.take k)=T at *
   generalize (argsP (List.replicate m.regs.toNat va0) 0 (l.take k))=AL at *
   go_wp2
   go_region_held3 (fun w'=>w'.cell? ⟨w1.heap.size+1,8,none⟩=some (.slice (some ⟨w1.heap.size,0,none⟩) m.regs.toNat m.regs.toNat)∧w'.cell? ⟨b,off+k*2,none⟩=some (.int .i64 V.kind)∧w'.cell? ⟨b,off+k*2+1,none⟩=some (.int .i64 V.n))
    (go_keep)
    (first
     | (go_at_call 82;refine (store_at w1.heap.size AL T m.regs.toNat m.regs.toNat V _ (by exact ⟨hL.out.blk,hL.out.len⟩) HA1.out HA2.out hslt H2.out).mono ?_;rintro e w2 ⟨rfl,l2,o2⟩;have O2:Hid (Only w1.heap.size W3 w2):=(Only.drew ho.out).trans o2;have u8:w2.cell? ⟨w1.heap.size+1,8,none⟩=some (.slice (some ⟨w1.heap.size,0,none⟩) m.regs.toNat m.regs.toNat):=(by have hb:=(O2.out.block (w1.heap.size+1) (lt_some C3.out.blk) (by omega)).trans C3.out.blk;rw [cell_blk hb];simp [calRow]);have u0:w2.cell? ⟨b,off+k*2,none⟩=some (.int .i64 V.kind):=(by rw [←v0];exact World.cell?_of_block (o2.block b (cell_lt v0) hne));have u1:w2.cell? ⟨b,off+k*2+1,none⟩=some (.int .i64 V.n):=(by rw [←v1];exact World.cell?_of_block (o2.block b (cell_lt v1) hne))))
   go_wp2_with (go_at_call 83;refine (size_at _ _ 1 [V] _ (vas_one u0 u1) (by simp) rfl).mono ?_;rintro e w3 ⟨rfl,hw3⟩;rw [hw3];clear hw3 w3)
   go_roundw
   case rel=>exact ⟨k+1,by omega,by go_num,by rw [HNS.out];go_num,O2,by show LocBox _ _ _;rw [HNA.out];exact l2⟩
   case measure=>simp [intOf];omega
  ·obtain rfl:k=l.length:=by omega
   generalize sizP (List.take l.length l)=TT at *
   rw [List.take_length] at hL
   have HWR:Hid (CalAt w0 wr ⟨w1.heap.size+1,w1.heap.size,m.regs.toNat,P,CC,KA,pp,cc,kk⟩ (newCal m l)):=by
    have:=C3.out.setLoc ho.out hL.out (by rw [List.take_length] at a2;rw [a2];simp)
    exact this
   have HSR:Hid (Hs w0 g wr p (h.enterH m l)):=Only.hs (H1.out.old HB3.out) ho.out HC.out.k L3.out H1.out.base
   have HMR:Hid (MthBox wr w.heap.size m P CC KA pp cc kk):=⟨(ho.out.block _ (by have:=HB3.out.size;omega) (by omega)).trans ((HB3.out.block _ hlt1).trans HM1.out.blk)⟩
   have HBR:Hid (VaBox wr (w.heap.size+1) va0):=⟨(ho.out.block _ (by have:=HB3.out.size;omega) (by omega)).trans ((HB3.out.block _ hlt2).trans HB1.out.blk)⟩
   have HNR:Hid (VaBox wr NB va0):=⟨(ho.out.block _ (by have:=HB3.out.size;omega) (by omega)).trans ((HB3.out.block _ hlt3).trans HN1.out.blk)⟩
   have HFR:Hid (Fr w0.heap.size g.T w wr):=by
    have f3:Fr w0.heap.size g.T w W3:=(HF.out.trans F1.out).trans (Fr.old H1.out.base HB3.out)
    refine ⟨⟨ho.out.os.trans f3.bl.os,ho.out.tape.trans f3.bl.tape,ho.out.output.trans f3.bl.output,Nat.le_trans f3.bl.size ho.out.size,fun b hb=>(ho.out.block b (by have:=f3.bl.size;omega) (by omega)).trans (f3.bl.block b hb)⟩,fun b cs t f e n=>?_⟩
    have:=lt_some e
    exact (ho.out.block b (by have:=f3.bl.size;omega) (by omega)).trans (f3.keep b cs t f e n)
   have HST:Hid (L2 w0 g p ⟨w1.heap.size+1,w1.heap.size,m.regs.toNat,P,CC,KA,pp,cc,kk⟩ m wr (h.enterH m l) N LP N (h.enterH m l) (newCal m l) wr):=by
    have hbb:=HB.out
    unfold Hp.enterB at hbb
    rw [Bool.and_eq_true] at hbb
    have hd:h.deep=false:=by simpa using hbb.2
    have heH:h.enterH m l={ h with calls:=h.calls+1 }:=by
     unfold Hp.enterH;rw [if_neg (by rw [hbb.1];decide),if_neg (by rw [hd];decide)]
    have hdc:h.calls<20:=by
     unfold Hp.deep at hd;simpa using hd
    have gc:=new_kept HSM.out HOK.out HL.out HGV.out HEL.out
    have g1:Gh 0 (h.enterH m l):=by
     have gh:=HGH.out
     rw [heH]
     exact ⟨fun o ho x hx=>⟨(gh.held o ho x hx).ref,(gh.held o ho x hx).num⟩,gh.thr,gh.used,gh.steps,gh.fuel,gh.out,gh.len,gh.inp,by dsimp only;omega⟩
    refine ⟨HSR.out,HWR.out,Fq.refl _ _ _ _,g1,by rw [heH];exact HKD.out,by rw [heH];dsimp only;omega,fun _=>?_,rfl,rfl,rfl,rfl,by rw [heH];exact HNN.out,Nat.le_refl _,HLP.out⟩
    rw [heH]
    exact ⟨HTH.out,⟨⟨gc.giv.ref,gc.giv.num⟩,⟨gc.cau.ref,gc.cau.num⟩,fun v hv=>⟨(gc.locs v hv).ref,(gc.locs v hv).num⟩,gc.ok,gc.len,gc.me,gc.mok⟩,Int.le_refl _,by show (0:Int)≤_;omega⟩
   have HEV:Hid (Env w0 g (h.enterH m l)):=by
    refine HE.out.of ?_ ?_<;>(unfold Hp.enterH;split;exact (by first|exact (fin_le h 6).file|exact (fin_le h 6).input);split;exact (by first|exact (fin_le h 5).file|exact (fin_le h 5).input);rfl)
   have hpw:p<w.heap.size:=by obtain ⟨vo,vx,hv,X⟩:=HPW.out;exact lt_some X.blk
   obtain ⟨WA,hWA⟩:∃WA,WA=wr:=⟨wr,rfl⟩
   subst hWA
   clear HF HH HM HR HN HA HP HL HG HGH HKD HSM HOK HGV HTH HNN HLP HEL hmk F1 HB1 HN1 HM1 H1 C3 L3 HB3 HWR HSR a1 a2 a3 a4 hL ho HS2 HB HE HPW
   generalize h.enterH m l=h0 at *
   generalize newCal m l=c0 at *
   go_wp2
   (try (rename_i hz8 hz81 hz82;clear hz8))
   go_loopw [15] (fun _ wr=>∃(k:Nat) (h1:Hp) (c1:Cal),Hid (L2 w0 g p ⟨w1.heap.size+1,w1.heap.size,m.regs.toNat,P,CC,KA,pp,cc,kk⟩ m WA h0 N LP k h1 c1 wr)) (fun _ wr=>leftAt p h0.fuel wr)
   case atStart=>exact ⟨N,h0,c0,HST⟩
   case round =>
    obtain ⟨k,h1,c1,hL2⟩:=hrel
    have n3:w.heap.size+1≠w1.heap.size+1:=by omega
    have n4:w.heap.size+1≠w1.heap.size:=by omega
    have n13:NB≠w1.heap.size+1:=by omega
    have n14:NB≠w1.heap.size:=by omega
    have n5:w.heap.size≠w1.heap.size+1:=by omega
    have n6:w.heap.size≠w1.heap.size:=by omega
    have hpn:w.heap.size+1≠p:=by omega
    have hpn':p≠w.heap.size+1:=by omega
    have hpm:NB≠p:=by have:=HNB.out;omega
    have hpm':p≠NB:=Ne.symm hpm
    have hrm:NB≠w.heap.size+1:=by have:=HNB.out;omega
    have hrm':w.heap.size+1≠NB:=Ne.symm hrm
    have hqw:w.heap.size≤w1.heap.size+1:=by omega
    have hlw:w.heap.size≤w1.heap.size:=by omega
    have hst:0≤h1.sh.steps∧h1.sh.steps≤60000:=by have:=hL2.out.gh.steps;have:=hL2.out.gh.fuel;have:=hL2.out.gh.out;omega
    cases hsb:h1.stepB
    ·as_aux_lemma =>
     have HLE:Hid (LP=(h1.step.leave,va0)):=hL2.out.is.symm.trans (loop_end hsb)
     have hcb:0≤h1.step.calls∧h1.step.calls≤20:=by rw [(step_le h1).calls];exact hL2.out.gh.calls
     repeat (first|(go_big_may;go_says (go_at_call 84;refine (step_any w0 g HC.out.k p h1 _ hL2.out.hs hst).mono ?_;rintro e w2 ⟨he,h2,f2⟩;rw [hsb] at he;subst he;have EXH:=hid (And.intro h2 (hL2.out.fq.trans f2.fq));obtain ⟨c4,f4⟩:=Hs.c4 EXH.out.1;obtain ⟨r0,r1,rf⟩:=VaBox.three (HBR.out.fq HC.out.k (hL2.out.fq.trans f2.fq) n3 n4);obtain ⟨nn0,nn1,-⟩:=VaBox.three (HNR.out.fq HC.out.k (hL2.out.fq.trans f2.fq) n13 n14);clear h2 f2 hL2))|go_values|go_skip|go_guarded|go_step|go_upon|(simp only [Int.not_lt,Int.not_le] at *;go_simp)|(go_values<;>(try go_simp))|(go_ite<;>go_prune<;>(try go_simp)))
     (try simp only [Exit.inBlock,Exit.then])
     obtain ⟨⟨vo,vx,hv,HXA⟩,hfq⟩:=EXH.out
     have HBX:=HBR.out.fq HC.out.k hfq n3 n4
     refine bodyPost_ret (results_cell_row rfl _ _ (w.heap.size+1) _ _ _ _ rfl ((HBX.far hpn).set va0).blk Tryz.underlying82 rfl info_va) rfl ?_
     rw [HLE.out]
     exact ⟨rfl,⟨vo,vx,hv,(HXA.leave HC.out.k).cf ((HBX.far hpn).cf HC.out.k hbs1 _ _)⟩,((((Fq.fr HFR.out hfq hqw hlw).trans (HXA.frSet 4 _)).new hle1 hbs1 _).new hle1 hbs1 _)⟩
    ·have hsb':=hsb
     unfold Hp.stepB at hsb'
     simp at hsb'
     obtain ⟨k',rfl⟩:∃k',k=k'+1:=⟨k-1,by have:=hL2.out.left;omega⟩
     have hle:=step_le h1
     have hse:h1.step={ h1 with sh:={ h1.sh with steps:=h1.sh.steps+1 } }:=by unfold Hp.step;rw [if_neg (by rw [hsb'.1];decide),if_neg (by omega)]
     obtain ⟨hth1,gc1,hpc1⟩:=hL2.out.inv hsb'.1
     have H2O:Hid (h1.step.over=false):=by show h1.step.over=false;rw [hse];exact hsb'.1
     have H2T:Hid (h1.step.thrown=-1):=by show h1.step.thrown=-1;rw [hse];exact hth1
     have G2:Hid (Gh 1 h1.step):=hL2.out.gh.step hsb
     have KD2:Hid (Kd h1.step):=hL2.out.kd.step
     have GC2:Hid (Gc h1.step c1):=gc1.le hle
     have HPC:Hid (0≤c1.pc∧c1.pc≤c1.m.code.length):=hpc1
     have HME2:Hid (c1.m=m):=hL2.out.me
     have HLF:Hid ((h1.step.fuel-h1.step.sh.steps).toNat≤k'):=by
      show (h1.step.fuel-h1.step.sh.steps).toNat≤k'
      have:=hL2.out.left
      rw [hse];dsimp only;omega
     have HKN:Hid (k'<N):=by have:=hL2.out.le;show k'<N;omega
     have HEV2:Hid (Env w0 g h1.step):=HEV.out.of (hle.file.trans hL2.out.file) (hle.input.trans hL2.out.inp)
     have HF2:Hid (h1.step.file=h0.file∧h1.step.input=h0.input∧h1.step.fuel=h0.fuel):=⟨hle.file.trans hL2.out.file,hle.input.trans hL2.out.inp,hle.fuel.trans hL2.out.fuel⟩
     have HC2:Hid (1≤h1.step.calls):=by show 1≤h1.step.calls;rw [hle.calls];exact hL2.out.calls
     have HLS:Hid (LP=stepP (loopP k') h1.step c1):=by
      show LP=_
      rw [←hL2.out.is]
      show (if h1.stepB=false then _ else _)=_
      rw [if_neg (by rw [hsb];decide)]
     have HMS:Hid (leftAt p h0.fuel wr=(h0.fuel-(h1.step.sh.steps-1)).toNat∧h1.step.sh.steps≤h0.fuel∧1≤h1.step.sh.steps):=by
      refine ⟨(left_is hL2.out.hs _).trans ?_,?_,?_⟩
      ·rw [hse];dsimp only;congr 1;omega
      ·have:=hL2.out.fuel;rw [hse];dsimp only;omega
      ·have:=hL2.out.gh.out;rw [hse];dsimp only;omega
     have SA:Hid (Calls Tryz.prog 84 #[.pointer (some ⟨p,0,none⟩)] wr fun e w'=>e=.returned (.bool true)∧Hs w0 g w' p h1.step∧Fr w0.heap.size g.T wr w'):=(step_any w0 g HC.out.k p h1 _ hL2.out.hs hst).mono fun e w' hh=>⟨by rw [hh.1,hsb],hh.2⟩
     have HCR:=hid hL2.out.cs
     have HFQ:=hid hL2.out.fq
     clear hsb hsb' hse hle hth1 gc1 hpc1 hst hL2
     generalize h1.step=h2 at *
     by_cases hpc:c1.pc<m.code.length
     ·have hpl:=HPC.out
      obtain ⟨n,hn⟩:∃n:Nat,c1.pc=n:=⟨c1.pc.toNat,by omega⟩
      have HN:=hid hn
      have hnl:n<m.code.length:=by omega
      have hnm:m.code.length≤2 ^ 63-1:=by have:=HME.out.2.1.1;unfold maxLen at this;omega
      have hn0:(0:Int)≤(n:Int):=by omega
      have hn1:(n:Int)<(m.code.length:Int):=by omega
      obtain ⟨xb,xo,Qa,qq,hXC,HXI,HQI⟩:∃xb xo Qa qq,CC=some ⟨xb,xo,none⟩∧Hid (∀w',Bl w0 w'→w'.cell? ⟨xb,xo+n*6,none⟩=some (.int .i64 (nth in0 m.code n).op)∧w'.cell? ⟨xb,xo+n*6+1,none⟩=some (.int .i64 (nth in0 m.code n).a)∧w'.cell? ⟨xb,xo+n*6+2,none⟩=some (.int .i64 (nth in0 m.code n).b)∧w'.cell? ⟨xb,xo+n*6+3,none⟩=some (.int .i64 (nth in0 m.code n).c)∧w'.cell? ⟨xb,xo+n*6+4,none⟩=some (.int .i64 (nth in0 m.code n).n)∧w'.cell? ⟨xb,xo+n*6+5,none⟩=some (.slice Qa (nth in0 m.code n).args.length qq))∧Hid (IntsAt w0 Qa (nth in0 m.code n).args):=by
       rcases HME.out.2.1.2 with h0'|⟨xb,xo,hX,hc⟩
       ·omega
       obtain ⟨e0,e1,e2,e3,e4,-,Qa,qq,e5,e6⟩:=hc n hnl
       exact ⟨xb,xo,Qa,qq,hX,fun w' hb=>⟨hb.cell e0,hb.cell e1,hb.cell e2,hb.cell e3,hb.cell e4,hb.cell e5⟩,e6⟩
      have HXC:=hid hXC
      have hd:decide ((n:Int)<(m.code.length:Int))=true:=decide_eq_true hn1
      have hnv:(!h2.over)=true:=by rw [H2O.out];rfl
      have HOKI:Hid (InOk h2.file.classes h2.file.methods c1.m.code.length c1.m.regs c1.m.ret.kind (nth in0 m.code n)∧(nth in0 m.code n).ok):=by
       have:=code_ok GC2.out ⟨by omega,by rw [HME2.out];omega⟩
       rw [hn,Int.toNat_natCast] at this
       rw [←HME2.out];exact this
      have HLS2:Hid (LP=if (nth in0 m.code n).op=20 then retP h2 c1 (nth in0 m.code n) else nextP (loopP k') (doP k' h2 c1 (nth in0 m.code n))):=by
       show LP=_
       have e1:h2.mustB (decide (c1.pc<c1.m.code.length))=true:=by rw [must_is h2 H2O.out,HME2.out];exact decide_eq_true hpc
       rw [HLS.out]
       unfold stepP
       rw [if_neg (by rw [e1];decide),hn,Int.toNat_natCast,HME2.out]
       rfl
      clear hpl hn hpc hXC HLS
      generalize (nth in0 m.code n)=I at *
      go_wp2_with (go_at_call 84;refine SA.out.mono ?_;rintro e w2 ⟨rfl,hs2,f2⟩;have FQ2:=hid (HFQ.out.trans f2.fq);have F2:=hid f2;have HS2:=hid hs2;have CC2:=CalAt.fr HCR.out HC.out.k HC.out.n7 f2;have d13:w2.cell? ⟨w1.heap.size+1,13,none⟩=some (.int .i64 (n:Int)):=(by rw [←HN.out];exact CC2.cells.c13);have m6:=(HMR.out.fq HC.out.k FQ2.out n5 n6).cells.c6;rw [HXC.out] at m6;have HC2A:=hid CC2;obtain ⟨i0,i1,i2,i3,i4,i5⟩:=HXI.out w2 hs2.bl;have hq2:=lt_some CC2.blk;have hm2:=lt_some (HMR.out.fq HC.out.k FQ2.out n5 n6).blk;have hx2:=cell_lt i0;clear CC2 f2 hs2)
      go_region_held3 (fun w'=>w'.cell? ⟨w1.heap.size+1,13,none⟩=some (.int .i64 (n:Int))∧w'.cell? ⟨w.heap.size,6,none⟩=some (.slice (some ⟨xb,xo,none⟩) m.code.length cc))
       (go_keep)
       (first
        | (go_at_call 85;refine (must_true w0 g p h2 _ (by first|exact HS2.out.cf (Cf.drew (Cf.refl _ _ _))|exact HS2.out)).mono ?_;rintro e w3 ⟨he,hw3⟩;rw [hnv] at he;subst he;rw [hw3];clear hw3 w3))
      (try (rename_i hz7;clear hz7))
      go_wp2
      go_region_held3 (fun w'=>w'.cell? ⟨w1.heap.size+1,13,none⟩=some (.int .i64 (n:Int))∧w'.cell? ⟨w.heap.size,6,none⟩=some (.slice (some ⟨xb,xo,none⟩) m.code.length cc)∧w'.cell? ⟨xb,xo+n*6,none⟩=some (.int .i64 I.op)∧w'.cell? ⟨xb,xo+n*6+1,none⟩=some (.int .i64 I.a)∧w'.cell? ⟨xb,xo+n*6+2,none⟩=some (.int .i64 I.b)∧w'.cell? ⟨xb,xo+n*6+3,none⟩=some (.int .i64 I.c)∧w'.cell? ⟨xb,xo+n*6+4,none⟩=some (.int .i64 I.n)∧w'.cell? ⟨xb,xo+n*6+5,none⟩=some (.slice Qa I.args.length qq))
       (go_keep)
       (fail)
      (try (rename_i hz6;clear hz6))
      have HPLT:p<w2.heap.size:=by obtain ⟨vo',vx',hv',X'⟩:=HS2.out;exact lt_some X'.blk
      have hrl2:w.heap.size+1<w2.heap.size:=lt_some (HBR.out.fq HC.out.k FQ2.out n3 n4).blk
      have hnl2:NB<w2.heap.size:=lt_some (HNR.out.fq HC.out.k FQ2.out n13 n14).blk
      obtain ⟨V5,hV5⟩:∃V5,V5=(w2.alloc (.cells #[.int .i64 I.op,.int .i64 I.a,.int .i64 I.b,.int .i64 I.c,.int .i64 I.n,.slice Qa I.args.length qq] 58)).drew.drew:=⟨_,rfl⟩
      obtain ⟨ib,hib⟩:∃ib,ib=w2.heap.size:=⟨_,rfl⟩
      rw [←hV5,←hib]
      have bb5:Bl w2 V5:=by rw [hV5];exact ((Bl.refl w2).alloc _).drew.drew
      have HS5:Hid (Hs w0 g V5 p h2):=HS2.out.old bb5
      have HC5:Hid (CalAt w0 V5 ⟨w1.heap.size+1,w1.heap.size,m.regs.toNat,P,CC,KA,pp,cc,kk⟩ c1):=HC2A.out.old bb5
      have FQ5:Hid (Fq w0.heap.size g.T ⟨w1.heap.size+1,w1.heap.size,m.regs.toNat,P,CC,KA,pp,cc,kk⟩ WA V5):=FQ2.out.trans (Fr.fq (Fr.old HS2.out.base bb5))
      have HI5:Hid (IBox V5 ib I.op I.a I.b I.c I.n Qa I.args.length qq):=⟨by rw [hV5,hib];exact (blk_new w2 _ _)⟩
      have HM5:Hid (MthBox V5 w.heap.size m P CC KA pp cc kk):=HMR.out.fq HC.out.k FQ5.out n5 n6
      have hib5:=lt_some HI5.out.blk
      have hbe:w2.heap.size≤ib:=by omega
      have nib:ib≠w1.heap.size+1:=by omega
      have nib':w1.heap.size+1≠ib:=by omega
      have hw5:=bb5.size
      clear hV5 bb5 i0 i1 i2 i3 i4 i5 d13 m6
      have hb5:=HS5.out.base
      have j0:=HI5.out.cs.1
      have zq5:=lt_some HC5.out.blk
      have zl5:=lt_some HC5.out.loc.blk
      dsimp only at zq5 zl5
      have hp5:p<V5.heap.size:=by omega
      have hr5:w.heap.size+1<V5.heap.size:=by omega
      have hn5:NB<V5.heap.size:=by omega
      have hm5:w.heap.size<V5.heap.size:=by omega
      have n20:w.heap.size≠V5.heap.size:=by omega
      have n21:V5.heap.size≠p:=by omega
      have n21':p≠V5.heap.size:=by omega
      have n22:V5.heap.size≠w.heap.size+1:=by omega
      have n22':w.heap.size+1≠V5.heap.size:=by omega
      have n23:V5.heap.size≠w1.heap.size+1:=by omega
      have n24:V5.heap.size≠w1.heap.size:=by omega
      have n25:V5.heap.size≠NB:=by omega
      have n26:NB≠V5.heap.size:=by omega
      clear hib hbe hw5 HPLT hrl2 hnl2 hq2 hm2 hx2 HS2 HC2A F2 FQ2
      by_cases hop:I.op=20
      ·by_cases hrk:m.ret.kind=0
       ·as_aux_lemma =>
        have HLE:Hid (LP=(h2.leave,va0)):=by
         show LP=_
         rw [HLS2.out,if_pos hop]
         unfold retP
         rw [if_pos (by rw [HME2.out];exact hrk)]
        have hz:(I.op==20)=true:=by simpa using hop
        have hrz:(m.ret.kind !=0)=false:=by simpa using hrk
        have hcb:0≤h2.calls∧h2.calls≤20:=G2.out.calls
        have m1:=HM5.out.cells.c1
        clear hop hrk
        have EXH:=hid (And.intro HS5.out FQ5.out)
        obtain ⟨c4,f4⟩:=Hs.c4 EXH.out.1
        obtain ⟨r0,r1,rf⟩:=VaBox.three (HBR.out.fq HC.out.k FQ5.out n3 n4)
        obtain ⟨nn0,nn1,-⟩:=VaBox.three (HNR.out.fq HC.out.k FQ5.out n13 n14)
        repeat (first|go_values|go_skip|go_guarded|go_step|go_upon|(simp only [Int.not_lt,Int.not_le] at *;go_simp)|(go_values<;>(try go_simp))|(go_ite<;>go_prune<;>(try go_simp)))
        (try simp only [Exit.inBlock,Exit.then])
        obtain ⟨⟨vo,vx,hv,HXA⟩,hfq⟩:=EXH.out
        have HBX:=HBR.out.fq HC.out.k hfq n3 n4
        have hfb:=((HBX.far hpn).set va0:VaBox (((V5.setCell ⟨p,4,none⟩ (.int .i64 (h2.calls-1))).setCell ⟨w.heap.size+1,0,none⟩ (.int .i64 va0.kind)).setCell ⟨w.heap.size+1,1,none⟩ (.int .i64 va0.n)) (w.heap.size+1) va0).blk
        refine bodyPost_ret (results_cell_row rfl _ _ (w.heap.size+1) _ _ _ _ rfl (blk_up (o':=vzO) (lt_some hfb) hfb) Tryz.underlying82 rfl info_va) rfl ?_
        rw [HLE.out]
        have hsf:Hs w0 g (((V5.setCell ⟨p,4,none⟩ (.int .i64 (h2.calls-1))).setCell ⟨w.heap.size+1,0,none⟩ (.int .i64 va0.kind)).setCell ⟨w.heap.size+1,1,none⟩ (.int .i64 va0.n)) p h2.leave:=⟨vo,vx,hv,(HXA.leave HC.out.k).cf ((HBX.far hpn).cf HC.out.k hbs1 _ _)⟩
        have hff:Fr w0.heap.size g.T w (((V5.setCell ⟨p,4,none⟩ (.int .i64 (h2.calls-1))).setCell ⟨w.heap.size+1,0,none⟩ (.int .i64 va0.kind)).setCell ⟨w.heap.size+1,1,none⟩ (.int .i64 va0.n)):=((((Fq.fr HFR.out hfq hqw hlw).trans (HXA.frSet 4 _)).new hle1 hbs1 _).new hle1 hbs1 _)
        exact ⟨rfl,hsf.old ((Bl.refl _).alloc _),hff.trans (Fr.old hsf.base ((Bl.refl _).alloc _))⟩
       ·as_aux_lemma =>
        have hz:(I.op==20)=true:=by simpa using hop
        have hrz:(m.ret.kind !=0)=true:=by simpa using hrk
        have hra:0≤I.a∧I.a<c1.locs.length:=by
         have e1:=HOKI.out.1.ret hop (by rw [HME2.out];exact hrk)
         have e2:=GC2.out.len
         omega
        have HV3:Hid ((c1.rd I.a).kind=3→(c1.rd I.a).n<(h2.rdH c1 I.a m.ret.kind).objs.length):=fun e=>by rw [rdH_objs];exact ((GC2.out.rd (a:=I.a) (by have:=GC2.out.len;omega)).ref e).2
        have HLE0:Hid (LP=(((h2.rdH c1 I.a m.ret.kind).must (!(h2.rdH c1 I.a m.ret.kind).over&&(h2.rdH c1 I.a m.ret.kind).of (c1.rd I.a) m.ret)).leave,(c1.rd I.a))):=by
         show LP=_
         rw [HLS2.out,if_pos hop]
         unfold retP
         rw [if_neg (by rw [HME2.out];exact hrk),HME2.out]
        have CW3:=hid ((HEV2.out.cq.same (rdH_file h2 c1 I.a m.ret.kind)).cw)
        have CQ2:=hid HEV2.out.cq
        have hcb:0≤(h2.rdH c1 I.a m.ret.kind).calls∧(h2.rdH c1 I.a m.ret.kind).calls≤20:=by rw [(rdH_le h2 c1 I.a m.ret.kind).calls];exact G2.out.calls
        have j1:=HI5.out.cs.2.1
        have m1:=HM5.out.cells.c1
        have bb6:Bl V5 (V5.alloc (.cells #[.int .i64 0,.int .i64 0] 82)):=(Bl.refl _).alloc _
        have HS6:Hid (Hs w0 g (V5.alloc (.cells #[.int .i64 0,.int .i64 0] 82)) p h2):=HS5.out.old bb6
        have HC6:Hid (CalAt w0 (V5.alloc (.cells #[.int .i64 0,.int .i64 0] 82)) ⟨w1.heap.size+1,w1.heap.size,m.regs.toNat,P,CC,KA,pp,cc,kk⟩ c1):=HC5.out.old bb6
        have FQ6:Hid (Fq w0.heap.size g.T ⟨w1.heap.size+1,w1.heap.size,m.regs.toNat,P,CC,KA,pp,cc,kk⟩ WA (V5.alloc (.cells #[.int .i64 0,.int .i64 0] 82))):=FQ5.out.trans (Fr.fq (Fr.old hb5 bb6))
        have B12:Hid (VaBox (V5.alloc (.cells #[.int .i64 0,.int .i64 0] 82)) V5.heap.size va0):=⟨blk_at rfl⟩
        obtain ⟨nn0,nn1,-⟩:=VaBox.three (HNR.out.fq HC.out.k FQ5.out n13 n14)
        clear hop hrk bb6
        repeat (first|(go_big_may;go_says (go_at_call 86;refine (yread_any w0 g p h2 ⟨w1.heap.size+1,w1.heap.size,m.regs.toNat,P,CC,KA,pp,cc,kk⟩ c1 I.a m.ret.kind _ HS6.out HC6.out CQ2.out hra).mono ?_;rintro e w7 ⟨rfl,h7,f7⟩;have B7:=hid (B12.out.keep HC.out.k f7);have u0:=B7.out.c0;have u1:=B7.out.c1;have uf:=B7.out.fr;have H7:=hid h7;have F7:=hid f7;clear h7 f7))|go_values|go_skip|go_guarded|go_step|go_upon|(simp only [Int.not_lt,Int.not_le] at *;go_simp)|(go_values<;>(try go_simp))|(go_ite<;>go_prune<;>(try go_simp)))
        have W8S:Hid (Hs w0 g ((w7.setCell ⟨V5.heap.size,0,none⟩ (.int .i64 (c1.rd I.a).kind)).setCell ⟨V5.heap.size,1,none⟩ (.int .i64 (c1.rd I.a).n)) p (h2.rdH c1 I.a m.ret.kind)):=H7.out.cf (B7.out.cf HC.out.k hb5 _ _)
        have F68:Fr w0.heap.size g.T V5 ((w7.setCell ⟨V5.heap.size,0,none⟩ (.int .i64 (c1.rd I.a).kind)).setCell ⟨V5.heap.size,1,none⟩ (.int .i64 (c1.rd I.a).n)):=(((Fr.old hb5 ((Bl.refl _).alloc _)).trans F7.out).new (Nat.le_refl _) hb5 _).new (Nat.le_refl _) hb5 _
        have F8:Hid (Fq w0.heap.size g.T ⟨w1.heap.size+1,w1.heap.size,m.regs.toNat,P,CC,KA,pp,cc,kk⟩ WA ((w7.setCell ⟨V5.heap.size,0,none⟩ (.int .i64 (c1.rd I.a).kind)).setCell ⟨V5.heap.size,1,none⟩ (.int .i64 (c1.rd I.a).n))):=FQ5.out.trans F68.fq
        have B8:Hid (VaBox ((w7.setCell ⟨V5.heap.size,0,none⟩ (.int .i64 (c1.rd I.a).kind)).setCell ⟨V5.heap.size,1,none⟩ (.int .i64 (c1.rd I.a).n)) V5.heap.size (c1.rd I.a)):=B7.out.set (c1.rd I.a)
        have HM8:Hid (MthBox ((w7.setCell ⟨V5.heap.size,0,none⟩ (.int .i64 (c1.rd I.a).kind)).setCell ⟨V5.heap.size,1,none⟩ (.int .i64 (c1.rd I.a).n)) w.heap.size m P CC KA pp cc kk):=HMR.out.fq HC.out.k F8.out n5 n6
        have T18:Hid (∀w',Fr w0.heap.size g.T ((w7.setCell ⟨V5.heap.size,0,none⟩ (.int .i64 (c1.rd I.a).kind)).setCell ⟨V5.heap.size,1,none⟩ (.int .i64 (c1.rd I.a).n)) w'→(fun w'=>w'.cell? ⟨V5.heap.size,0,none⟩=some (.int .i64 (c1.rd I.a).kind)∧w'.cell? ⟨V5.heap.size,1,none⟩=some (.int .i64 (c1.rd I.a).n)∧w'.cell? ⟨w.heap.size,1,none⟩=some (.int .i64 m.ret.kind)∧w'.cell? ⟨w.heap.size,2,none⟩=some (.int .i64 m.ret.cls)) w'):=fun w' f=>⟨(B8.out.keep HC.out.k f).c0,(B8.out.keep HC.out.k f).c1,(HM8.out.fr HC.out.k f).cells.c1,(HM8.out.fr HC.out.k f).cells.c2⟩
        have z18:=hid (T18.out _ (Fr.refl _ _ _))
        have o12:((w7.setCell ⟨V5.heap.size,0,none⟩ (.int .i64 (c1.rd I.a).kind)).setCell ⟨V5.heap.size,1,none⟩ (.int .i64 (c1.rd I.a).n)).cell? ⟨p,12,none⟩=some (.bool (h2.rdH c1 I.a m.ret.kind).over):=by obtain ⟨vo',vx',hv',X'⟩:=W8S.out;exact X'.cells.c12
        clear u0 u1 uf F68
        cases hov:(h2.rdH c1 I.a m.ret.kind).over
        ·rw [hov] at o12
         obtain ⟨R,hR⟩:∃R,(h2.rdH c1 I.a m.ret.kind).of (c1.rd I.a) ⟨m.ret.kind,m.ret.cls⟩=R:=⟨_,rfl⟩
         have HOF:=hid hR
         have HLE:Hid (LP=(((h2.rdH c1 I.a m.ret.kind).must R).leave,(c1.rd I.a))):=by
          show LP=_
          rw [HLE0.out,hov]
          show (((h2.rdH c1 I.a m.ret.kind).must (true&&(h2.rdH c1 I.a m.ret.kind).of (c1.rd I.a) ⟨m.ret.kind,m.ret.cls⟩)).leave,(c1.rd I.a))=_
          rw [hR];rfl
         have hcb:0≤((h2.rdH c1 I.a m.ret.kind).must R).calls∧((h2.rdH c1 I.a m.ret.kind).must R).calls≤20:=by rw [(must_le (h2.rdH c1 I.a m.ret.kind) R).calls];exact hcb
         clear hR
         refine wp_region_held_drew (S:=fun w'=>w'.cell? ⟨V5.heap.size,0,none⟩=some (.int .i64 (c1.rd I.a).kind)∧w'.cell? ⟨V5.heap.size,1,none⟩=some (.int .i64 (c1.rd I.a).n)∧w'.cell? ⟨w.heap.size,1,none⟩=some (.int .i64 m.ret.kind)∧w'.cell? ⟨w.heap.size,2,none⟩=some (.int .i64 m.ret.cls)) (by kernel_rfl) ?_ (fun hHeld0=>?_)
         ·exact z18.out
         iterate 7 (refine tn rfl (by kernel_rfl) (fun _ _ _ h=>h) (by intro _ h;go_split_ands;go_simp<;>with_reducible rfl) hHeld0 ?_;try simp only [aS,aN,aT,a0,a1])
         refine rd1 (i:=7) (by kernel_rfl) rfl fun K hK=>?_
         go_wp2_with fail
         refine hK.out _ _ (hHeld0) (fun hHeld1=>?_)
         try simp only [aS,aN,aT,a0,a1]
         iterate 8 (refine tn rfl (by kernel_rfl) (fun _ _ _ h=>h) (by intro _ h;go_split_ands;go_simp<;>with_reducible rfl) hHeld1 ?_;try simp only [aS,aN,aT,a0,a1])
         refine rd1 (i:=16) (by kernel_rfl) rfl fun K hK=>?_
         rw [if_pos]
         rotate_left 1
         ·rfl
         go_simp
         go_at_call 87
         refine (of_any w0 g p (h2.rdH c1 I.a m.ret.kind) (c1.rd I.a) ⟨m.ret.kind,m.ret.cls⟩ _ (W8S.out.drewN 1) CW3.out.cls CW3.out.tree HV3.out).mono ?_
         rintro e w9 ⟨he,h9,f9,b9⟩
         rw [HOF.out] at he
         subst he
         have F9:=hid (((Fr.refl w0.heap.size g.T ((w7.setCell ⟨V5.heap.size,0,none⟩ (.int .i64 (c1.rd I.a).kind)).setCell ⟨V5.heap.size,1,none⟩ (.int .i64 (c1.rd I.a).n))).drewN 1).trans f9)
         have d9:=hid (T18.out _ F9.out)
         have H9:=hid h9
         clear h9 f9 b9
         go_wp2_with fail
         refine hK.out _ _ (d9.out) (fun hHeld2=>?_)
         try simp only [aS,aN,aT,a0,a1]
         refine tn rfl (by kernel_rfl) (fun _ _ _ h=>h) (by intro _ h;go_split_ands;go_simp<;>with_reducible rfl) hHeld2 ?_
         try simp only [aS,aN,aT,a0,a1]
         refine rd1 (i:=18) (by kernel_rfl) rfl fun K hK=>?_
         go_simp
         go_at_call 85
         refine (must_any w0 g HC.out.k p (h2.rdH c1 I.a m.ret.kind) R _ H9.out).mono ?_
         rintro e w10 ⟨rfl,h10,f10⟩
         have d10:=hid (T18.out _ (F9.out.trans f10))
         have B10:=hid ((B8.out).keep HC.out.k (F9.out.trans f10))
         have G10:=hid (F8.out.trans (F9.out.trans f10).fq)
         have H10:=hid h10
         clear h10 f10
         go_wp2_with fail
         refine hK.out _ _ (d10.out) (fun hHeld3=>?_)
         try simp only [aS,aN,aT,a0,a1]
         refine wpAnyH_done (by kernel_rfl) ?_ _
         have hX10:=H10.out
         obtain ⟨vo,vx,hv,HXA⟩:=hX10
         have c4:=HXA.cells.c4
         have f4:=HXA.free 4
         obtain ⟨r0,r1,rf⟩:=VaBox.three (HBR.out.fq HC.out.k G10.out n3 n4)
         obtain ⟨k0,k1,-⟩:=VaBox.three B10.out
         clear HXA
         repeat (first|go_values|go_skip|go_guarded|go_step|go_upon|(simp only [Int.not_lt,Int.not_le] at *;go_simp)|(go_values<;>(try go_simp))|(go_ite<;>go_prune<;>(try go_simp)))
         (try simp only [Exit.inBlock,Exit.then])
         obtain ⟨vo,vx,hv,HXA⟩:=H10.out
         have HBX:=HBR.out.fq HC.out.k G10.out n3 n4
         refine bodyPost_ret (results_cell_row rfl _ _ (w.heap.size+1) _ _ _ _ rfl ((HBX.far hpn).set (c1.rd I.a)).blk Tryz.underlying82 rfl info_va) rfl ?_
         rw [HLE.out]
         exact ⟨rfl,⟨vo,vx,hv,(HXA.leave HC.out.k).cf ((HBX.far hpn).cf HC.out.k hbs1 _ _)⟩,((((Fq.fr HFR.out G10.out hqw hlw).trans (HXA.frSet 4 _)).new hle1 hbs1 _).new hle1 hbs1 _)⟩
        ·rw [hov] at o12
         have HLE:Hid (LP=(((h2.rdH c1 I.a m.ret.kind).must false).leave,(c1.rd I.a))):=by
          show LP=_
          rw [HLE0.out,hov]
          rfl
         have hcb:0≤((h2.rdH c1 I.a m.ret.kind).must false).calls∧((h2.rdH c1 I.a m.ret.kind).must false).calls≤20:=by rw [(must_le (h2.rdH c1 I.a m.ret.kind) false).calls];exact hcb
         refine wp_region_held_drew (S:=fun w'=>w'.cell? ⟨V5.heap.size,0,none⟩=some (.int .i64 (c1.rd I.a).kind)∧w'.cell? ⟨V5.heap.size,1,none⟩=some (.int .i64 (c1.rd I.a).n)∧w'.cell? ⟨w.heap.size,1,none⟩=some (.int .i64 m.ret.kind)∧w'.cell? ⟨w.heap.size,2,none⟩=some (.int .i64 m.ret.cls)) (by kernel_rfl) ?_ (fun hHeld0=>?_)
         ·exact z18.out
         iterate 7 (refine tn rfl (by kernel_rfl) (fun _ _ _ h=>h) (by intro _ h;go_split_ands;go_simp<;>with_reducible rfl) hHeld0 ?_;try simp only [aS,aN,aT,a0,a1])
         refine rd1 (i:=7) (by kernel_rfl) rfl fun K hK=>?_
         go_wp2_with fail
         refine hK.out _ _ (hHeld0) (fun hHeld1=>?_)
         try simp only [aS,aN,aT,a0,a1]
         iterate 2 (refine tn rfl (by kernel_rfl) (fun _ _ _ h=>h) (by intro _ h;go_split_ands;go_simp<;>with_reducible rfl) hHeld1 ?_;try simp only [aS,aN,aT,a0,a1])
         refine skipH (i:=10) (d:=some 106) rfl rfl (by kernel_rfl) (by kernel_rfl) (by kernel_rfl) (fun _ _ _ h=>h) (by rfl) hHeld1 ?_
         try simp only [aS,aN,aT,a0,a1]
         refine skipH (i:=11) (d:=some 107) rfl rfl (by kernel_rfl) (by kernel_rfl) (by kernel_rfl) (fun _ _ _ h=>h) (by rfl) hHeld1 ?_
         try simp only [aS,aN,aT,a0,a1]
         refine skipH (i:=12) (d:=some 108) rfl rfl (by kernel_rfl) (by kernel_rfl) (by kernel_rfl) (fun _ _ _ h=>h) (by rfl) hHeld1 ?_
         try simp only [aS,aN,aT,a0,a1]
         refine skipH (i:=13) (d:=some 109) rfl rfl (by kernel_rfl) (by kernel_rfl) (by kernel_rfl) (fun _ _ _ h=>h) (by rfl) hHeld1 ?_
         try simp only [aS,aN,aT,a0,a1]
         refine skipH (i:=14) (d:=some 110) rfl rfl (by kernel_rfl) (by kernel_rfl) (by kernel_rfl) (fun _ _ _ h=>h) (by rfl) hHeld1 ?_
         try simp only [aS,aN,aT,a0,a1]
         refine skipH (i:=15) (d:=some 111) rfl rfl (by kernel_rfl) (by kernel_rfl) (by kernel_rfl) (fun _ _ _ h=>h) (by rfl) hHeld1 ?_
         try simp only [aS,aN,aT,a0,a1]
         refine skipH (i:=16) (d:=some 112) rfl rfl (by kernel_rfl) (by kernel_rfl) (by kernel_rfl) (fun _ _ _ h=>h) (by rfl) hHeld1 ?_
         try simp only [aS,aN,aT,a0,a1]
         refine tn rfl (by kernel_rfl) (fun _ _ _ h=>h) (by intro _ h;go_split_ands;go_simp<;>with_reducible rfl) hHeld1 ?_
         try simp only [aS,aN,aT,a0,a1]
         refine rd1 (i:=18) (by kernel_rfl) rfl fun K hK=>?_
         go_simp
         go_at_call 85
         refine (must_any w0 g HC.out.k p (h2.rdH c1 I.a m.ret.kind) false _ (W8S.out.drewN 1)).mono ?_
         rintro e w10 ⟨rfl,h10,f10⟩
         have d10:=hid (T18.out _ (((Fr.refl w0.heap.size g.T ((w7.setCell ⟨V5.heap.size,0,none⟩ (.int .i64 (c1.rd I.a).kind)).setCell ⟨V5.heap.size,1,none⟩ (.int .i64 (c1.rd I.a).n))).drewN 1).trans f10))
         have B10:=hid ((B8.out).keep HC.out.k (((Fr.refl w0.heap.size g.T ((w7.setCell ⟨V5.heap.size,0,none⟩ (.int .i64 (c1.rd I.a).kind)).setCell ⟨V5.heap.size,1,none⟩ (.int .i64 (c1.rd I.a).n))).drewN 1).trans f10))
         have G10:=hid (F8.out.trans (((Fr.refl w0.heap.size g.T ((w7.setCell ⟨V5.heap.size,0,none⟩ (.int .i64 (c1.rd I.a).kind)).setCell ⟨V5.heap.size,1,none⟩ (.int .i64 (c1.rd I.a).n))).drewN 1).trans f10).fq)
         have H10:=hid h10
         clear h10 f10
         go_wp2_with fail
         refine hK.out _ _ (d10.out) (fun hHeld2=>?_)
         try simp only [aS,aN,aT,a0,a1]
         refine wpAnyH_done (by kernel_rfl) ?_ _
         have hX10:=H10.out
         obtain ⟨vo,vx,hv,HXA⟩:=hX10
         have c4:=HXA.cells.c4
         have f4:=HXA.free 4
         obtain ⟨r0,r1,rf⟩:=VaBox.three (HBR.out.fq HC.out.k G10.out n3 n4)
         obtain ⟨k0,k1,-⟩:=VaBox.three B10.out
         clear HXA
         repeat (first|go_values|go_skip|go_guarded|go_step|go_upon|(simp only [Int.not_lt,Int.not_le] at *;go_simp)|(go_values<;>(try go_simp))|(go_ite<;>go_prune<;>(try go_simp)))
         (try simp only [Exit.inBlock,Exit.then])
         obtain ⟨vo,vx,hv,HXA⟩:=H10.out
         have HBX:=HBR.out.fq HC.out.k G10.out n3 n4
         refine bodyPost_ret (results_cell_row rfl _ _ (w.heap.size+1) _ _ _ _ rfl ((HBX.far hpn).set (c1.rd I.a)).blk Tryz.underlying82 rfl info_va) rfl ?_
         rw [HLE.out]
         exact ⟨rfl,⟨vo,vx,hv,(HXA.leave HC.out.k).cf ((HBX.far hpn).cf HC.out.k hbs1 _ _)⟩,((((Fq.fr HFR.out G10.out hqw hlw).trans (HXA.frSet 4 _)).new hle1 hbs1 _).new hle1 hbs1 _)⟩
      ·have hz:(I.op==20)=false:=by simpa using hop
       have HLN:Hid (LP=nextP (loopP k') (doP k' h2 c1 I)):=by show LP=_;rw [HLS2.out,if_neg hop]
       have KD:Hid (Kept h2 c1 (doP k' h2 c1 I)):=do_kept HEV2.out.may G2.out KD2.out GC2.out H2O.out H2T.out HOKI.out.1 HOKI.out.2 hop ⟨by rw [HN.out];omega,by rw [HN.out,HME2.out];omega⟩
       have HOP:=hid hop
       have g9:=HC5.out.cells.c9
       have g10:=HC5.out.cells.c10
       have g11:=HC5.out.cells.c11
       have g12:=HC5.out.cells.c12
       have g13:V5.cell? ⟨w1.heap.size+1,13,none⟩=some (.int .i64 (n:Int)):=by rw [←HN.out];exact HC5.out.cells.c13
       have gf:=HC5.out.free
       dsimp only at g9 g10 g11 g12 gf
       obtain ⟨nn0,nn1,-⟩:=VaBox.three (HNR.out.fq HC.out.k FQ5.out n13 n14)
       obtain ⟨-,j1,j2,j3,j4,j5⟩:=HI5.out.cs
       have CLR:=clr_all HS5.out HC5.out HEV2.out.cq
       dsimp only at CLR
       obtain ⟨hs7,hc7,fq7,U13,U14,hb7⟩:=CLR
       have HS7:=hid hs7
       have HC7:=hid hc7
       have FQ7:=hid (FQ5.out.trans fq7)
       have U13:=hid U13
       have U14:=hid U14
       have HI7:Hid (IBox ((((((V5.setCell ⟨w1.heap.size+1,9,none⟩ (.int .i64 va0.kind)).setCell ⟨w1.heap.size+1,10,none⟩ (.int .i64 va0.n)).setCell ⟨w1.heap.size+1,11,none⟩ (.int .i64 va0.kind)).setCell ⟨w1.heap.size+1,12,none⟩ (.int .i64 va0.n)).alloc (.cells #[.int .i64 c1.giv.kind,.int .i64 c1.giv.n] 82)).alloc (.cells #[.int .i64 c1.cau.kind,.int .i64 c1.cau.n] 82)) ib I.op I.a I.b I.c I.n Qa I.args.length qq):=⟨(hb7 ib nib hib5).trans HI5.out.blk⟩
       clear hop hs7 hc7 fq7 hb7
       have hc5:(I.op=19∧c1.giv.kind=I.b)∨(I.op=19∧c1.giv.kind≠I.b)∨(I.op=22∧c1.cau.kind=3)∨(I.op=22∧c1.cau.kind≠3)∨(I.op≠19∧I.op≠22):=by omega
       refine hc5.elim (fun hw=>?w19y) fun hc5=>hc5.elim (fun hw=>?w19n) fun hc5=>hc5.elim (fun hw=>?w22y) fun hc5=>hc5.elim (fun hw=>?w22n) (fun hw=>?wdo)
       case' w19y =>
        have hz19:(I.op==19)=true:=by simp [hw.1]
        have hz22:(I.op==22)=false:=by simp [hw.1]
        have hkb:(c1.giv.kind==I.b)=true:=by simp [hw.2]
        have HDW:Hid ((doP k' h2 c1 I)=⟨h2,wrP h2 c1.clr I.a c1.giv,c1.pc+1⟩):=res_y hw.1 hw.2 H2O.out
        have HW:=hid hw
        clear hw
        repeat (first|go_values|go_skip|go_guarded|go_step|go_upon|(simp only [Int.not_lt,Int.not_le] at *;go_simp)|(go_values<;>(try go_simp))|(go_ite<;>go_prune<;>(try go_simp)))
        obtain ⟨VV,hVV⟩:∃VV,VV=((((((V5.setCell ⟨w1.heap.size+1,9,none⟩ (.int .i64 va0.kind)).setCell ⟨w1.heap.size+1,10,none⟩ (.int .i64 va0.n)).setCell ⟨w1.heap.size+1,11,none⟩ (.int .i64 va0.kind)).setCell ⟨w1.heap.size+1,12,none⟩ (.int .i64 va0.n)).alloc (.cells #[.int .i64 c1.giv.kind,.int .i64 c1.giv.n] 82)).alloc (.cells #[.int .i64 c1.cau.kind,.int .i64 c1.cau.n] 82)):=⟨_,rfl⟩
        rw [←hVV]
        have HS8:Hid (Hs w0 g VV p h2):=by rw [hVV];exact HS7
        have HC8:Hid (CalAt w0 VV ⟨w1.heap.size+1,w1.heap.size,m.regs.toNat,P,CC,KA,pp,cc,kk⟩ c1.clr):=by rw [hVV];exact HC7
        have FQ8:Hid (Fq w0.heap.size g.T ⟨w1.heap.size+1,w1.heap.size,m.regs.toNat,P,CC,KA,pp,cc,kk⟩ WA VV):=by rw [hVV];exact FQ7
        have U8:Hid (VaBox VV (V5.heap.size) c1.giv):=by rw [hVV];exact U13
        have I8:Hid (IBox VV ib I.op I.a I.b I.c I.n Qa I.args.length qq):=by rw [hVV];exact HI7
        clear hVV g9 g10 g11 g12 g13 gf nn0 nn1 j0 j1 j2 j3 j4 j5
        have z29:=hid (And.intro U8.out.c0 I8.out.cs.2.2.1)
        refine wp_region_held_drew (S:=fun w'=>w'.cell? ⟨V5.heap.size,0,none⟩=some (.int .i64 c1.giv.kind)∧w'.cell? ⟨ib,2,none⟩=some (.int .i64 I.b)) (by kernel_rfl) ?_ (fun hHeld0=>?_)
        ·exact z29.out
        iterate 8 (refine tn rfl (by kernel_rfl) (fun _ _ _ h=>h) (by intro _ h;go_split_ands;go_simp<;>with_reducible rfl) hHeld0 ?_;try simp only [aS,aN,aT,a0,a1])
        refine rd1 (i:=8) (by kernel_rfl) rfl fun K hK=>?_
        go_simp
        go_at_call 85
        refine (must_true w0 g p h2 _ (HS8.out.drewN 1)).mono ?_
        rintro e w9 ⟨he,hw9⟩
        rw [hnv] at he
        subst he
        rw [hw9]
        clear hw9 w9
        go_wp2_with fail
        refine hK.out _ _ (hHeld0) (fun hHeld1=>?_)
        try simp only [aS,aN,aT,a0,a1]
        refine wpAnyH_done (by kernel_rfl) ?_ _
        have j1:VV.cell? ⟨ib,1,none⟩=some (.int .i64 I.a):=I8.out.cs.2.1
        have v0:VV.cell? ⟨V5.heap.size,0,none⟩=some (.int .i64 c1.giv.kind):=U8.out.c0
        have v1:VV.cell? ⟨V5.heap.size,1,none⟩=some (.int .i64 c1.giv.n):=U8.out.c1
        have HWR:Hid (∀w',Hs w0 g w' p h2→CalAt w0 w' ⟨w1.heap.size+1,w1.heap.size,m.regs.toNat,P,CC,KA,pp,cc,kk⟩ c1.clr→Calls Tryz.prog 88 #[.pointer (some ⟨p,0,none⟩),.pointer (some ⟨w1.heap.size+1,0,none⟩),.int .i64 I.a,vaV c1.giv] w' fun e w''=>e=.returned (.tuple #[])∧Hs w0 g w'' p h2∧CalAt w0 w'' ⟨w1.heap.size+1,w1.heap.size,m.regs.toNat,P,CC,KA,pp,cc,kk⟩ (wrP h2 c1.clr I.a c1.giv)∧Fq w0.heap.size g.T ⟨w1.heap.size+1,w1.heap.size,m.regs.toNat,P,CC,KA,pp,cc,kk⟩ w' w''):=fun w' a1 a2 =>
         qwrite_any w0 g p h2 ⟨w1.heap.size+1,w1.heap.size,m.regs.toNat,P,CC,KA,pp,cc,kk⟩ c1.clr I.a c1.giv w' a1 a2 HEV2.out.cq (by have e1:=HOKI.out.1.a (by have:=HW.out.1;omega);have e2:=GC2.out.len;show 0≤I.a∧I.a<c1.locs.length;omega) (fun _=>⟨GC2.out.ok,fun e=>by
          have e1:=HW.out
          have e2:=GC2.out.len
          show I.a+1<c1.locs.length
          have e3:=HOKI.out.1.two (by right;right;right;right;right;left;exact ⟨e1.1,by rw [←e1.2];exact e⟩);omega⟩)
        repeat (first|(go_big_may;go_says (go_at_call 88;refine (HWR.out _ (HS8.out.drewN 1) (by exact ⟨HC8.out.own,HC8.out.ownl,HC8.out.blk,⟨HC8.out.loc.blk,HC8.out.loc.len⟩,HC8.out.me⟩)).mono ?_;rintro e w6 ⟨rfl,hs6,cs6,fq6⟩;have HS6:Hid (Hs w0 g w6 p (doP k' h2 c1 I).h):=(by rw [HDW.out];exact hs6);have HC6:Hid (CalAt w0 w6 ⟨w1.heap.size+1,w1.heap.size,m.regs.toNat,P,CC,KA,pp,cc,kk⟩ (doP k' h2 c1 I).c):=(by rw [HDW.out];exact cs6);have FQ6:Hid (Fq w0.heap.size g.T ⟨w1.heap.size+1,w1.heap.size,m.regs.toNat,P,CC,KA,pp,cc,kk⟩ WA w6):=FQ8.out.trans ((Fr.fq ((Fr.refl w0.heap.size g.T VV).drewN 1)).trans fq6);clear hs6 cs6 fq6 j1 v0 v1))|go_values|go_skip|go_guarded|go_step|go_upon|(simp only [Int.not_lt,Int.not_le] at *;go_simp)|(go_values<;>(try go_simp))|(go_ite<;>go_prune<;>(try go_simp)))
        obtain ⟨NX,hNX⟩:∃NX:Int,NX=(n:Int)+1:=⟨_,rfl⟩
        rw [←hNX]
        have HNX:Hid (NX=(doP k' h2 c1 I).nx):=by show NX=_;rw [hNX,HDW.out];show (n:Int)+1=c1.pc+1;rw [HN.out]
        clear hNX
        clear HS8 HC8 FQ8 U8 I8 HWR z29
       case' w19n =>
        have hz19:(I.op==19)=true:=by simp [hw.1]
        have hz22:(I.op==22)=false:=by simp [hw.1]
        have hkb:(c1.giv.kind==I.b)=false:=by simp [hw.2]
        have HDW:Hid ((doP k' h2 c1 I)=⟨h2.must false,c1.clr,c1.pc+1⟩):=res_n hw.1 hw.2 H2O.out
        have HW:=hid hw
        clear hw
        repeat (first|go_values|go_skip|go_guarded|go_step|go_upon|(simp only [Int.not_lt,Int.not_le] at *;go_simp)|(go_values<;>(try go_simp))|(go_ite<;>go_prune<;>(try go_simp)))
        obtain ⟨VV,hVV⟩:∃VV,VV=((((((V5.setCell ⟨w1.heap.size+1,9,none⟩ (.int .i64 va0.kind)).setCell ⟨w1.heap.size+1,10,none⟩ (.int .i64 va0.n)).setCell ⟨w1.heap.size+1,11,none⟩ (.int .i64 va0.kind)).setCell ⟨w1.heap.size+1,12,none⟩ (.int .i64 va0.n)).alloc (.cells #[.int .i64 c1.giv.kind,.int .i64 c1.giv.n] 82)).alloc (.cells #[.int .i64 c1.cau.kind,.int .i64 c1.cau.n] 82)):=⟨_,rfl⟩
        rw [←hVV]
        have HS8:Hid (Hs w0 g VV p h2):=by rw [hVV];exact HS7
        have HC8:Hid (CalAt w0 VV ⟨w1.heap.size+1,w1.heap.size,m.regs.toNat,P,CC,KA,pp,cc,kk⟩ c1.clr):=by rw [hVV];exact HC7
        have FQ8:Hid (Fq w0.heap.size g.T ⟨w1.heap.size+1,w1.heap.size,m.regs.toNat,P,CC,KA,pp,cc,kk⟩ WA VV):=by rw [hVV];exact FQ7
        have U8:Hid (VaBox VV (V5.heap.size) c1.giv):=by rw [hVV];exact U13
        have I8:Hid (IBox VV ib I.op I.a I.b I.c I.n Qa I.args.length qq):=by rw [hVV];exact HI7
        clear hVV g9 g10 g11 g12 g13 gf nn0 nn1 j0 j1 j2 j3 j4 j5
        have z29:=hid (And.intro U8.out.c0 I8.out.cs.2.2.1)
        refine wp_region_held_drew (S:=fun w'=>w'.cell? ⟨V5.heap.size,0,none⟩=some (.int .i64 c1.giv.kind)∧w'.cell? ⟨ib,2,none⟩=some (.int .i64 I.b)) (by kernel_rfl) ?_ (fun hHeld0=>?_)
        ·exact z29.out
        iterate 8 (refine tn rfl (by kernel_rfl) (fun _ _ _ h=>h) (by intro _ h;go_split_ands;go_simp<;>with_reducible rfl) hHeld0 ?_;try simp only [aS,aN,aT,a0,a1])
        refine rd1 (i:=8) (by kernel_rfl) rfl fun K hK=>?_
        go_simp
        go_at_call 85
        refine (must_any w0 g HC.out.k p h2 false _ (HS8.out.drewN 1)).mono ?_
        rintro e w6 ⟨rfl,hs6,f6⟩
        have F6:=hid (((Fr.refl w0.heap.size g.T VV).drewN 1).trans f6)
        have HS6:Hid (Hs w0 g w6 p (doP k' h2 c1 I).h):=by rw [HDW.out];exact hs6
        have HC6:Hid (CalAt w0 w6 ⟨w1.heap.size+1,w1.heap.size,m.regs.toNat,P,CC,KA,pp,cc,kk⟩ (doP k' h2 c1 I).c):=by rw [HDW.out];exact CalAt.fr HC8.out HC.out.k HC.out.n7 F6.out
        have FQ6:Hid (Fq w0.heap.size g.T ⟨w1.heap.size+1,w1.heap.size,m.regs.toNat,P,CC,KA,pp,cc,kk⟩ WA w6):=FQ8.out.trans F6.out.fq
        have d6:=hid (And.intro (U8.out.keep HC.out.k F6.out).c0 (I8.out.keep HC.out.k F6.out).cs.2.2.1)
        have hmf:h2.mustB false=false:=rfl
        clear hs6 f6
        go_wp2_with fail
        refine hK.out _ _ (d6.out) (fun hHeld1=>?_)
        try simp only [aS,aN,aT,a0,a1]
        refine wpAnyH_done (by kernel_rfl) ?_ _
        repeat (first|go_values|go_skip|go_guarded|go_step|go_upon|(simp only [Int.not_lt,Int.not_le] at *;go_simp)|(go_values<;>(try go_simp))|(go_ite<;>go_prune<;>(try go_simp)))
        obtain ⟨NX,hNX⟩:∃NX:Int,NX=(n:Int)+1:=⟨_,rfl⟩
        rw [←hNX]
        have HNX:Hid (NX=(doP k' h2 c1 I).nx):=by show NX=_;rw [hNX,HDW.out];show (n:Int)+1=c1.pc+1;rw [HN.out]
        clear hNX
        clear HS8 HC8 FQ8 U8 I8 F6 d6 z29
       case' w22y =>
        have hz19:(I.op==19)=false:=by simp [hw.1]
        have hz22:(I.op==22)=true:=by simp [hw.1]
        have hkb:(c1.cau.kind==3)=true:=by simp [hw.2]
        have HDW:Hid ((doP k' h2 c1 I)=⟨h2,wrP h2 c1.clr I.a c1.cau,c1.pc+1⟩):=cau_y hw.1 hw.2 H2O.out
        have HW:=hid hw
        clear hw
        repeat (first|go_values|go_skip|go_guarded|go_step|go_upon|(simp only [Int.not_lt,Int.not_le] at *;go_simp)|(go_values<;>(try go_simp))|(go_ite<;>go_prune<;>(try go_simp)))
        obtain ⟨VV,hVV⟩:∃VV,VV=((((((V5.setCell ⟨w1.heap.size+1,9,none⟩ (.int .i64 va0.kind)).setCell ⟨w1.heap.size+1,10,none⟩ (.int .i64 va0.n)).setCell ⟨w1.heap.size+1,11,none⟩ (.int .i64 va0.kind)).setCell ⟨w1.heap.size+1,12,none⟩ (.int .i64 va0.n)).alloc (.cells #[.int .i64 c1.giv.kind,.int .i64 c1.giv.n] 82)).alloc (.cells #[.int .i64 c1.cau.kind,.int .i64 c1.cau.n] 82)):=⟨_,rfl⟩
        rw [←hVV]
        have HS8:Hid (Hs w0 g VV p h2):=by rw [hVV];exact HS7
        have HC8:Hid (CalAt w0 VV ⟨w1.heap.size+1,w1.heap.size,m.regs.toNat,P,CC,KA,pp,cc,kk⟩ c1.clr):=by rw [hVV];exact HC7
        have FQ8:Hid (Fq w0.heap.size g.T ⟨w1.heap.size+1,w1.heap.size,m.regs.toNat,P,CC,KA,pp,cc,kk⟩ WA VV):=by rw [hVV];exact FQ7
        have U8:Hid (VaBox VV (V5.heap.size+1) c1.cau):=by rw [hVV];exact U14
        have I8:Hid (IBox VV ib I.op I.a I.b I.c I.n Qa I.args.length qq):=by rw [hVV];exact HI7
        clear hVV g9 g10 g11 g12 g13 gf nn0 nn1 j0 j1 j2 j3 j4 j5
        have z29:=hid U8.out.c0
        refine wp_region_held_drew (S:=fun w'=>w'.cell? ⟨V5.heap.size+1,0,none⟩=some (.int .i64 c1.cau.kind)) (by kernel_rfl) ?_ (fun hHeld0=>?_)
        ·exact z29.out
        iterate 6 (refine tn rfl (by kernel_rfl) (fun _ _ _ h=>h) (by intro _ h;go_split_ands;go_simp<;>with_reducible rfl) hHeld0 ?_;try simp only [aS,aN,aT,a0,a1])
        refine rd1 (i:=6) (by kernel_rfl) rfl fun K hK=>?_
        go_simp
        go_at_call 85
        refine (must_true w0 g p h2 _ (HS8.out.drewN 1)).mono ?_
        rintro e w9 ⟨he,hw9⟩
        rw [hnv] at he
        subst he
        rw [hw9]
        clear hw9 w9
        go_wp2_with fail
        refine hK.out _ _ (hHeld0) (fun hHeld1=>?_)
        try simp only [aS,aN,aT,a0,a1]
        refine wpAnyH_done (by kernel_rfl) ?_ _
        have j1:VV.cell? ⟨ib,1,none⟩=some (.int .i64 I.a):=I8.out.cs.2.1
        have v0:VV.cell? ⟨V5.heap.size+1,0,none⟩=some (.int .i64 c1.cau.kind):=U8.out.c0
        have v1:VV.cell? ⟨V5.heap.size+1,1,none⟩=some (.int .i64 c1.cau.n):=U8.out.c1
        have HWR:Hid (∀w',Hs w0 g w' p h2→CalAt w0 w' ⟨w1.heap.size+1,w1.heap.size,m.regs.toNat,P,CC,KA,pp,cc,kk⟩ c1.clr→Calls Tryz.prog 88 #[.pointer (some ⟨p,0,none⟩),.pointer (some ⟨w1.heap.size+1,0,none⟩),.int .i64 I.a,vaV c1.cau] w' fun e w''=>e=.returned (.tuple #[])∧Hs w0 g w'' p h2∧CalAt w0 w'' ⟨w1.heap.size+1,w1.heap.size,m.regs.toNat,P,CC,KA,pp,cc,kk⟩ (wrP h2 c1.clr I.a c1.cau)∧Fq w0.heap.size g.T ⟨w1.heap.size+1,w1.heap.size,m.regs.toNat,P,CC,KA,pp,cc,kk⟩ w' w''):=fun w' a1 a2 =>
         qwrite_any w0 g p h2 ⟨w1.heap.size+1,w1.heap.size,m.regs.toNat,P,CC,KA,pp,cc,kk⟩ c1.clr I.a c1.cau w' a1 a2 HEV2.out.cq (by have e1:=HOKI.out.1.a (by have:=HW.out.1;omega);have e2:=GC2.out.len;show 0≤I.a∧I.a<c1.locs.length;omega) (fun _=>⟨GC2.out.ok,fun e=>by
          have e1:=HW.out
          have e2:=GC2.out.len
          show I.a+1<c1.locs.length
          exfalso;rw [e1.2] at e;omega⟩)
        repeat (first|(go_big_may;go_says (go_at_call 88;refine (HWR.out _ (HS8.out.drewN 1) (by exact ⟨HC8.out.own,HC8.out.ownl,HC8.out.blk,⟨HC8.out.loc.blk,HC8.out.loc.len⟩,HC8.out.me⟩)).mono ?_;rintro e w6 ⟨rfl,hs6,cs6,fq6⟩;have HS6:Hid (Hs w0 g w6 p (doP k' h2 c1 I).h):=(by rw [HDW.out];exact hs6);have HC6:Hid (CalAt w0 w6 ⟨w1.heap.size+1,w1.heap.size,m.regs.toNat,P,CC,KA,pp,cc,kk⟩ (doP k' h2 c1 I).c):=(by rw [HDW.out];exact cs6);have FQ6:Hid (Fq w0.heap.size g.T ⟨w1.heap.size+1,w1.heap.size,m.regs.toNat,P,CC,KA,pp,cc,kk⟩ WA w6):=FQ8.out.trans ((Fr.fq ((Fr.refl w0.heap.size g.T VV).drewN 1)).trans fq6);clear hs6 cs6 fq6 j1 v0 v1))|go_values|go_skip|go_guarded|go_step|go_upon|(simp only [Int.not_lt,Int.not_le] at *;go_simp)|(go_values<;>(try go_simp))|(go_ite<;>go_prune<;>(try go_simp)))
        obtain ⟨NX,hNX⟩:∃NX:Int,NX=(n:Int)+1:=⟨_,rfl⟩
        rw [←hNX]
        have HNX:Hid (NX=(doP k' h2 c1 I).nx):=by show NX=_;rw [hNX,HDW.out];show (n:Int)+1=c1.pc+1;rw [HN.out]
        clear hNX
        clear HS8 HC8 FQ8 U8 I8 HWR z29
       case' w22n =>
        have hz19:(I.op==19)=false:=by simp [hw.1]
        have hz22:(I.op==22)=true:=by simp [hw.1]
        have hkb:(c1.cau.kind==3)=false:=by simp [hw.2]
        have HDW:Hid ((doP k' h2 c1 I)=⟨h2.must false,c1.clr,c1.pc+1⟩):=cau_n hw.1 hw.2 H2O.out
        have HW:=hid hw
        clear hw
        repeat (first|go_values|go_skip|go_guarded|go_step|go_upon|(simp only [Int.not_lt,Int.not_le] at *;go_simp)|(go_values<;>(try go_simp))|(go_ite<;>go_prune<;>(try go_simp)))
        obtain ⟨VV,hVV⟩:∃VV,VV=((((((V5.setCell ⟨w1.heap.size+1,9,none⟩ (.int .i64 va0.kind)).setCell ⟨w1.heap.size+1,10,none⟩ (.int .i64 va0.n)).setCell ⟨w1.heap.size+1,11,none⟩ (.int .i64 va0.kind)).setCell ⟨w1.heap.size+1,12,none⟩ (.int .i64 va0.n)).alloc (.cells #[.int .i64 c1.giv.kind,.int .i64 c1.giv.n] 82)).alloc (.cells #[.int .i64 c1.cau.kind,.int .i64 c1.cau.n] 82)):=⟨_,rfl⟩
        rw [←hVV]
        have HS8:Hid (Hs w0 g VV p h2):=by rw [hVV];exact HS7
        have HC8:Hid (CalAt w0 VV ⟨w1.heap.size+1,w1.heap.size,m.regs.toNat,P,CC,KA,pp,cc,kk⟩ c1.clr):=by rw [hVV];exact HC7
        have FQ8:Hid (Fq w0.heap.size g.T ⟨w1.heap.size+1,w1.heap.size,m.regs.toNat,P,CC,KA,pp,cc,kk⟩ WA VV):=by rw [hVV];exact FQ7
        have U8:Hid (VaBox VV (V5.heap.size+1) c1.cau):=by rw [hVV];exact U14
        have I8:Hid (IBox VV ib I.op I.a I.b I.c I.n Qa I.args.length qq):=by rw [hVV];exact HI7
        clear hVV g9 g10 g11 g12 g13 gf nn0 nn1 j0 j1 j2 j3 j4 j5
        have z29:=hid U8.out.c0
        refine wp_region_held_drew (S:=fun w'=>w'.cell? ⟨V5.heap.size+1,0,none⟩=some (.int .i64 c1.cau.kind)) (by kernel_rfl) ?_ (fun hHeld0=>?_)
        ·exact z29.out
        iterate 6 (refine tn rfl (by kernel_rfl) (fun _ _ _ h=>h) (by intro _ h;go_split_ands;go_simp<;>with_reducible rfl) hHeld0 ?_;try simp only [aS,aN,aT,a0,a1])
        refine rd1 (i:=6) (by kernel_rfl) rfl fun K hK=>?_
        go_simp
        go_at_call 85
        refine (must_any w0 g HC.out.k p h2 false _ (HS8.out.drewN 1)).mono ?_
        rintro e w6 ⟨rfl,hs6,f6⟩
        have F6:=hid (((Fr.refl w0.heap.size g.T VV).drewN 1).trans f6)
        have HS6:Hid (Hs w0 g w6 p (doP k' h2 c1 I).h):=by rw [HDW.out];exact hs6
        have HC6:Hid (CalAt w0 w6 ⟨w1.heap.size+1,w1.heap.size,m.regs.toNat,P,CC,KA,pp,cc,kk⟩ (doP k' h2 c1 I).c):=by rw [HDW.out];exact CalAt.fr HC8.out HC.out.k HC.out.n7 F6.out
        have FQ6:Hid (Fq w0.heap.size g.T ⟨w1.heap.size+1,w1.heap.size,m.regs.toNat,P,CC,KA,pp,cc,kk⟩ WA w6):=FQ8.out.trans F6.out.fq
        have d6:=hid (U8.out.keep HC.out.k F6.out).c0
        have hmf:h2.mustB false=false:=rfl
        clear hs6 f6
        go_wp2_with fail
        refine hK.out _ _ (d6.out) (fun hHeld1=>?_)
        try simp only [aS,aN,aT,a0,a1]
        refine wpAnyH_done (by kernel_rfl) ?_ _
        repeat (first|go_values|go_skip|go_guarded|go_step|go_upon|(simp only [Int.not_lt,Int.not_le] at *;go_simp)|(go_values<;>(try go_simp))|(go_ite<;>go_prune<;>(try go_simp)))
        obtain ⟨NX,hNX⟩:∃NX:Int,NX=(n:Int)+1:=⟨_,rfl⟩
        rw [←hNX]
        have HNX:Hid (NX=(doP k' h2 c1 I).nx):=by show NX=_;rw [hNX,HDW.out];show (n:Int)+1=c1.pc+1;rw [HN.out]
        clear hNX
        clear HS8 HC8 FQ8 U8 I8 F6 d6 z29
       case' wdo =>
        have hz19:(I.op==19)=false:=by simpa using hw.1
        have hz22:(I.op==22)=false:=by simpa using hw.2
        have DA:Hid (∀w',Hs w0 g w' p h2→CalAt w0 w' ⟨w1.heap.size+1,w1.heap.size,m.regs.toNat,P,CC,KA,pp,cc,kk⟩ c1.clr→Calls Tryz.prog 89 #[.pointer (some ⟨p,0,none⟩),.pointer (some ⟨w1.heap.size+1,0,none⟩),.agg #[.int .i64 I.op,.int .i64 I.a,.int .i64 I.b,.int .i64 I.c,.int .i64 I.n,.slice Qa I.args.length qq]] w' fun e w'' =>
          e=.returned (.int .i64 (doP k' h2 c1 I).nx)∧Hs w0 g w'' p (doP k' h2 c1 I).h∧CalAt w0 w'' ⟨w1.heap.size+1,w1.heap.size,m.regs.toNat,P,CC,KA,pp,cc,kk⟩ (doP k' h2 c1 I).c∧Fq w0.heap.size g.T ⟨w1.heap.size+1,w1.heap.size,m.regs.toNat,P,CC,KA,pp,cc,kk⟩ w' w''):=fun w' a1 a2 =>
         do_any w0 g p h2 ⟨w1.heap.size+1,w1.heap.size,m.regs.toNat,P,CC,KA,pp,cc,kk⟩ c1 I Qa qq w' a1 a2 HEV2.out ⟨by rw [HN.out];omega,by rw [HN.out];omega⟩ hw.1 HOP.out hw.2 k' (HIH.out k' HKN.out) G2.out KD2.out H2O.out H2T.out GC2.out HOKI.out.1 HOKI.out.2 HQI.out HLF.out
        clear hw
        repeat (first|(go_big_may;go_says (go_at_call 89;refine (DA.out _ HS7.out HC7.out).mono ?_;rintro e w6 ⟨rfl,hs6,cs6,fq6⟩;have HS6:=hid hs6;have HC6:=hid cs6;have FQ6:=hid (FQ7.out.trans fq6);clear hs6 cs6 fq6 g9 g10 g11 g12 g13 gf nn0 nn1 j0 j1 j2 j3 j4 j5))|go_values|go_skip|go_guarded|go_step|go_upon|(simp only [Int.not_lt,Int.not_le] at *;go_simp)|(go_values<;>(try go_simp))|(go_ite<;>go_prune<;>(try go_simp)))
        obtain ⟨NX,hNX⟩:∃NX:Int,NX=(doP k' h2 c1 I).nx:=⟨_,rfl⟩
        rw [←hNX]
        have HNX:Hid (NX=(doP k' h2 c1 I).nx):=hNX
        clear hNX DA
       all_goals clear HS7 HC7 FQ7 U13 U14 HI7
       all_goals as_aux_lemma =>
        have HPD:Hid ((doP k' h2 c1 I).c.pc=n):=KD.out.pc.trans HN.out
        have HMD:Hid ((doP k' h2 c1 I).c.m=m):=KD.out.m.trans HME2.out
        generalize (doP k' h2 c1 I)=D at *
        have o12:w6.cell? ⟨p,12,none⟩=some (.bool D.h.over):=by obtain ⟨vo,vx,hv,X⟩:=HS6.out;exact X.cells.c12
        have o13:w6.cell? ⟨p,13,none⟩=some (.int .i64 D.h.thrown):=by obtain ⟨vo,vx,hv,X⟩:=HS6.out;exact X.cells.c13
        have T36:Hid (∀w',Fq w0.heap.size g.T ⟨w1.heap.size+1,w1.heap.size,m.regs.toNat,P,CC,KA,pp,cc,kk⟩ WA w'→CalAt w0 w' ⟨w1.heap.size+1,w1.heap.size,m.regs.toNat,P,CC,KA,pp,cc,kk⟩ D.c→(fun w'=>w'.cell? ⟨w.heap.size,0,none⟩=some (.slice P m.params.length pp)∧w'.cell? ⟨w.heap.size,1,none⟩=some (.int .i64 m.ret.kind)∧w'.cell? ⟨w.heap.size,2,none⟩=some (.int .i64 m.ret.cls)∧w'.cell? ⟨w.heap.size,3,none⟩=some (.int .i64 m.stack)∧w'.cell? ⟨w.heap.size,4,none⟩=some (.int .i64 m.locs)∧w'.cell? ⟨w.heap.size,5,none⟩=some (.int .i64 m.regs)∧w'.cell? ⟨w.heap.size,6,none⟩=some (.slice CC m.code.length cc)∧w'.cell? ⟨w.heap.size,7,none⟩=some (.slice KA m.hands.length kk)∧w'.cell? ⟨w1.heap.size+1,13,none⟩=some (.int .i64 (n:Int))) w'):=fun w' f c=>by
         have x:=(HMR.out.fq HC.out.k f n5 n6).cells
         exact ⟨x.c0,x.c1,x.c2,x.c3,x.c4,x.c5,x.c6,x.c7,by rw [←HPD.out];exact c.cells.c13⟩
        cases hov:D.h.over
        ·rw [hov] at o12
         have GCD:Hid (Gc D.h D.c):=KD.out.gc hov
         by_cases ht:0≤D.h.thrown
         ·have hd13:decide (0≤D.h.thrown)=true:=decide_eq_true ht
          have HLC:Hid (LP=if D.h.caughtL (n:Int) m.hands<0 then (D.h.leave,va0) else loopP k' ({ D.h with thrown:=-1 }:Hp) { D.c with cau:=⟨3,D.h.thrown⟩,pc:=D.h.caughtL (n:Int) m.hands }):=by
           show LP=_
           rw [HLN.out];unfold nextP;rw [if_neg (by rw [hov];decide),if_pos ht,HPD.out,HMD.out]
          have HAB:Hid (D.h.caughtL (n:Int) m.hands=-1∨(0≤D.h.caughtL (n:Int) m.hands∧D.h.caughtL (n:Int) m.hands<D.c.m.code.length)):=by
           have:=caught_at (h:=D.h) (pc:=(n:Int)) (n:=D.c.m.code.length) (k:=D.h.file.classes.length) D.c.m.hands (smeP GCD.out.me).2.2.2.2.2.2.2.2.1
           rw [HMD.out] at this ⊢;exact this
          have HCA:Hid (∀w',Hs w0 g w' p D.h→Calls Tryz.prog 90 #[.pointer (some ⟨p,0,none⟩),meV m P CC KA pp cc kk,.int .i64 (n:Int)] w' fun e w''=>e=.returned (.int .i64 (D.h.caughtL (n:Int) m.hands))∧Hs w0 g w'' p D.h∧Fr w0.heap.size g.T w' w''):=fun w' hx=>caught_any w0 g p D.h m P CC KA pp cc kk (n:Int) w' hx (HEV2.out.le KD.out.le).cq.cw HME.out.2.2.1 ⟨ht,KD.out.gh.thr.2⟩
          have z36:=hid (T36.out w6 FQ6.out HC6.out)
          have HTT:=hid ht
          clear ht
          generalize D.h.caughtL (n:Int) m.hands=AT at *
          repeat (first|go_values|go_skip|go_guarded|go_step|go_upon|(simp only [Int.not_lt,Int.not_le] at *;go_simp)|(go_values<;>(try go_simp))|(go_ite<;>go_prune<;>(try go_simp)))
          refine wp_region_held_drew (S:=fun w'=>w'.cell? ⟨w.heap.size,0,none⟩=some (.slice P m.params.length pp)∧w'.cell? ⟨w.heap.size,1,none⟩=some (.int .i64 m.ret.kind)∧w'.cell? ⟨w.heap.size,2,none⟩=some (.int .i64 m.ret.cls)∧w'.cell? ⟨w.heap.size,3,none⟩=some (.int .i64 m.stack)∧w'.cell? ⟨w.heap.size,4,none⟩=some (.int .i64 m.locs)∧w'.cell? ⟨w.heap.size,5,none⟩=some (.int .i64 m.regs)∧w'.cell? ⟨w.heap.size,6,none⟩=some (.slice CC m.code.length cc)∧w'.cell? ⟨w.heap.size,7,none⟩=some (.slice KA m.hands.length kk)∧w'.cell? ⟨w1.heap.size+1,13,none⟩=some (.int .i64 (n:Int))) (by kernel_rfl) ?_ (fun hHeld0=>?_)
          ·exact z36.out
          iterate 8 (refine tn rfl (by kernel_rfl) (fun _ _ _ h=>h) (by intro _ h;go_split_ands;go_simp<;>with_reducible rfl) hHeld0 ?_;try simp only [aS,aN,aT,a0,a1])
          refine rd1 (i:=8) (by kernel_rfl) rfl fun K hK=>?_
          go_simp
          go_at_call 90
          refine (HCA.out _ (HS6.out.drewN 1)).mono ?_
          rintro e w7 ⟨rfl,hs7,f7⟩
          have F7:=hid (((Fr.refl w0.heap.size g.T w6).drewN 1).trans f7)
          have FQ7:=hid (FQ6.out.trans F7.out.fq)
          have HC7:=hid (CalAt.fr HC6.out HC.out.k HC.out.n7 F7.out)
          have d36:=hid (T36.out w7 FQ7.out HC7.out)
          have HS7:=hid hs7
          clear hs7 f7
          go_wp2_with fail
          refine hK.out _ _ (d36.out) (fun hHeld1=>?_)
          try simp only [aS,aN,aT,a0,a1]
          refine tn rfl (by kernel_rfl) (fun _ _ _ h=>h) (by intro _ h;go_split_ands;go_simp<;>with_reducible rfl) hHeld1 ?_
          try simp only [aS,aN,aT,a0,a1]
          refine wpAnyH_done (by kernel_rfl) ?_ _
          clear hHeld0 hHeld1 o12 o13
          by_cases hat:AT<0
          ·have HLE:Hid (LP=(D.h.leave,va0)):=by show LP=_;rw [HLC.out,if_pos hat]
           have hdat:decide (AT<0)=true:=decide_eq_true hat
           have hcb:0≤D.h.calls∧D.h.calls≤20:=KD.out.gh.calls
           have EXH:=hid (And.intro HS7.out FQ7.out)
           obtain ⟨c4,f4⟩:=Hs.c4 EXH.out.1
           obtain ⟨r0,r1,rf⟩:=VaBox.three (HBR.out.fq HC.out.k FQ7.out n3 n4)
           obtain ⟨nn0,nn1,-⟩:=VaBox.three (HNR.out.fq HC.out.k FQ7.out n13 n14)
           repeat (first|go_values|go_skip|go_guarded|go_step|go_upon|(simp only [Int.not_lt,Int.not_le] at *;go_simp)|(go_values<;>(try go_simp))|(go_ite<;>go_prune<;>(try go_simp)))
           (try simp only [Exit.inBlock,Exit.then])
           obtain ⟨⟨vo,vx,hv,HXA⟩,hfq⟩:=EXH.out
           have HBX:=HBR.out.fq HC.out.k hfq n3 n4
           refine bodyPost_ret (results_cell_row rfl _ _ (w.heap.size+1) _ _ _ _ rfl ((HBX.far hpn).set va0).blk Tryz.underlying82 rfl info_va) rfl ?_
           rw [HLE.out]
           exact ⟨rfl,⟨vo,vx,hv,(HXA.leave HC.out.k).cf ((HBX.far hpn).cf HC.out.k hbs1 _ _)⟩,((((Fq.fr HFR.out hfq hqw hlw).trans (HXA.frSet 4 _)).new hle1 hbs1 _).new hle1 hbs1 _)⟩
          ·have HLE:Hid (loopP k' ({ D.h with thrown:=-1 }:Hp) { D.c with cau:=⟨3,D.h.thrown⟩,pc:=AT }=LP):=by show _=LP;rw [HLC.out,if_neg hat]
           have hdat:decide (AT<0)=false:=decide_eq_false hat
           have hth7:0≤D.h.thrown:=HTT.out
           obtain ⟨z13,zf13⟩:w7.cell? ⟨p,13,none⟩=some (.int .i64 D.h.thrown)∧w7.frozen? ⟨p,13,none⟩=false:=by obtain ⟨vo,vx,hv,X⟩:=HS7.out;exact ⟨X.cells.c13,X.free 13⟩
           have q11:=HC7.out.cells.c11
           have q12:=HC7.out.cells.c12
           have q13:=HC7.out.cells.c13
           have qf:=HC7.out.free
           dsimp only at q11 q12 q13 qf
           repeat (first|go_values|go_skip|go_guarded|go_step|go_upon|(simp only [Int.not_lt,Int.not_le] at *;go_simp)|(go_values<;>(try go_simp))|(go_ite<;>go_prune<;>(try go_simp)))
           have a8:=HC7.out.setC (c':={ D.c with cau:=⟨3,D.c.cau.n⟩ }) (i:=11) (v:=.int .i64 3) rfl rfl rfl
           have h8:=HS7.out.cf (HC7.out.cf HC.out.n7 11 (.int .i64 3))
           have a9:=a8.setC (c':={ D.c with cau:=⟨3,D.h.thrown⟩ }) (i:=12) (v:=.int .i64 D.h.thrown) rfl rfl rfl
           have h9:=h8.cf (a8.cf HC.out.n7 12 (.int .i64 D.h.thrown))
           obtain ⟨vo,vx,hv,X⟩:=h9
           have h10:Hs w0 g _ p ({ D.h with thrown:=-1 }:Hp):=⟨vo,vx,hv,X.set HC.out.k ({ D.h with thrown:=-1 }:Hp) (i:=13) (v:=.int .i64 (-1)) rfl rfl rfl⟩
           have a10:=a9.fr HC.out.k HC.out.n7 (X.frSet 13 (.int .i64 (-1)))
           have a11:=a10.setC (c':={ D.c with cau:=⟨3,D.h.thrown⟩,pc:=AT }) (i:=13) (v:=.int .i64 AT) rfl rfl rfl
           have h11:=h10.cf (a10.cf HC.out.n7 13 (.int .i64 AT))
           have f11:=(((FQ7.out.trans (HC7.out.fq g.T 11 (.int .i64 3))).trans (a8.fq g.T 12 (.int .i64 D.h.thrown))).trans (X.frSet 13 (.int .i64 (-1))).fq).trans (a10.fq g.T 13 (.int .i64 AT))
           have lt':Le D.h ({ D.h with thrown:=-1 }:Hp):=⟨rfl,rfl,rfl,Nat.le_refl _,Int.le_refl _,rfl⟩
           have LE10:=KD.out.le.trans lt'
           have gt:Gh 0 ({ D.h with thrown:=-1 }:Hp):=KD.out.gh.same rfl rfl rfl rfl rfl rfl rfl ⟨by dsimp only;omega,by dsimp only;omega⟩
           have gv:GdV ({ D.h with thrown:=-1 }:Hp) (⟨3,D.h.thrown⟩:Va):=⟨fun _=>⟨by dsimp only;omega,KD.out.gh.thr.2⟩,by have:=KD.out.gh.thr;have:=KD.out.gh.len;dsimp only;unfold I64;omega⟩
           have gx:=GCD.out.le lt'
           have hAB:=HAB.out
           go_roundw
           case rel=>exact ⟨k',({ D.h with thrown:=-1 }:Hp),{ D.c with cau:=⟨3,D.h.thrown⟩,pc:=AT },⟨h11,a11,f11,gt,KD.out.kd,by rw [LE10.calls];exact HC2.out,fun _=>⟨rfl,⟨gx.giv,gv,gx.locs,gx.ok,gx.len,gx.me,gx.mok⟩,by dsimp only;omega,by show AT≤D.c.m.code.length;omega⟩,KD.out.m.trans HME2.out,LE10.file.trans HF2.out.1,LE10.input.trans HF2.out.2.1,LE10.fuel.trans HF2.out.2.2,by have:=LE10.steps;have:=LE10.fuel;have:=HLF.out;omega,Nat.le_of_lt HKN.out,HLE.out⟩⟩
           case measure =>
            have key:∀S:Int,h2.sh.steps≤S→(h0.fuel-S).toNat<leftAt p h0.fuel wr:=fun S hS=>by have hm2:=HMS.out;rw [hm2.1];omega
            have hm1:=left_is h11 h0.fuel
            rw [hm1]
            exact key _ LE10.steps
         ·have HTD:Hid (D.h.thrown=-1):=by have:=KD.out.gh.thr;show D.h.thrown=-1;omega
          have HLE:Hid (loopP k' D.h { D.c with pc:=D.nx }=LP):=by
           show _=LP
           rw [HLN.out];unfold nextP;rw [if_neg (by rw [hov];decide),if_neg ht]
          have hd13:decide (0≤D.h.thrown)=false:=decide_eq_false ht
          have HNXT:Hid (0≤D.nx∧D.nx≤D.c.m.code.length):=by show _∧_;rw [KD.out.m];exact KD.out.nx
          have q13:=HC6.out.cells.c13
          have qf:=HC6.out.free
          dsimp only at q13 qf
          clear ht
          repeat (first|go_values|go_skip|go_guarded|go_step|go_upon|(simp only [Int.not_lt,Int.not_le] at *;go_simp)|(go_values<;>(try go_simp))|(go_ite<;>go_prune<;>(try go_simp)))
          have a7:=HC6.out.setC (c':={ D.c with pc:=NX }) (i:=13) (v:=.int .i64 NX) rfl rfl rfl
          rw [HNX.out] at a7
          have h7:=HS6.out.cf (HC6.out.cf HC.out.n7 13 (.int .i64 NX))
          have f7:=FQ6.out.trans (HC6.out.fq g.T 13 (.int .i64 NX))
          go_roundw
          case rel=>exact ⟨k',D.h,{ D.c with pc:=D.nx },⟨h7,by rw [HNX.out];exact a7,f7,KD.out.gh,KD.out.kd,by rw [KD.out.le.calls];exact HC2.out,fun _=>⟨HTD.out,GCD.out.pc _,HNXT.out⟩,KD.out.m.trans HME2.out,KD.out.le.file.trans HF2.out.1,KD.out.le.input.trans HF2.out.2.1,KD.out.le.fuel.trans HF2.out.2.2,by have:=KD.out.le.steps;have:=KD.out.le.fuel;have:=HLF.out;omega,Nat.le_of_lt HKN.out,HLE.out⟩⟩
          case measure =>
           have key:∀S:Int,h2.sh.steps≤S→(h0.fuel-S).toNat<leftAt p h0.fuel wr:=fun S hS=>by have hm2:=HMS.out;rw [hm2.1];omega
           have hm1:=left_is h7 h0.fuel
           rw [hm1]
           exact key _ KD.out.le.steps
        ·rw [hov] at o12
         have HLE:Hid (LP=(D.h.leave,va0)):=by
          show LP=_
          rw [HLN.out];unfold nextP;rw [if_pos hov]
         have hcb:0≤D.h.calls∧D.h.calls≤20:=KD.out.gh.calls
         have EXH:=hid (And.intro HS6.out FQ6.out)
         obtain ⟨c4,f4⟩:=Hs.c4 EXH.out.1
         obtain ⟨r0,r1,rf⟩:=VaBox.three (HBR.out.fq HC.out.k FQ6.out n3 n4)
         obtain ⟨nn0,nn1,-⟩:=VaBox.three (HNR.out.fq HC.out.k FQ6.out n13 n14)
         repeat (first|go_values|go_skip|go_guarded|go_step|go_upon|(simp only [Int.not_lt,Int.not_le] at *;go_simp)|(go_values<;>(try go_simp))|(go_ite<;>go_prune<;>(try go_simp)))
         (try simp only [Exit.inBlock,Exit.then])
         obtain ⟨⟨vo,vx,hv,HXA⟩,hfq⟩:=EXH.out
         have HBX:=HBR.out.fq HC.out.k hfq n3 n4
         refine bodyPost_ret (results_cell_row rfl _ _ (w.heap.size+1) _ _ _ _ rfl ((HBX.far hpn).set va0).blk Tryz.underlying82 rfl info_va) rfl ?_
         rw [HLE.out]
         exact ⟨rfl,⟨vo,vx,hv,(HXA.leave HC.out.k).cf ((HBX.far hpn).cf HC.out.k hbs1 _ _)⟩,((((Fq.fr HFR.out hfq hqw hlw).trans (HXA.frSet 4 _)).new hle1 hbs1 _).new hle1 hbs1 _)⟩
     ·as_aux_lemma =>
      have HLE:Hid (LP=((h2.fin 6).leave,va0)):=by
       show LP=_
       have e1:h2.mustB (decide (c1.pc<c1.m.code.length))=false:=by rw [must_is h2 H2O.out,HME2.out];exact decide_eq_false hpc
       have e2:h2.must (decide (c1.pc<c1.m.code.length))=h2.fin 6:=by rw [HME2.out,decide_eq_false hpc];rfl
       rw [HLS.out]
       unfold stepP
       rw [if_pos e1,e2]
      have hcb:0≤(h2.fin 6).calls∧(h2.fin 6).calls≤20:=by rw [(fin_le h2 6).calls];exact G2.out.calls
      have hd:decide (c1.pc<m.code.length)=false:=decide_eq_false hpc
      have HMF:Hid (h2.mustB false=false):=rfl
      have HMM:Hid (h2.must false=h2.fin 6):=rfl
      go_wp2_with (go_at_call 84;refine SA.out.mono ?_;rintro e w2 ⟨rfl,hs2,f2⟩;have FQ2:=hid (HFQ.out.trans f2.fq);have HS2:=hid hs2;have CC2:=CalAt.fr HCR.out HC.out.k HC.out.n7 f2;have d13:w2.cell? ⟨w1.heap.size+1,13,none⟩=some (.int .i64 c1.pc):=CC2.cells.c13;have m6:=(HMR.out.fq HC.out.k FQ2.out n5 n6).cells.c6;clear CC2)
      go_region_held3 (fun w'=>w'.cell? ⟨w1.heap.size+1,13,none⟩=some (.int .i64 c1.pc)∧w'.cell? ⟨w.heap.size,6,none⟩=some (.slice CC m.code.length cc))
       (go_keep)
       (first
        | (go_at_call 85;refine (must_any w0 g HC.out.k p h2 false _ (by first|exact HS2.out.cf (Cf.drew (Cf.refl _ _ _))|exact HS2.out)).mono ?_;rintro e w3 ⟨he,hs3,f3⟩;rw [HMF.out] at he;subst he;rw [HMM.out] at hs3;have F3:Hid (Fr w0.heap.size g.T wr w3):=Fr.trans (Fr.trans f2 (Fr.drew (Fr.refl _ _ _))) f3;have FQ3:=HFQ.out.trans F3.out.fq;have CC3:=CalAt.fr HCR.out HC.out.k HC.out.n7 F3.out;have d13':w3.cell? ⟨w1.heap.size+1,13,none⟩=some (.int .i64 c1.pc):=CC3.cells.c13;have m6':=(HMR.out.fq HC.out.k FQ3 n5 n6).cells.c6;have EXH:=hid (And.intro hs3 FQ3);obtain ⟨c4,f4⟩:=Hs.c4 EXH.out.1;obtain ⟨r0,r1,rf⟩:=VaBox.three (HBR.out.fq HC.out.k FQ3 n3 n4);obtain ⟨nn0,nn1,-⟩:=VaBox.three (HNR.out.fq HC.out.k FQ3 n13 n14);clear CC3 F3 FQ3 hs3 f3))
      repeat (first|go_values|go_skip|go_guarded|go_step|go_upon|(simp only [Int.not_lt,Int.not_le] at *;go_simp)|(go_values<;>(try go_simp))|(go_ite<;>go_prune<;>(try go_simp)))
      (try simp only [Exit.inBlock,Exit.then])
      obtain ⟨⟨vo,vx,hv,HXA⟩,hfq⟩:=EXH.out
      have HBX:=HBR.out.fq HC.out.k hfq n3 n4
      refine bodyPost_ret (results_cell_row rfl _ _ (w.heap.size+1) _ _ _ _ rfl ((HBX.far hpn).set va0).blk Tryz.underlying82 rfl info_va) rfl ?_
      rw [HLE.out]
      exact ⟨rfl,⟨vo,vx,hv,(HXA.leave HC.out.k).cf ((HBX.far hpn).cf HC.out.k hbs1 _ _)⟩,((((Fq.fr HFR.out hfq hqw hlw).trans (HXA.frSet 4 _)).new hle1 hbs1 _).new hle1 hbs1 _)⟩
end Go.Proofs.YtgiiapenmjollabGreat
