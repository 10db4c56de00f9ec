import Derived.Test.YtfncnhlihmnkiabGreatRsan
namespace Go.Proofs.YtfncnhlihmnkiabGreat
set_option linter.all false
set_option maxHeartbeats 40000000
set_option maxRecDepth 100000
open Go.RowKit
theorem rds_snoc (c:Cal):∀(l:List Int) (k:List Ty) (q:Nat),q<k.length→l.length=k.length→c.rds (l.take (q+1)) (k.take (q+1))=c.rds (l.take q) (k.take q)++[c.rd (nth (0:Int) l q)]
 | [],[],q,h,_=>by simp at h
 | [],_::_,_,_,h=>by simp at h
 | _::_,[],_,_,h=>by simp at h
 | a::l,t::k,0,_,_=>by simp [Cal.rds,nth]
 | a::l,t::k,q+1,h,hl=>by
  have:=rds_snoc c l k q (by simpa using h) (by simpa using hl)
  have e:nth (0:Int) (a::l) (q+1)=nth (0:Int) l q:=by simp [nth]
  rw [e]
  simp only [List.take_succ_cons,Cal.rds,this,List.cons_append]
theorem rdsH_snoc (c:Cal):∀(l:List Int) (k:List Ty) (q:Nat) (h:Hp),q<k.length→l.length=k.length→h.rdsH c (l.take (q+1)) (k.take (q+1))=(h.rdsH c (l.take q) (k.take q)).rdH c (nth (0:Int) l q) (nth ty0 k q).kind
 | [],[],q,_,h,_=>by simp at h
 | [],_::_,_,_,_,h=>by simp at h
 | _::_,[],_,_,_,h=>by simp at h
 | a::l,t::k,0,h,_,_=>by simp [Hp.rdsH,nth]
 | a::l,t::k,q+1,h,hq,hl=>by
  have:=rdsH_snoc c l k q (h.rdH c a t.kind) (by simpa using hq) (by simpa using hl)
  have e:nth (0:Int) (a::l) (q+1)=nth (0:Int) l q:=by simp [nth]
  have e2:nth ty0 (t::k) (q+1)=nth ty0 k q:=by simp [nth]
  rw [e,e2]
  simp only [List.take_succ_cons,Hp.rdsH,this]
theorem rdsH_file (c:Cal) (l:List Int) (k:List Ty) (h:Hp):(h.rdsH c l k).file=h.file:=(rdsH_le c l k h).file
theorem own_fr {B base n:Nat} {T:TypeId} {w w':World} {u:Value} {xs:List Value} (h:w.ownsRow base 80 2 u n xs) (k:Tk T) (f:Fr B T w w'):w'.ownsRow base 80 2 u n xs:=by
 refine ⟨h.1,?_⟩
 rcases h.2 with h0|⟨g,cap,cur,h1,h2,h3,h4⟩
 ·exact Or.inl h0
 ·exact Or.inr ⟨g,cap,cur,h1,h2,f.keep _ _ _ _ h3 k.nv,h4⟩
theorem Hs.grown {w0 w w':World} {g:Ad} {p base n:Nat} {h:Hp} {u:Value} {xs:List Value} (H:Hs w0 g w p h) (k:Tk g.T) (o:w.ownsRow base 80 2 u n xs) (hg:w.grownBy w' u.ownBlock) (hb:base≤w.heap.size) (h0:w0.heap.size≤base):Hs w0 g w' p h :=
 H.cf ⟨Below.mono (grown_base hg o hb) h0,fun b cs t f e ht=>grown_keep hg o e fun x=>k.nv (x▸ht)⟩
theorem Fr.grown {B base n:Nat} {T:TypeId} {w W w':World} {u:Value} {xs:List Value} (h:Fr B T w W) (o:W.ownsRow base 80 2 u n xs) (hg:W.grownBy w' u.ownBlock) (hb:base≤W.heap.size) (hw:w.heap.size≤base) (h0:B≤base):Fr B T w w' :=
 ⟨h.bl.trans (Below.mono (grown_base hg o hb) h0),fun b cs t f e n=>((grown_base hg o hb).block b (by have:=lt_some e;omega)).trans (h.keep b cs t f e n)⟩
structure LC (w0:World) (g:Ad) (p:Nat) (c:Cal) (h:Hp) (l:List Int) (k:List Ty) (base:Nat) (W wr:World) (u:Value) (q:Nat):Prop where
 hs:Hs w0 g wr p (h.rdsH c (l.take q) (k.take q))
 fr:Fr w0.heap.size g.T W wr
 row:wr.ownsRow base 80 2 u q (vaCells (c.rds (l.take q) (k.take q)))
theorem ycall_any (w0:World) (g:Ad) (p:Nat) (h:Hp) (a:Ca) (c:Cal) (ia ib ic ii:Int) (args:List Int) (Q:Option Addr) (q0:Nat) (w:World) (hH:Hs w0 g w p h) (hC:CalAt w0 w a c) (C:Cq w0 g h) (hp:0≤c.pc∧c.pc≤100000)
  (E:MesAt w0 g.M h.file.methods) (M:Me) (hMe:nth me0 h.file.methods ia.toNat=M) (hia:0≤ia∧ia<h.file.methods.length) (hQ:IntsAt w0 Q args) (hal:args.length=M.params.length) (hpl:M.params.length≤4) (har:∀j,j<args.length→0≤nth (0:Int) args j∧nth (0:Int) args j<c.locs.length) (R:Hp×Va) (Hf:Hp) (cf:Cal) (hY:(h.rdsH c args M.params).over=true→Hf=(h.rdsH c args M.params)∧cf=c) (hN:(h.rdsH c args M.params).over=false→Hf=R.1∧cf={ c with giv:=R.2 })
  (HR:(h.rdsH c args M.params).over=false→∀(P CC K:Option Addr) (pp cc kk:Nat) (A1:Option Addr) (ac lb:Nat) (w1:World),MeAt w0 M P CC K→Hs w0 g w1 p (h.rdsH c args M.params)→StkAt lb w1 A1 (c.rds args M.params)→M.params.length≤ac→Calls Tryz.prog 38 #[.pointer (some ⟨p,0,none⟩),meV M P CC K pp cc kk,.slice A1 M.params.length ac] w1 fun e w'=>e=.returned (vaV R.2)∧Hs w0 g w' p R.1∧Fr w0.heap.size g.T w1 w') :
  Calls Tryz.prog 85 #[.pointer (some ⟨p,0,none⟩),.pointer (some ⟨a.q,0,none⟩),.agg #[.int .i64 18,.int .i64 ia,.int .i64 ib,.int .i64 ic,.int .i64 ii,.slice Q args.length q0]] w fun e w'=>e=.returned (.int .i64 (c.pc+1))∧Hs w0 g w' p Hf∧CalAt w0 w' a cf∧Fq w0.heap.size g.T a w w':=by
 obtain ⟨n,rfl⟩:∃n:Nat,ia=n:=⟨ia.toNat,by omega⟩
 simp only [Int.toNat_natCast] at *
 have hnl:n<h.file.methods.length:=by omega
 have hmm:=E.1
 unfold maxLen at hmm
 obtain ⟨mb,mo,P,CC,K,pp,cc,kk,hM,HZ,hme⟩:=mes_cells E hnl
 rw [hMe] at HZ hme
 have hbw:=hH.bl
 obtain ⟨HF,HH,HA,HI,HC,d13,hb,hq,hl⟩:=dqpre 18 (n:Int) ib ic ii Q args.length q0 hH hC C
 have hb1:Bl w0 (w.alloc (.cells #[.int .i64 18,.int .i64 (n:Int),.int .i64 ib,.int .i64 ic,.int .i64 ii,.slice Q args.length q0] 68)):=hbw.alloc _
 have hml:=cell_lt HZ.1
 have hmb:mb<w.heap.size:=by have:=hbw.size;omega
 have y0:=hb1.cell HZ.1
 have y1:=hb1.cell HZ.2.1
 have y2:=hb1.cell HZ.2.2.1
 have y3:=hb1.cell HZ.2.2.2.1
 have y4:=hb1.cell HZ.2.2.2.2.1
 have y5:=hb1.cell HZ.2.2.2.2.2.1
 have y6:=hb1.cell HZ.2.2.2.2.2.2.1
 have y7:=hb1.cell HZ.2.2.2.2.2.2.2
 have c1:(w.alloc (.cells #[.int .i64 18,.int .i64 (n:Int),.int .i64 ib,.int .i64 ic,.int .i64 ii,.slice Q args.length q0] 68)).cell? ⟨p,1,none⟩=some (.slice (some ⟨mb,mo,none⟩) h.file.methods.length g.m):=by
  obtain ⟨vo,vx,hv,X⟩:=HH.out
  rw [←hM];exact X.cells.c1
 have hpl':p<w.heap.size:=by obtain ⟨vo,vx,hv,X⟩:=hH;exact lt_some X.blk
 have j1:=HI.out.cs.2.1
 have hn0:(0:Int)≤(n:Int):=by omega
 have hn1:(n:Int)<(h.file.methods.length:Int):=by omega
 have hR0:=HR
 clear hH hC C HZ hb1 HR
 have HME:=hid hme
 have HRR:=hid hR0
 have HL:=hid hal
 have HY:=hid hY
 have HNO:=hid hN
 clear hY hN
 have HAR:=hid har
 have HQI:=hid hQ
 have hps:M.params.length≤2 ^ 63-1:=by omega
 have has:args.length≤2 ^ 63-1:=by omega
 have HBW:=hid hbw
 clear hme hR0 hal har hQ E hM hia hbw hMe
 go_enter Tryz.func85,Tryz.ntmps85
 go_wp2
 go_region_held3 (fun w'=>w'.cell? ⟨p,1,none⟩=some (.slice (some ⟨mb,mo,none⟩) h.file.methods.length g.m)∧w'.cell? ⟨w.heap.size,1,none⟩=some (.int .i64 (n:Int))∧w'.cell? ⟨mb,mo+n*8,none⟩=some (.slice P M.params.length pp)∧w'.cell? ⟨mb,mo+n*8+1,none⟩=some (.int .i64 M.ret.kind)∧w'.cell? ⟨mb,mo+n*8+2,none⟩=some (.int .i64 M.ret.cls)∧w'.cell? ⟨mb,mo+n*8+3,none⟩=some (.int .i64 M.stack)∧w'.cell? ⟨mb,mo+n*8+4,none⟩=some (.int .i64 M.locs)∧w'.cell? ⟨mb,mo+n*8+5,none⟩=some (.int .i64 M.regs)∧w'.cell? ⟨mb,mo+n*8+6,none⟩=some (.slice CC M.code.length cc)∧w'.cell? ⟨mb,mo+n*8+7,none⟩=some (.slice K M.hands.length kk))
  (go_keep)
  (fail)
 obtain ⟨W2,hW2⟩:∃W2,W2=((w.alloc (.cells #[.int .i64 18,.int .i64 (n:Int),.int .i64 ib,.int .i64 ic,.int .i64 ii,.slice Q args.length q0] 68)).alloc (.cells #[.slice P M.params.length pp,.int .i64 M.ret.kind,.int .i64 M.ret.cls,.int .i64 M.stack,.int .i64 M.locs,.int .i64 M.regs,.slice CC M.code.length cc,.slice K M.hands.length kk] 54)).drew:=⟨_,rfl⟩
 rw [←hW2]
 have bl2:Bl (w.alloc (.cells #[.int .i64 18,.int .i64 (n:Int),.int .i64 ib,.int .i64 ic,.int .i64 ii,.slice Q args.length q0] 68)) W2:=by rw [hW2];exact ((Bl.refl _).alloc _).drew
 have hb1':w0.heap.size≤(w.alloc (.cells #[.int .i64 18,.int .i64 (n:Int),.int .i64 ib,.int .i64 ic,.int .i64 ii,.slice Q args.length q0] 68)).heap.size:=by simp;omega
 have HH2:Hid (Hs w0 g W2 p h):=HH.out.old bl2
 have HA2:Hid (CalAt w0 W2 a c):=HA.out.old bl2
 have HF2:Hid (Fr w0.heap.size g.T w W2):=HF.out.trans (Fr.old hb1' bl2)
 have HI2:Hid (IBox W2 w.heap.size 18 (n:Int) ib ic ii Q args.length q0):=⟨(bl2.block _ (lt_some HI.out.blk)).trans HI.out.blk⟩
 have HM2:Hid (MthBox W2 (w.heap.size+1) M P CC K pp cc kk):=⟨by rw [hW2];exact blk_at (by simp)⟩
 have hW2s:W2.heap.size≤w.heap.size+2:=by rw [hW2];simp
 have hb02:w0.heap.size≤w.heap.size+2:=by omega
 have HW0:Hid (Bl w0 W2):=HH2.out.bl
 clear hW2 bl2 y0 y1 y2 y3 y4 y5 y6 y7 c1 j1 HF HH HA HI d13 hb1'
 obtain ⟨i0,hi0,hz0,hz1,hz2⟩:=info_parts info_va3
 go_wp2
 go_loopw [11,12] (fun u i wr=>∃q:Nat,q≤M.params.length∧i=.int .i64 q∧Hid (LC w0 g p c h args M.params (w.heap.size+2) W2 wr u q)) (fun _ i _=>M.params.length-(intOf i).toNat)
 case atStart=>exact ⟨0,Nat.zero_le _,rfl,⟨HH2.out,Fr.refl _ _ _,⟨rfl,Or.inl ⟨rfl,rfl⟩⟩⟩⟩
 case round =>
  obtain ⟨q,hq,rfl,hLC⟩:=hrel
  have FR:=hid hLC.out.fr
  have x0:=(HM2.out.fr HC.out.k FR.out).cells.c0
  have hbr:=hLC.out.hs.base
  by_cases hql:q<M.params.length
  ·have hql':q<args.length:=by rw [HL.out];exact hql
   obtain ⟨rb,ro,hRA,hrc⟩:∃rb ro,Q=some ⟨rb,ro,none⟩∧∀i,i<args.length→w0.cell? ⟨rb,ro+i,none⟩=some (.int .i64 (nth (0:Int) args i)):=by
    rcases HQI.out.2 with h0|⟨rb,ro,hRA,hrc⟩
    ·omega
    ·exact ⟨rb,ro,hRA,fun i hi=>(hrc i hi).1⟩
   obtain ⟨xb,xo,hPA,hxc⟩:∃xb xo,P=some ⟨xb,xo,none⟩∧∀i,i<M.params.length→w0.cell? ⟨xb,xo+i*2,none⟩=some (.int .i64 (nth ty0 M.params i).kind):=by
    rcases HME.out.1.2 with h0|⟨xb,xo,hPA,hxc⟩
    ·omega
    ·exact ⟨xb,xo,hPA,fun i hi=>(hxc i hi).1⟩
   have hra:=HAR.out q hql'
   have hr0:=hrc q hql'
   have hx0:=hxc q hql
   have HSV:=hid (rds_snoc c args M.params q hql HL.out)
   have HSH:=hid (rdsH_snoc c args M.params q h hql HL.out)
   have HRO:=hid hLC.out.row
   have HKR:=hid hLC.out.hs
   have CK:=hid (HC.out.same (rdsH_file c (args.take q) (M.params.take q) h))
   have AR:=hid (CalAt.fr HA2.out HC.out.k HC.out.n7 FR.out)
   have AR1:=hid (CalAt.fr HA2.out HC.out.k HC.out.n7 (FR.out.drewN 1))
   have hq0:(0:Int)≤(q:Int):=by omega
   have hq1:(q:Int)<(M.params.length:Int):=by omega
   have hq2:(q:Int)<(args.length:Int):=by omega
   generalize nth (0:Int) args q=av at *
   generalize nth ty0 M.params q=t at *
   generalize h.rdsH c (args.take q) (M.params.take q)=hk at *
   have T8:Hid (∀w',Fr w0.heap.size g.T W2 w'→(fun w'=>w'.cell? ⟨w.heap.size,5,none⟩=some (.slice (some ⟨rb,ro,none⟩) args.length q0)∧w'.cell? ⟨rb,ro+q,none⟩=some (.int .i64 av)∧w'.cell? ⟨w.heap.size+1,0,none⟩=some (.slice (some ⟨xb,xo,none⟩) M.params.length pp)∧w'.cell? ⟨xb,xo+q*2,none⟩=some (.int .i64 t.kind)) w'):=fun w' f=>by
    have b0:Bl w0 w':=Below.trans HW0.out f.bl
    refine ⟨?_,b0.cell hr0,?_,b0.cell hx0⟩
    ·rw [(HI2.out.keep HC.out.k f).cs.2.2.2.2.2,hRA]
    ·rw [(HM2.out.fr HC.out.k f).cells.c0,hPA]
   have z8:=hid (T8.out wr FR.out)
   clear hrc hxc hr0 hx0 hRA hLC hPA
   go_wp2
   refine wp_region_held_drew (S:=fun w'=>w'.cell? ⟨w.heap.size,5,none⟩=some (.slice (some ⟨rb,ro,none⟩) args.length q0)∧w'.cell? ⟨rb,ro+q,none⟩=some (.int .i64 av)∧w'.cell? ⟨w.heap.size+1,0,none⟩=some (.slice (some ⟨xb,xo,none⟩) M.params.length pp)∧w'.cell? ⟨xb,xo+q*2,none⟩=some (.int .i64 t.kind)) (by kernel_rfl) ?_ (fun hHeld0=>?_)
   ·exact z8.out
   iterate 13 (refine tn rfl (by kernel_rfl) (fun _ _ _ h=>h) (by intro _ h;go_split_ands;go_simp<;>with_reducible rfl) hHeld0 ?_;try simp only [aS,aN,aT,a0,a1])
   refine wpAnyH_ready (rs:=[13,14]) (by kernel_rfl) (by simp) ?_
   refine AllReadyH.cons rfl (fun K hK=>?_) (AllReadyH.cons rfl (fun K hK=>?_) (AllReadyH.nil))
   ·go_simp
    go_at_call 82
    refine (yread_any w0 g p hk a c av t.kind _ (HKR.out.drewN 1) AR1.out CK.out hra).mono ?_
    rintro e w2 ⟨rfl,H3,F3⟩
    have hb2:=H3.base
    have F3':=hid (((Fr.refl w0.heap.size g.T wr).drewN 1).trans F3)
    have d8:=hid (T8.out _ (FR.out.trans F3'.out))
    have d9:=hid (T8.out _ ((FR.out.trans F3'.out).alloc hb2 vzO))
    have d10:=hid (T8.out _ ((FR.out.trans F3'.out).alloc hb2 (vaO (c.rd av))))
    have H5:Hid (Hs w0 g (w2.alloc (vaO (c.rd av))) p (hk.rdH c av t.kind)):=H3.cf ((Cf.refl _ _ _).alloc hb2 _)
    have F5:Hid (Fr w0.heap.size g.T wr (w2.alloc (vaO (c.rd av)))):=F3'.out.alloc hb2 _
    have V5:Hid (VaBox (w2.alloc (vaO (c.rd av))) w2.heap.size (c.rd av)):=VaBox.new w2 (c.rd av)
    have Z4:Hid (VaBox (w2.alloc vzO) w2.heap.size va0):=VaBox.new w2 va0
    have s0:=Z4.out.c0
    have s1:=Z4.out.c1
    have sz:=Z4.out.fr
    clear H3 F3
    go_wp2_with fail
    refine hK.out _ _ (d8.out) (fun hHeld1=>?_)
    try simp only [aS,aN,aT,a0,a1]
    refine rd1 (i:=14) (by kernel_rfl) rfl fun K hK=>?_
    go_wp2_with fail
    refine hK.out _ _ (d9.out) (fun hHeld2=>?_)
    try simp only [aS,aN,aT,a0,a1]
    refine rd1 (i:=15) (by kernel_rfl) rfl fun K hK=>?_
    go_simp
    refine hK.out _ _ (d10.out) (fun hHeld3=>?_)
    try simp only [aS,aN,aT,a0,a1]
    refine wpAnyH_done (by kernel_rfl) ?_ _
    have O5:=hid (own_fr HRO.out HC.out.k F5.out)
    have G5:=hid (FR.out.trans F5.out)
    obtain ⟨V5w,hV⟩:∃V5w,V5w=(w2.alloc (.cells #[.int .i64 (c.rd av).kind,.int .i64 (c.rd av).n] 80)):=⟨_,rfl⟩
    obtain ⟨vb,hvb⟩:∃vb,vb=w2.heap.size:=⟨_,rfl⟩
    rw [←hV,←hvb]
    have H6:Hid (Hs w0 g V5w p (hk.rdH c av t.kind)):=by rw [hV];exact H5
    have G6:Hid (Fr w0.heap.size g.T W2 V5w):=by rw [hV];exact G5
    have O6:Hid (V5w.ownsRow (w.heap.size+2) 80 2 u11 q (vaCells (c.rds (args.take q) (M.params.take q)))):=by rw [hV];exact O5
    have V6:Hid (VaBox V5w vb (c.rd av)):=by rw [hV,hvb];exact V5
    have hsz6:w.heap.size+2≤V5w.heap.size:=by have:=G6.out.bl.size;have:=G6.out;have:=lt_some (HM2.out.fr HC.out.k G6.out).blk;omega
    clear hV hvb H5 F5 V5 O5 G5 d8 d9 d10 s0 s1 sz F3'
    have v0:=V6.out.c0
    have v1:=V6.out.c1
    have hvb:=lt_some V6.out.blk
    go_wp2_with (at_builtin;refine wpList_append_lies _ rfl (.tmp 100) (.tmp 102) 70 rfl (w.heap.size+2) 80 i0 _ 2 16 Tryz.underlying70 hi0 hz0 hz1 hz2 rfl (by omega) u11 q (vaCells (c.rds (args.take q) (M.params.take q))) (by rfl) (by exact O6.out.alloc _) ⟨V5w.heap.size,0,none⟩ 1 1 [.int .i64 (c.rd av).kind,.int .i64 (c.rd av).n] (by rfl) (by rfl) (World.news_of_block (cs:=#[.int .i64 (c.rd av).kind,.int .i64 (c.rd av).n]) (t:=80) (fr:=(0,0)) (blk_at (w:=V5w) rfl)) (by simp [Value.oneCell']) (by omega) (by unfold maxLen;omega) (by omega) (by simp;omega) (V5w.heap.size+1) (by simp) ?_;intro gg cap w7 hown1 hgrow hat hlt;have H7:=hid (Hs.grown (H6.out.old ((Bl.refl _).alloc _)) HC.out.k (O6.out.alloc _) hgrow (by simp;omega) hb02);have F7:=hid (Fr.grown (G6.out.trans (Fr.old H6.out.base ((Bl.refl _).alloc _))) (O6.out.alloc _) hgrow (by simp;omega) hW2s hb02))
    go_roundw
    case rel =>
     refine ⟨q+1,by omega,by go_num,⟨?_,F7.out,?_⟩⟩
     ·rw [HSH.out];exact H7.out
     ·rw [HSV.out,vaCells_append];exact hown1
    case measure=>simp [intOf];omega
   ·have HD:Hid (Hs w0 g ((wr.alloc vzO).drew) p hk):=(HKR.out.cf ((Cf.refl _ _ _).alloc hbr vzO)).drewN 1
    have FD:Hid (Fr w0.heap.size g.T wr ((wr.alloc vzO).drew)):=((Fr.refl _ _ _).alloc hbr vzO).drewN 1
    have AD:Hid (CalAt w0 ((wr.alloc vzO).drew) a c):=CalAt.fr AR.out HC.out.k HC.out.n7 FD.out
    have ZD:Hid (VaBox ((wr.alloc vzO).drew) wr.heap.size va0):=(VaBox.new wr va0).drewN 1
    have d9:=hid (T8.out _ (FR.out.trans FD.out))
    go_wp2_with fail
    refine hK.out _ _ (d9.out) (fun hHeld4=>?_)
    try simp only [aS,aN,aT,a0,a1]
    refine rd1 (i:=13) (by kernel_rfl) rfl fun K hK=>?_
    go_simp
    go_at_call 82
    refine (yread_any w0 g p hk a c av t.kind _ HD.out AD.out CK.out hra).mono ?_
    rintro e w2 ⟨rfl,H3,F3⟩
    have hb2:=H3.base
    have Z3:=hid (ZD.out.keep HC.out.k F3)
    have F3':=hid (FD.out.trans F3)
    have d8:=hid (T8.out _ (FR.out.trans F3'.out))
    have F5:Hid (Fr w0.heap.size g.T wr ((w2.setCell ⟨wr.heap.size,0,none⟩ (.int .i64 (c.rd av).kind)).setCell ⟨wr.heap.size,1,none⟩ (.int .i64 (c.rd av).n))):=(F3'.out.new (Nat.le_refl _) hbr _).new (Nat.le_refl _) hbr _
    have d10:=hid (T8.out _ (FR.out.trans F5.out))
    have H5:Hid (Hs w0 g ((w2.setCell ⟨wr.heap.size,0,none⟩ (.int .i64 (c.rd av).kind)).setCell ⟨wr.heap.size,1,none⟩ (.int .i64 (c.rd av).n)) p (hk.rdH c av t.kind)):=H3.cf (Z3.out.cf HC.out.k hbr _ _)
    have V5:Hid (VaBox ((w2.setCell ⟨wr.heap.size,0,none⟩ (.int .i64 (c.rd av).kind)).setCell ⟨wr.heap.size,1,none⟩ (.int .i64 (c.rd av).n)) wr.heap.size (c.rd av)):=Z3.out.set (c.rd av)
    have s0:=Z3.out.c0
    have s1:=Z3.out.c1
    have sz:=Z3.out.fr
    clear H3 F3
    go_wp2_with fail
    refine hK.out _ _ (d8.out) (fun hHeld5=>?_)
    try simp only [aS,aN,aT,a0,a1]
    refine rd1 (i:=15) (by kernel_rfl) rfl fun K hK=>?_
    go_simp
    refine hK.out _ _ (d10.out) (fun hHeld6=>?_)
    try simp only [aS,aN,aT,a0,a1]
    refine wpAnyH_done (by kernel_rfl) ?_ _
    have O5:=hid (own_fr HRO.out HC.out.k F5.out)
    have G5:=hid (FR.out.trans F5.out)
    obtain ⟨V5w,hV⟩:∃V5w,V5w=((w2.setCell ⟨wr.heap.size,0,none⟩ (.int .i64 (c.rd av).kind)).setCell ⟨wr.heap.size,1,none⟩ (.int .i64 (c.rd av).n)):=⟨_,rfl⟩
    obtain ⟨vb,hvb⟩:∃vb,vb=wr.heap.size:=⟨_,rfl⟩
    rw [←hV,←hvb]
    have H6:Hid (Hs w0 g V5w p (hk.rdH c av t.kind)):=by rw [hV];exact H5
    have G6:Hid (Fr w0.heap.size g.T W2 V5w):=by rw [hV];exact G5
    have O6:Hid (V5w.ownsRow (w.heap.size+2) 80 2 u11 q (vaCells (c.rds (args.take q) (M.params.take q)))):=by rw [hV];exact O5
    have V6:Hid (VaBox V5w vb (c.rd av)):=by rw [hV,hvb];exact V5
    have hsz6:w.heap.size+2≤V5w.heap.size:=by have:=G6.out.bl.size;have:=G6.out;have:=lt_some (HM2.out.fr HC.out.k G6.out).blk;omega
    clear hV hvb H5 F5 V5 O5 G5 d8 d9 d10 s0 s1 sz F3'
    have v0:=V6.out.c0
    have v1:=V6.out.c1
    have hvb:=lt_some V6.out.blk
    go_wp2_with (at_builtin;refine wpList_append_lies _ rfl (.tmp 100) (.tmp 102) 70 rfl (w.heap.size+2) 80 i0 _ 2 16 Tryz.underlying70 hi0 hz0 hz1 hz2 rfl (by omega) u11 q (vaCells (c.rds (args.take q) (M.params.take q))) (by rfl) (by exact O6.out.alloc _) ⟨V5w.heap.size,0,none⟩ 1 1 [.int .i64 (c.rd av).kind,.int .i64 (c.rd av).n] (by rfl) (by rfl) (World.news_of_block (cs:=#[.int .i64 (c.rd av).kind,.int .i64 (c.rd av).n]) (t:=80) (fr:=(0,0)) (blk_at (w:=V5w) rfl)) (by simp [Value.oneCell']) (by omega) (by unfold maxLen;omega) (by omega) (by simp;omega) (V5w.heap.size+1) (by simp) ?_;intro gg cap w7 hown1 hgrow hat hlt;have H7:=hid (Hs.grown (H6.out.old ((Bl.refl _).alloc _)) HC.out.k (O6.out.alloc _) hgrow (by simp;omega) hb02);have F7:=hid (Fr.grown (G6.out.trans (Fr.old H6.out.base ((Bl.refl _).alloc _))) (O6.out.alloc _) hgrow (by simp;omega) hW2s hb02))
    go_roundw
    case rel =>
     refine ⟨q+1,by omega,by go_num,⟨?_,F7.out,?_⟩⟩
     ·rw [HSH.out];exact H7.out
     ·rw [HSV.out,vaCells_append];exact hown1
    case measure=>simp [intOf];omega
  ·obtain rfl:q=M.params.length:=by omega
   have hH1:=hLC.out.hs
   have hO1:=hLC.out.row
   have FW:=hid (HF2.out.trans FR.out)
   have AW:=hid (CalAt.fr HA2.out HC.out.k HC.out.n7 FR.out)
   have MW:=hid (HM2.out.fr HC.out.k FR.out)
   have e1:args.take M.params.length=args:=by rw [←HL.out,List.take_length]
   have e2:M.params.take M.params.length=M.params:=List.take_length
   rw [e1,e2] at hH1 hO1
   clear e1 e2
   have hlen:(c.rds args M.params).length=M.params.length:=rds_length c _ _ HL.out
   obtain ⟨L,lc,rfl,hL1,hL2⟩:∃L lc,u11=.slice L M.params.length lc∧StkAt a.lb wr L (c.rds args M.params)∧M.params.length≤lc:=by
    rcases hO1.2 with ⟨e1,e2⟩|⟨gb,cp,cur,e1,e2,e3,e4,-⟩
    ·exact ⟨none,0,by rw [e1,e2],Or.inl (by omega),by omega⟩
    ·subst e1
     exact ⟨_,cp,rfl,(own_stk hO1 (lb:=a.lb) (by omega) hlen.symm).1,e4⟩
   have HL1:=hid hL1
   have HH1:=hid hH1
   clear hO1 hlen hLC hL1 hH1
   cases hov:(h.rdsH c args M.params).over
   ·have HRU:=hid (HRR.out hov P CC K pp cc kk L lc a.lb wr HME.out HH1.out HL1.out hL2)
    have o12:wr.cell? ⟨p,12,none⟩=some (.bool false):=by obtain ⟨vo,vx,hv,X⟩:=HH1.out;rw [X.cells.c12,hov]
    have x1:=MW.out.cells.c1
    have x2:=MW.out.cells.c2
    have x3:=MW.out.cells.c3
    have x4:=MW.out.cells.c4
    have x5:=MW.out.cells.c5
    have x6:=MW.out.cells.c6
    have x7:=MW.out.cells.c7
    go_wp2_with (go_at_call 38;refine HRU.out.mono ?_;rintro e w3 ⟨rfl,H3,F3⟩;have A3:=hid (CalAt.fr AW.out HC.out.k HC.out.n7 F3);have g9:=A3.out.cells.c9;have g10:=A3.out.cells.c10;have gf:=A3.out.free;have H3:=hid H3;have F3:=hid F3)
    go_ret
    have A4:=A3.out.setC (c':={ c with giv:=⟨R.2.kind,c.giv.n⟩ }) (i:=9) (v:=.int .i64 R.2.kind) rfl rfl rfl
    have A5:=A4.setC (c':={ c with giv:=R.2 }) (i:=10) (v:=.int .i64 R.2.n) rfl rfl rfl
    obtain ⟨e1,e2⟩:=HNO.out hov
    rw [e1,e2]
    refine ⟨rfl,?_,?_,?_⟩
    ·exact (H3.out.cf (A3.out.cf HC.out.n7 9 _)).cf (A4.cf HC.out.n7 10 _) 
    ·exact A5
    ·exact ((FW.out.trans F3.out).fq.trans (A3.out.fq g.T 9 _)).trans (A4.fq g.T 10 _)
   ·have o12:wr.cell? ⟨p,12,none⟩=some (.bool true):=by obtain ⟨vo,vx,hv,X⟩:=HH1.out;rw [X.cells.c12,hov]
    go_wp2
    go_ret
    obtain ⟨e1,e2⟩:=HY.out hov
    rw [e1,e2]
    refine ⟨rfl,?_,?_,FW.out.fq⟩
    ·exact HH1.out
    ·exact AW.out
theorem enter_step {h:Hp} {l:List Va} {k:List Ty} {q:Nat} (hq:q<l.length) (hk:l.length=k.length):h.enterL (l.drop q) (k.drop q)=(h.of (nth va0 l q) (nth ty0 k q)&&h.enterL (l.drop (q+1)) (k.drop (q+1))):=by
 rw [List.drop_eq_getElem_cons hq,List.drop_eq_getElem_cons (l:=k) (by omega),Hp.enterL,←nth_get (d:=va0) hq,←nth_get (d:=ty0) (by omega)]
theorem enter_any (w0:World) (g:Ad) (p:Nat) (h:Hp) (m:Me) (P CC K:Option Addr) (pp cc kk:Nat) (A:Option Addr) (ac lb:Nat) (l:List Va) (w:World) (hH:Hs w0 g w p h) (C:Cw w0 g h) (ho:h.over=false) (hP:TysAt w0 P m.params) (hl:l.length=m.params.length)
  (hA:StkAt lb w A l) (hg:∀v∈l,v.kind=3→v.n<h.objs.length) (hc:0≤h.calls∧h.calls≤20) :
  Calls Tryz.prog 77 #[.pointer (some ⟨p,0,none⟩),meV m P CC K pp cc kk,.slice A l.length ac] w fun e w'=>e=.returned (.bool (h.enterB m l))∧Hs w0 g w' p (h.enterH m l)∧Fr w0.heap.size g.T w w':=by
 have hbs:=hH.base
 have HH:Hid (∀wr,Bl w wr→Hs w0 g wr p h):=fun wr hb=>hH.old hb
 have HC:Hid (Cw w0 g h):=C
 have HPT:Hid (∀wr,Bl w wr→TysAt wr P m.params):=fun wr hb=>(hP.bl hH.bl).bl hb
 have HAT:Hid (∀wr,Bl w wr→StkAt lb wr A l):=fun wr hb=>hA.keep fun b cs f e _=>(hb.block _ (lt_some e)).trans e
 have HG:Hid (∀v∈l,v.kind=3→v.n<h.objs.length):=hg
 have HL:Hid (l.length=m.params.length):=hl
 have hnv:(!h.over)=true:=by rw [ho];rfl
 have hpm:=hP.1
 unfold maxLen at hpm
 have HM:Hid ((w.alloc (meBO m P CC K pp cc kk)).cell? ⟨w.heap.size,0,none⟩=some (.slice P m.params.length pp)):=cell_of_new rfl
 have HST:Hid (∀q,q<l.length→h.enterL (l.drop q) (m.params.drop q)=(h.of (nth va0 l q) (nth ty0 m.params q)&&h.enterL (l.drop (q+1)) (m.params.drop (q+1)))):=fun q hq=>enter_step hq hl
 have HMU:Hid (h.must false=h.fin 6):=rfl
 have HMB:Hid (h.mustB false=false):=rfl
 obtain ⟨R,hR⟩:∃R,h.enterL l m.params=R:=⟨_,rfl⟩
 have HR:Hid (h.enterL (l.drop 0) (m.params.drop 0)=R):=by rw [List.drop_zero,List.drop_zero];exact hR
 have hB:h.enterB m l=(R&&!h.deep):=by unfold Hp.enterB;rw [hR]
 have hE:h.enterH m l=if R=false then h.fin 6 else if h.deep=true then h.fin 5 else { h with calls:=h.calls+1 }:=by unfold Hp.enterH;rw [hR]
 have HB:Hid (h.enterB m l=(R&&!h.deep)):=hB
 have HE:Hid (h.enterH m l=if R=false then h.fin 6 else if h.deep=true then h.fin 5 else { h with calls:=h.calls+1 }):=hE
 have HP0:Hid (TysAt w0 P m.params):=hP
 have HMX:Hid (∀wr,Bl (w.alloc (meBO m P CC K pp cc kk)) wr→wr.heap[w.heap.size]?=some (meBO m P CC K pp cc kk)):=fun wr hb=>(hb.block _ (by simp)).trans (blk_new _ _ _)
 clear hB hE hR hH C hP hA hg hl
 go_enter Tryz.func77,Tryz.ntmps77
 go_wp2
 go_loopw [7] (fun i wr=>∃q:Nat,q≤m.params.length∧i=.int .i64 q∧Hid (Bl w wr)∧Hid (Bl (w.alloc (meBO m P CC K pp cc kk)) wr)∧wr.cell? ⟨w.heap.size,0,none⟩=some (.slice P m.params.length pp)∧Hid (h.enterL (l.drop q) (m.params.drop q)=R)) (fun i _=>m.params.length-(intOf i).toNat)
 case atStart=>exact ⟨0,Nat.zero_le _,rfl,(Bl.refl w).alloc _,Bl.refl _,HM.out,HR⟩
 case round =>
  obtain ⟨q,hq,rfl,hgr,hgb,c7,hr⟩:=hrel
  by_cases hql:q<m.params.length
  ·have hql':q<l.length:=by rw [HL.out];exact hql
   have hts:=HPT.out wr hgr.out
   rcases hts.2 with h0|⟨b',off',hPA,hcell⟩
   ·omega
   obtain ⟨g0,g1,-⟩:=hcell q hql
   obtain ⟨b,off,hAA,hcl⟩:=(HAT.out wr hgr.out).fst (by omega)
   obtain ⟨v0,v1⟩:=hcl q hql'
   have hstep:=HST.out q hql'
   rw [hPA] at c7
   have HV:Hid ((nth va0 l q).kind=3→(nth va0 l q).n<h.objs.length):=HG.out _ (nth_mem hql')
   subst hAA
   have hA1:(q:Int)<(l.length:Int):=by omega
   have hAm:l.length≤2 ^ 63-1:=by have:=HL.out;omega
   have hq0:(0:Int)≤(q:Int):=by omega
   have hq1:(q:Int)<(m.params.length:Int):=by omega
   rw [hr.out] at hstep
   have HSTEP:Hid (R=(h.of (nth va0 l q) (nth ty0 m.params q)&&h.enterL (l.drop (q+1)) (m.params.drop (q+1)))):=hstep
   have HVK:Hid (∀w2,Fr w0.heap.size g.T wr w2→w2.cell? ⟨b,off+q*2,none⟩=some (.int .i64 (nth va0 l q).kind)∧w2.cell? ⟨b,off+q*2+1,none⟩=some (.int .i64 (nth va0 l q).n)):=fun w2 f=>by
    obtain ⟨bb,oo,hbo,hc2⟩:=((HAT.out wr hgr.out).fr HC.out.k f).fst (by omega)
    simp only [Option.some.injEq,Addr.mk.injEq] at hbo
    obtain ⟨rfl,rfl,-⟩:=hbo
    exact hc2 q hql'
   have HMK:Hid (∀w2,Fr w0.heap.size g.T wr w2→w2.cell? ⟨w.heap.size,0,none⟩=some (.slice (some ⟨b',off',none⟩) m.params.length pp)):=fun w2 f=>by
    have hb:=HMX.out wr hgb.out
    rw [cell_blk (f.keep _ _ _ _ hb HC.out.k.nm),←hPA];rfl
   have HYK:Hid (∀w2,Fr w0.heap.size g.T wr w2→w2.cell? ⟨b',off'+q*2,none⟩=some (.int .i64 (nth ty0 m.params q).kind)∧w2.cell? ⟨b',off'+q*2+1,none⟩=some (.int .i64 (nth ty0 m.params q).cls)):=fun w2 f=>by
    rcases (HP0.out.bl (Below.trans (HH.out wr hgr.out).bl f.bl)).2 with h0|⟨b2,o2,hPB,hc2⟩
    ·omega
    rw [hPA] at hPB
    simp only [Option.some.injEq,Addr.mk.injEq] at hPB
    obtain ⟨rfl,rfl,-⟩:=hPB
    exact ⟨(hc2 q hql).1,(hc2 q hql).2.1⟩
   have HPA:Hid (P=some ⟨b',off',none⟩):=hPA
   clear hcell hcl hts hstep hr hPA
   generalize hX:nth va0 l q=X at *
   generalize hY:nth ty0 m.params q=Y at *
   clear hX hY
   cases hO:h.of X Y
   ·have hRf:R=false:=by rw [HSTEP.out,hO];rfl
    subst hRf
    go_wp2
    go_region_held3 (fun w'=>w'.cell? ⟨b,off+q*2,none⟩=some (.int .i64 X.kind)∧w'.cell? ⟨b,off+q*2+1,none⟩=some (.int .i64 X.n)∧w'.cell? ⟨w.heap.size,0,none⟩=some (.slice (some ⟨b',off',none⟩) m.params.length pp)∧w'.cell? ⟨b',off'+q*2,none⟩=some (.int .i64 Y.kind)∧w'.cell? ⟨b',off'+q*2+1,none⟩=some (.int .i64 Y.cls))
     (go_keep)
     (first
      | (go_at_call 83;refine (of_any w0 g p h X Y _ (by first|exact HH.out _ hgr.out.drew|exact HH.out _ hgr.out) HC.out.cls HC.out.tree HV.out).mono ?_;rintro e w1 ⟨he,h1,f1,b1⟩;rw [hO] at he;subst he;have e0:=b1.cell v0;have e1:=b1.cell v1;have e2:=b1.cell c7;have e3:=b1.cell g0;have e4:=b1.cell g1;have F1:Hid (Fr w0.heap.size g.T wr w1):=Fr.trans (Fr.drew (Fr.refl _ _ _)) f1;clear f1 b1)
      | (go_at_call 81;refine (must_any w0 g HC.out.k p h false _ h1).mono ?_;rintro e w2 ⟨he,h2,f2⟩;rw [HMB.out] at he;subst he;rw [HMU.out] at h2;have FF:Hid (Fr w0.heap.size g.T wr w2):=F1.out.trans f2;obtain ⟨a0,a1⟩:=HVK.out w2 FF.out;have a2:=HMK.out w2 FF.out;obtain ⟨a3,a4⟩:=HYK.out w2 FF.out))
    go_wp2
    go_ret
    refine ⟨ret_bool ?_,?_,(Fr.old hbs hgr.out).trans FF.out⟩
    ·rw [HB.out];rfl
    ·rw [HE.out];first|(rw [if_pos rfl];exact h2)|(rw [if_pos trivial];exact h2)
   ·have HNX:Hid (h.enterL (l.drop (q+1)) (m.params.drop (q+1))=R):=by rw [HSTEP.out,hO,Bool.true_and];rfl
    go_wp2
    go_region_held3 (fun w'=>w'.cell? ⟨b,off+q*2,none⟩=some (.int .i64 X.kind)∧w'.cell? ⟨b,off+q*2+1,none⟩=some (.int .i64 X.n)∧w'.cell? ⟨w.heap.size,0,none⟩=some (.slice (some ⟨b',off',none⟩) m.params.length pp)∧w'.cell? ⟨b',off'+q*2,none⟩=some (.int .i64 Y.kind)∧w'.cell? ⟨b',off'+q*2+1,none⟩=some (.int .i64 Y.cls))
     (go_keep)
     (first
      | (go_at_call 83;refine (of_any w0 g p h X Y _ (by first|exact HH.out _ hgr.out.drew|exact HH.out _ hgr.out) HC.out.cls HC.out.tree HV.out).mono ?_;rintro e w1 ⟨he,h1,f1,b1⟩;rw [hO] at he;subst he;have e0:=b1.cell v0;have e1:=b1.cell v1;have e2:=b1.cell c7;have e3:=b1.cell g0;have e4:=b1.cell g1;have B1:Hid (Bl w w1):=Bl.trans hgr.out.drew b1;have B2:Hid (Bl (w.alloc (meBO m P CC K pp cc kk)) w1):=Bl.trans hgb.out.drew b1;clear f1 b1)
      | (go_at_call 81;refine (must_true w0 g p h _ h1).mono ?_;rintro e w2 ⟨he,hw2⟩;rw [hnv] at he;subst he;rw [hw2];clear hw2 w2))
    go_wp2
    go_roundw
    case rel=>exact ⟨q+1,by omega,by go_num,B1,B2,by rw [HPA.out];exact e2,HNX⟩
    case measure=>simp [intOf];omega
  ·obtain rfl:q=m.params.length:=by omega
   have hRt:R=true:=by
    have:=hr.out
    rw [List.drop_length] at this
    rw [←this]
    unfold Hp.enterL
    split
    ·rename_i h1 h2;simp at h2
    ·rfl
   subst hRt
   obtain ⟨vo,vx,hv,H⟩:=HH.out wr hgr.out
   have c4:=H.cells.c4
   have f4:=H.free 4
   have HA:Hid (HpAt w0 g wr p h vo vx hv):=H
   clear H
   by_cases hd:20≤h.calls
   ·have d1:decide (20≤h.calls)=true:=decide_eq_true hd
    go_wp2_with (go_at_call 147;refine (end_any w0 g HC.out.k p h 5 _ ⟨vo,vx,hv,HA.out⟩).mono ?_;rintro e w1 ⟨rfl,h1,f1⟩)
    go_ret
    have hdp:h.deep=true:=d1
    refine ⟨ret_bool ?_,?_,(Fr.old hbs hgr.out).trans f1⟩
    ·rw [HB.out,hdp];rfl
    ·rw [HE.out];simp only [if_pos hdp];simpa using h1
   ·have d1:decide (20≤h.calls)=false:=decide_eq_false hd
    go_wp2
    go_ret
    have hdp:h.deep=false:=d1
    refine ⟨ret_bool ?_,?_,(Fr.old hbs hgr.out).trans (HA.out.frSet 4 _)⟩
    ·rw [HB.out,hdp];rfl
    ·rw [HE.out,if_neg (by decide),if_neg (by rw [hdp];decide)]
     exact ⟨vo,vx,hv,HA.out.set HC.out.k _ rfl rfl rfl⟩
structure Env (w0:World) (g:Ad) (h:Hp):Prop where
 cq:Cq w0 g h
 may:MayF h.file
 mes:MesAt w0 g.M h.file.methods
 inp:IntsAt w0 g.I h.input
theorem Env.of {w0:World} {g:Ad} {h h':Hp} (e:Env w0 g h) (e1:h'.file=h.file) (e2:h'.input=h.input):Env w0 g h' :=
 ⟨e.cq.same e1,by rw [e1];exact e.may,by rw [e1];exact e.mes,by rw [e2];exact e.inp⟩
theorem Env.le {w0:World} {g:Ad} {h h':Hp} (e:Env w0 g h) (l:Le h h'):Env w0 g h':=e.of l.file l.input
def RunOk (w0:World) (g:Ad) (p n:Nat):Prop :=
 ∀(h:Hp) (m:Me) (P CC K:Option Addr) (pp cc kk:Nat) (A:Option Addr) (ac lb:Nat) (l:List Va) (w:World),
  Hs w0 g w p h→Env w0 g h→h.over=false→h.thrown=-1→Gh 0 h→Kd h→MeAt w0 m P CC K→rmeB h.file.classes h.file.methods m=true→(∀i∈m.code,i.ok)→l.length=m.params.length→(∀v∈l,GdV h v)→StkAt lb w A l→l.length≤ac→(h.fuel-h.sh.steps).toNat≤n →
  Calls Tryz.prog 38 #[.pointer (some ⟨p,0,none⟩),meV m P CC K pp cc kk,.slice A l.length ac] w fun e w' =>
   e=.returned (vaV (runP (loopP n) h m l).2)∧Hs w0 g w' p (runP (loopP n) h m l).1∧Fr w0.heap.size g.T w w'
def doP (N:Nat) (h:Hp) (c:Cal) (i:In):Did:=if i.op=18 then callP (loopP N) h c i else doesP h c i
theorem do_kept {N:Nat} {h:Hp} {c:Cal} {i:In} (hmay:MayF h.file) (gh:Gh 1 h) (kd:Kd h) (gc:Gc h c) (ho:h.over=false) (hth:h.thrown=-1) (ok:InOk h.file.classes h.file.methods c.m.code.length c.m.regs c.m.ret.kind i) (iok:i.ok) (hr:i.op≠20) (hp:0≤c.pc∧c.pc<c.m.code.length):Kept h c (doP N h c i):=by
 unfold doP
 split
 ·rename_i e
  exact call_kept (loop_kept h.file hmay N) rfl gh.less kd gc ho hth hmay ok e hp
 ·rename_i e
  exact does_kept gh kd gc ho hth hmay.1 ok iok e hr hp
theorem fr_do {w0 w:World} {g:Ad} {p fn:Nat} {a:Ca} {c:Cal} {hf:Hp} {args:Array Value} {v:Value} (C:Tk g.T) (n7:¬heapT g.T 140) (hC:CalAt w0 w a c) (k:Calls Tryz.prog fn args w fun e w'=>e=.returned v∧Hs w0 g w' p hf∧Fr w0.heap.size g.T w w') :
  Calls Tryz.prog fn args w fun e w'=>e=.returned v∧Hs w0 g w' p hf∧CalAt w0 w' a c∧Fq w0.heap.size g.T a w w' :=
 k.mono fun e w' ⟨he,hs,f⟩=>⟨he,hs,hC.fr C n7 f,f.fq⟩
theorem rds_clr (c:Cal):∀(l:List Int) (k:List Ty),c.clr.rds l k=c.rds l k
 | [],k=>by cases k<;>rfl
 | _::_,[]=>rfl
 | a::l,t::k=>by show c.rd a::c.clr.rds l k=_;rw [rds_clr c l k];rfl
theorem rdsH_clr (c:Cal):∀(l:List Int) (k:List Ty) (h:Hp),h.rdsH c.clr l k=h.rdsH c l k
 | [],k,h=>by cases k<;>rfl
 | _::_,[],h=>rfl
 | a::l,t::k,h=>by show (h.rdH c a t.kind).rdsH c.clr l k=_;rw [rdsH_clr c l k];rfl
theorem do_any (w0:World) (g:Ad) (p:Nat) (h:Hp) (a:Ca) (c:Cal) (i:In) (Q:Option Addr) (q:Nat) (w:World) (hH:Hs w0 g w p h) (hC:CalAt w0 w a c.clr) (E:Env w0 g h) (hp:0≤c.pc∧c.pc≤100000) (n19:i.op≠19) (n20:i.op≠20) (n22:i.op≠22) (N:Nat) (IH:RunOk w0 g p N) (gh:Gh 1 h) (kd:Kd h) (ho:h.over=false) (hth:h.thrown=-1) (gc:Gc h c)
  {nc:Nat} {rt:Int} (ok:InOk h.file.classes h.file.methods nc c.m.regs rt i) (iok:i.ok) (hQ:IntsAt w0 Q i.args) (hN:(h.fuel-h.sh.steps).toNat≤N) :
  Calls Tryz.prog 85 #[.pointer (some ⟨p,0,none⟩),.pointer (some ⟨a.q,0,none⟩),.agg #[.int .i64 i.op,.int .i64 i.a,.int .i64 i.b,.int .i64 i.c,.int .i64 i.n,.slice Q i.args.length q]] w fun e w' =>
   e=.returned (.int .i64 (doP N h c i).nx)∧Hs w0 g w' p (doP N h c i).h∧CalAt w0 w' a (doP N h c i).c∧Fq w0.heap.size g.T a w w':=by
 have C:=E.cq
 have hlen:=gc.len
 have hL:c.clr.locs.length=c.locs.length:=rfl
 have ra:(i.op≤9∨(13≤i.op∧i.op≤17)∨i.op=19∨21≤i.op)→0≤i.a∧i.a<c.clr.locs.length:=fun x=>by have:=ok.a x;omega
 have r3:∀{n:Int},0≤n∧n<c.clr.locs.length→(c.clr.rd n).kind=3→(c.clr.rd n).n<h.objs.length:=fun {n} hn e=>((gc.rd (a:=n) (by omega)).ref e).2
 unfold doP
 by_cases h18:i.op=18
 ·rw [if_pos h18,h18]
  obtain ⟨c1,c2,c3⟩:=ok.call h18
  have hmm:=E.may.2 _ (nth_mem (d:=me0) (i:=i.a.toNat) (by omega:i.a.toNat<h.file.methods.length))
  have hpl:(nth me0 h.file.methods i.a.toNat).params.length≤4:=(smeP hmm.1).2.2.2.1
  unfold callP
  dsimp only
  generalize hMe:nth me0 h.file.methods i.a.toNat=M at *
  rw [←rdsH_clr c,←rds_clr c]
  have key:=ycall_any w0 g p h a c.clr i.a i.b i.c i.n i.args Q q w hH hC C hp E.mes M hMe ⟨c1,c2⟩ hQ c3 hpl (fun j hj=>by have:=ok.args h18 j hj;omega) (runP (loopP N) (h.rdsH c.clr i.args M.params) M (c.clr.rds i.args M.params))
   (if (h.rdsH c.clr i.args M.params).over=true then h.rdsH c.clr i.args M.params else (runP (loopP N) (h.rdsH c.clr i.args M.params) M (c.clr.rds i.args M.params)).1)
   (if (h.rdsH c.clr i.args M.params).over=true then c.clr else { c.clr with giv:=(runP (loopP N) (h.rdsH c.clr i.args M.params) M (c.clr.rds i.args M.params)).2 })
   (fun e=>⟨if_pos e,if_pos e⟩) (fun e=>⟨if_neg (by rw [e];decide),if_neg (by rw [e];decide)⟩)
   (fun e P CC K pp cc kk A1 ac lb w1 me1 hs1 st1 hac=>by
    have e1:h.rdsH c.clr i.args M.params=h:=rdsH_go c.clr i.args M.params e
    rw [e1] at hs1
    rw [e1]
    have:=IH h M P CC K pp cc kk A1 ac lb (c.clr.rds i.args M.params) w1 hs1 E ho hth gh.less kd me1 hmm.1 hmm.2 (rds_length c.clr _ _ c3) (rds_gd gc.clr _ _ (ok.args h18)) st1 (by rw [rds_length c.clr _ _ c3];exact hac) hN
    rw [rds_length c.clr _ _ c3] at this
    exact this)
  refine key.mono fun e w' ⟨he,hs,hc,hf⟩=>?_
  split
  ·rename_i hx
   rw [if_pos hx] at hs hc
   exact ⟨he,hs,hc,hf⟩
  ·rename_i hx
   rw [if_neg hx] at hs hc
   exact ⟨he,hs,hc,hf⟩
 rw [if_neg h18]
 unfold doesP
 by_cases e:i.op=10
 ·rw [if_pos e,e]
  exact fr_do C.k C.n7 hC (qdoes_op10 w0 g p h a c.clr i.a i.b i.c i.n Q i.args.length q w hH hC C hp)
 rw [if_neg e]
 by_cases e1:i.op=11
 ·rw [if_pos e1,e1]
  have hr:0≤i.c∧i.c<c.clr.locs.length:=by have:=ok.c (by omega);omega
  unfold ifP
  dsimp only
  cases hh:hldB i.b (c.rd i.c).n
  ·rw [if_neg (by decide)]
   exact fr_do C.k C.n7 hC (qdoes_op11n w0 g p h a c.clr i.a i.b i.c i.n Q i.args.length q w hH hC C hp hr hh)
  ·rw [if_pos rfl]
   exact fr_do C.k C.n7 hC (qdoes_op11y w0 g p h a c.clr i.a i.b i.c i.n Q i.args.length q w hH hC C hp hr hh)
 rw [if_neg e1]
 by_cases e2:i.op=12
 ·rw [if_pos e2,e2]
  have hr:0≤i.c∧i.c<c.clr.locs.length:=by have:=ok.c (by omega);omega
  unfold ifnP
  dsimp only
  by_cases hh:(c.rd i.c).n<0
  ·rw [if_pos hh]
   exact fr_do C.k C.n7 hC (qdoes_op12y w0 g p h a c.clr i.a i.b i.c i.n Q i.args.length q w hH hC C hp hr (decide_eq_true hh))
  ·rw [if_neg hh]
   exact fr_do C.k C.n7 hC (qdoes_op12n w0 g p h a c.clr i.a i.b i.c i.n Q i.args.length q w hH hC C hp hr (decide_eq_false hh))
 rw [if_neg e2]
 by_cases e3:i.op=15
 ·rw [if_pos e3,e3]
  have hr:0≤i.b∧i.b<c.clr.locs.length:=by have:=ok.b (by omega);omega
  have hra:=ra (by omega)
  have hfl:=ok.fld (Or.inr e3)
  unfold putP
  dsimp only
  exact fr_do C.k C.n7 hC (qdoes_op15 w0 g p h a c.clr i.a i.b i.c i.n Q i.args.length q w hH hC C hp hr hra hfl ⟨r3 hr,r3 hra⟩ _ (fun e=>if_pos e) (fun e=>if_neg (fun x=>by rw [show ((h.rdH c i.b 3).rdH c i.a (fieldT h.file.classes i.c i.n).kind).over=false from e] at x;cases x)))
 rw [if_neg e3]
 by_cases e4:i.op=16
 ·rw [if_pos e4,e4]
  have hra:=ra (by omega)
  unfold castP
  cases hov:(h.rdH c i.a 3).over
  ·rw [if_neg (by decide)]
   exact fr_do C.k C.n7 hC (qdoes_op16 w0 g p h a c.clr i.a i.b i.c i.n Q i.args.length q w hH hC C hp hra hov (by rw [rdH_objs];exact r3 hra))
  ·rw [if_pos rfl]
   exact fr_do C.k C.n7 hC (qdoes_op16o w0 g p h a c.clr i.a i.b i.c i.n Q i.args.length q w hH hC C hp hra hov)
 rw [if_neg e4,if_neg n19]
 by_cases e5:i.op=21
 ·rw [if_pos e5,e5]
  have hra:=ra (by omega)
  unfold thrP
  cases hov:(h.rdH c i.a 3).over
  ·rw [if_neg (by decide)]
   exact fr_do C.k C.n7 hC (qdoes_op21 w0 g p h a c.clr i.a i.b i.c i.n Q i.args.length q w hH hC C hp hra hov)
  ·rw [if_pos rfl]
   exact fr_do C.k C.n7 hC (qdoes_op21o w0 g p h a c.clr i.a i.b i.c i.n Q i.args.length q w hH hC C hp hra hov)
 rw [if_neg e5,if_neg n22]
 by_cases e6:i.op=23
 ·rw [if_pos e6,e6]
  have hra:=ra (by omega)
  unfold emitP
  cases hov:(h.rdH c i.a i.b).over
  ·rw [if_neg (by decide)]
   exact fr_do C.k C.n7 hC (qdoes_op23 w0 g p h a c.clr i.a i.b i.c i.n Q i.args.length q w hH hC C hp hra hov (by
    have e7:h.rdH c.clr i.a i.b=h:=(rdH_go (h:=h) (c:=c) (a:=i.a) (k:=i.b) hov).2.1
    rw [e7]
    have:=gh.out
    have:=gh.steps
    have:=gh.fuel
    omega))
  ·rw [if_pos rfl]
   exact fr_do C.k C.n7 hC (qdoes_op23o w0 g p h a c.clr i.a i.b i.c i.n Q i.args.length q w hH hC C hp hra hov)
 rw [if_neg e6]
 have hop:=ok.op
 have hra:=ra (by omega)
 have hg:=fun hs=>givesV_ok gh kd gc ho hth E.may.1 ok iok (by omega) hs
 have:=qdoes_gives w0 g p h a c.clr i.op i.a i.b i.c i.n i.args Q i.args.length q w hH hC C hp ⟨e,e1,e2,h18,e5,e3,e4,e6⟩
  ⟨by omega,fun x=>by have:=ok.b (by omega);omega,fun x=>by have:=ok.c (by omega);omega,fun x=>⟨(gc.rd (a:=i.b) (by have:=ok.b (by omega);omega)).num,(gc.rd (a:=i.c) (by have:=ok.c (by omega);omega)).num⟩,fun x=>ok.cls (Or.inl x),fun x=>r3 (by have:=ok.b (by omega);omega),E.inp,gh.used⟩
  (givesH_le h c _).file hra (fun hs=>⟨gc.ok,fun x=>by have:=(hg hs).2.2 x;omega⟩)
 exact this
theorem run_no (w0:World) (g:Ad) (p:Nat) (h:Hp) (m:Me) (P CC KA:Option Addr) (pp cc kk:Nat) (A:Option Addr) (ac lb:Nat) (l:List Va) (w:World) (hH:Hs w0 g w p h) (E:Env w0 g h) (ho:h.over=false) (gh:Gh 0 h) (hme:MeAt w0 m P CC KA) (hl:l.length=m.params.length) (hg:∀v∈l,GdV h v) (hA:StkAt lb w A l) (hb:h.enterB m l=false) :
  Calls Tryz.prog 38 #[.pointer (some ⟨p,0,none⟩),meV m P CC KA pp cc kk,.slice A l.length ac] w fun e w'=>e=.returned (vaV va0)∧Hs w0 g w' p (h.enterH m l)∧Fr w0.heap.size g.T w w':=by
 have hbs:=hH.base
 obtain ⟨WI,hWI⟩:∃WI,WI=(((w.alloc (.cells #[.slice P m.params.length pp,.int .i64 m.ret.kind,.int .i64 m.ret.cls,.int .i64 m.stack,.int .i64 m.locs,.int .i64 m.regs,.slice CC m.code.length cc,.slice KA m.hands.length kk] 54)).alloc (.cells #[.int .i64 0,.int .i64 0] 80)).alloc (.cells #[.int .i64 0,.int .i64 0] 80)):=⟨_,rfl⟩
 have hbl:Bl w WI:=by rw [hWI];exact (((Bl.refl w).alloc _).alloc _).alloc _
 have HF:Hid (Fr w0.heap.size g.T w WI):=Fr.old hbs hbl
 have HH:Hid (Hs w0 g WI p h):=hH.old hbl
 have HM:Hid (MthBox WI w.heap.size m P CC KA pp cc kk):=⟨by rw [hWI];exact blk_up (by simp;omega) (blk_up (by simp) (blk_at rfl))⟩
 have HR:Hid (VaBox WI (w.heap.size+1) va0):=⟨by rw [hWI];exact blk_up (by simp) (blk_at (by simp))⟩
 have HN:Hid (VaBox WI (w.heap.size+1+1) va0):=⟨by rw [hWI];exact blk_at (by simp)⟩
 have HA:Hid (StkAt lb WI A l):=hA.keep fun b cs f e _=>(hbl.block _ (lt_some e)).trans e
 have HC:=hid E.cq
 have HP:Hid (TysAt w0 P m.params):=hme.1
 have HL:Hid (l.length=m.params.length):=hl
 have HG:Hid (∀v∈l,v.kind=3→v.n<h.objs.length):=fun v hv e=>((hg v hv).ref e).2
 have hcl:=gh.calls
 have hbs1:w0.heap.size≤w.heap.size+1:=by omega
 have hle1:w.heap.size≤w.heap.size+1:=by omega
 have HS2:Hid (∀w',MthBox w' w.heap.size m P CC KA pp cc kk→(fun w'=>w'.cell? ⟨w.heap.size,0,none⟩=some (.slice P m.params.length pp)∧w'.cell? ⟨w.heap.size,1,none⟩=some (.int .i64 m.ret.kind)∧w'.cell? ⟨w.heap.size,2,none⟩=some (.int .i64 m.ret.cls)∧w'.cell? ⟨w.heap.size,3,none⟩=some (.int .i64 m.stack)∧w'.cell? ⟨w.heap.size,4,none⟩=some (.int .i64 m.locs)∧w'.cell? ⟨w.heap.size,5,none⟩=some (.int .i64 m.regs)∧w'.cell? ⟨w.heap.size,6,none⟩=some (.slice CC m.code.length cc)∧w'.cell? ⟨w.heap.size,7,none⟩=some (.slice KA m.hands.length kk)) w'):=fun w' X=>⟨X.cells.c0,X.cells.c1,X.cells.c2,X.cells.c3,X.cells.c4,X.cells.c5,X.cells.c6,X.cells.c7⟩
 have z2:=hid (HS2.out _ HM.out)
 have HB:Hid (h.enterB m l=false):=hb
 clear hH E hme hl hg hA hb hbl gh
 go_enter Tryz.func38,Tryz.ntmps38
 go_wp2
 rw [←hWI]
 clear hWI
 refine wp_region_held_drew (S:=fun w'=>w'.cell? ⟨w.heap.size,0,none⟩=some (.slice P m.params.length pp)∧w'.cell? ⟨w.heap.size,1,none⟩=some (.int .i64 m.ret.kind)∧w'.cell? ⟨w.heap.size,2,none⟩=some (.int .i64 m.ret.cls)∧w'.cell? ⟨w.heap.size,3,none⟩=some (.int .i64 m.stack)∧w'.cell? ⟨w.heap.size,4,none⟩=some (.int .i64 m.locs)∧w'.cell? ⟨w.heap.size,5,none⟩=some (.int .i64 m.regs)∧w'.cell? ⟨w.heap.size,6,none⟩=some (.slice CC m.code.length cc)∧w'.cell? ⟨w.heap.size,7,none⟩=some (.slice KA m.hands.length kk)) (by kernel_rfl) ?_ (fun hHeld0=>?_)
 ·exact z2.out
 iterate 5 (refine tn rfl (by kernel_rfl) (fun _ _ _ h=>h) (by intro _ h;go_split_ands;go_simp<;>with_reducible rfl) hHeld0 ?_;try simp only [aS,aN,aT,a0,a1])
 refine rd1 (i:=5) (by kernel_rfl) rfl fun K hK=>?_
 go_simp
 go_at_call 77
 refine (enter_any w0 g p h m P CC KA pp cc kk A ac lb l _ (HH.out.drewN 1) HC.out.cw ho HP.out HL.out (by exact HA.out) HG.out hcl).mono ?_
 rintro e w1 ⟨he,h1,f1⟩
 rw [HB.out] at he
 subst he
 have F1:=hid (((Fr.refl w0.heap.size g.T WI).drewN 1).trans f1)
 have HM1:=hid (HM.out.fr HC.out.k F1.out)
 have HB1:=hid (HR.out.keep HC.out.k F1.out)
 have HN1:=hid (HN.out.keep HC.out.k F1.out)
 have d1:=hid (HS2.out _ HM1.out)
 have H1:=hid h1
 clear h1 f1
 go_wp2_with fail
 refine hK.out _ _ (d1.out) (fun hHeld1=>?_)
 try simp only [aS,aN,aT,a0,a1]
 refine tn rfl (by kernel_rfl) (fun _ _ _ h=>h) (by intro _ h;go_split_ands;go_simp<;>with_reducible rfl) hHeld1 ?_
 try simp only [aS,aN,aT,a0,a1]
 refine wpAnyH_done (by kernel_rfl) ?_ _
 have r0:=HB1.out.c0
 have r1:=HB1.out.c1
 have rf:=HB1.out.fr
 have n0:=HN1.out.c0
 have n1:=HN1.out.c1
 go_wp2
 (try simp only [Exit.inBlock,Exit.then])
 refine bodyPost_ret (results_cell_row rfl _ _ (w.heap.size+1) _ _ _ _ rfl (HB1.out.set va0).blk Tryz.underlying80 rfl info_va) rfl ?_
 exact ⟨rfl,H1.out.cf (HB1.out.cf HC.out.k hbs1 _ _),((HF.out.trans F1.out).new hle1 hbs1 _).new hle1 hbs1 _⟩
end Go.Proofs.YtfncnhlihmnkiabGreat
