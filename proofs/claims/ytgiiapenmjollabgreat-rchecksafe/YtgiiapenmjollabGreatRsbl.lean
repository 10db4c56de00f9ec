import Derived.Test.YtgiiapenmjollabGreatRsbk
namespace Go.Proofs.YtgiiapenmjollabGreat
set_option linter.all false
set_option maxHeartbeats 40000000
set_option maxRecDepth 100000
open Go.RowKit
section
theorem hdCs_at:∀(l:List Hd) (q:Nat),q<l.length→(hdCs l)[q*4]?=some (.int .i64 (nth hd0 l q).fr)∧(hdCs l)[q*4+1]?=some (.int .i64 (nth hd0 l q).til)∧(hdCs l)[q*4+2]?=some (.int .i64 (nth hd0 l q).pc)∧(hdCs l)[q*4+3]?=some (.int .i64 (nth hd0 l q).cls)
 | [],q,h=>absurd h (by simp)
 | x::l,0,h=>⟨rfl,rfl,rfl,rfl⟩
 | x::l,q+1,h=>by
  have ih:=hdCs_at l q (by simpa using h)
  have e:∀j,(hdCs (x::l))[(q+1)*4+j]?=(hdCs l)[q*4+j]?:=fun j=>by
   show (hdC x++hdCs l)[(q+1)*4+j]?=_
   rw [List.getElem?_append_right (by show 4≤_;omega)]
   show (hdCs l)[(q+1)*4+j-4]?=_
   rw [show (q+1)*4+j-4=q*4+j by omega]
  exact ⟨(e 0).trans ih.1,(e 1).trans ih.2.1,(e 2).trans ih.2.2.1,(e 3).trans ih.2.2.2⟩
theorem rowHd {w:World} {base:Nat} {e:TypeId} {v:Value} {l:List Hd} (h:w.ownsRow base e 4 v l.length (hdCs l)) (hl:0<l.length):∃gb cap,v=.slice (some ⟨gb,0,none⟩) l.length cap∧base≤gb∧gb<w.heap.size∧∃o,w.heap[gb]?=some o∧∀w':World,w'.heap[gb]?=some o→∀q,q<l.length→w'.cell? ⟨gb,q*4,none⟩=some (.int .i64 (nth hd0 l q).fr)∧w'.cell? ⟨gb,q*4+1,none⟩=some (.int .i64 (nth hd0 l q).til)∧w'.cell? ⟨gb,q*4+2,none⟩=some (.int .i64 (nth hd0 l q).pc)∧w'.cell? ⟨gb,q*4+3,none⟩=some (.int .i64 (nth hd0 l q).cls):=by
 obtain ⟨h1,h2|⟨gb,cap,cu,e1,h3,h4,h5,h6,h7,h8⟩⟩:=h
 ·omega
 ·refine ⟨gb,cap,e1,h3,lt_some h4,_,h4,fun w' hw q hq=>?_⟩
  have hc:∀j u,(hdCs l)[j]?=some u→w'.cell? ⟨gb,j,none⟩=some u:=fun j u hj=>by
   have hjl:=(List.getElem?_eq_some_iff.1 hj).1
   rw [hdCs_length] at hjl
   rw [←h8,List.getElem?_take,if_pos hjl] at hj
   simp only [World.cell?,hw]
   simpa using hj
  have:=hdCs_at l q hq
  exact ⟨hc _ _ this.1,hc _ _ this.2.1,hc _ _ this.2.2.1,hc _ _ this.2.2.2⟩
section
variable {X:Nat→Prop} {wx w0 w1:World} {g:Gf} {b0:Nat} {w:World} {sl hs:List Ty} {at':Int} {st:List (Option As)} {wt:List Int} {f:Fi} {m:Me} {hv:Value}
theorem LeadH.led' {cs:List Cl} {m:Me} (ht:Tree cs) {s1 s2:List (Option As)} {w1 w2:List Int} (h:Led cs s1 w1 s2 w2) {t op:Int} {v:Ty} {sl:List Ty} (q:LeadH cs m s1 t op v sl):LeadH cs m s2 t op v sl:=⟨fun x=>h.leads ht (q.1 x),fun x=>h.leads ht (q.2 x)⟩
set_option maxRecDepth 300000 in
theorem qthrow_any (C:Cx w0 w1 g f m) (Q:Qx X wx w0 g f hv) (H:FX X wx w1 g b0 w ⟨sl,[]⟩ at' st wt) (G:Gs f m st wt) (hc:Wn f m ⟨sl,[]⟩) (hl:m.hands.length≤8) (ho:∀x∈m.hands,(0≤x.til∧x.til≤3000)∧0≤x.cls∧x.cls<f.classes.length) :
  Calls Tryz.prog 219 #[.pointer (some ⟨g.q,0,none⟩)] w fun e w'=>LQ f m X wx w1 g b0 ⟨sl,[]⟩ at' st wt (fun st'=>∀x∈overL at' m.hands,LeadH f.classes m st' x.pc 22 ⟨3,x.cls⟩ sl) e w':=by
 have K:=hid (fover_any C H hl (fun x hx=>(ho x hx).1))
 have HO:Hid (∀x∈overL at' m.hands,0≤x.cls∧x.cls<f.classes.length):=fun x hx=>(ho x (List.mem_filter.1 hx).1).2
 have HL:Hid ((overL at' m.hands).length≤8):=by have:=over_le at' m.hands m.hands.length;rw [List.take_length] at this;show _≤8;omega
 have q0:=Q.q0 H
 have hq:=cell_lt q0
 have HC:=hid C
 have HQ:=hid Q
 have HH:=hid H
 have HG:=hid G
 have HW:=hid hc
 have HT:=hid (may_tree C.may).1
 clear C Q H G hc hl ho
 generalize overL at' m.hands=l at *
 go_enter Tryz.func219,Tryz.ntmps219
 go_wp2_with (go_at_call 276;refine K.out.mono ?_;rintro e w2 ⟨v,rfl,o2,b2⟩;obtain ⟨au,cu,hu,-,-⟩:=own_formT o2;subst hu;have O2:=hid o2;have B2:=hid b2;clear o2 b2)
 have F2:=hid (HH.out.wide B2.out)
 have Q2:=hid (HQ.out.wide HH.out B2.out)
 clear q0 hq K
 go_loopw [10] (fun i wr=>∃(q:Nat) (st':List (Option As)) (wt':List Int),q≤l.length∧i=.int .i64 q∧Hid (FX (Xf X w.heap.size w2.heap.size) w2 w1 g b0 wr ⟨sl,[]⟩ at' st' wt'∧Gs f m st' wt'∧Led f.classes st wt st' wt'∧∀j,j<q→LeadH f.classes m st' (nth hd0 l j).pc 22 ⟨3,(nth hd0 l j).cls⟩ sl)) (fun i _=>l.length-(intOf i).toNat)
 case atStart=>exact ⟨0,st,wt,Nat.zero_le _,rfl,F2.out,HG.out,Led.refl _ _ _,fun j hj=>by omega⟩
 case round =>
  obtain ⟨q,st',wt',hql0,rfl,RR⟩:=hrel
  by_cases hql:q<l.length
  ·obtain ⟨gb,cap,ev,e1,e2,ob,e3,e4⟩:=rowHd O2.out (by omega)
   have ea:au=some ⟨gb,0,none⟩:=by injection ev
   subst ea
   obtain ⟨x0,x1,x2,x3⟩:=e4 wr (RR.out.1.box e1 e2 e3) q hql
   have hbl:=cell_lt x0
   have hxm:Hid (0≤(nth hd0 l q).cls∧(nth hd0 l q).cls<f.classes.length):=HO.out _ (by rw [nth_get hql];exact List.getElem_mem hql)
   have LS:Hid (∀P:Hd→Prop,(∀j,j<q→P (nth hd0 l j))→P (nth hd0 l q)→∀j,j<q+1→P (nth hd0 l j)):=fun P h1 h2 j hj=>by
    by_cases e:j=q
    ·rw [e];exact h2
    ·exact h1 j (by omega)
   have hk0:(0:Int)≤(q:Int):=by omega
   have hk1:(q:Int)<(l.length:Int):=by omega
   clear ev e1 e2 e3 e4 ob
   generalize nth hd0 l q=x at *
   have ZB:=hid (mblk (w:=wr) (cs:=#[.int .i64 x.fr,.int .i64 x.til,.int .i64 x.pc,.int .i64 x.cls]) (t:=98) rfl)
   have BA:Hid (Bl wr (wr.alloc (.cells #[.int .i64 x.fr,.int .i64 x.til,.int .i64 x.pc,.int .i64 x.cls] 98))):=(Bl.refl wr).alloc _
   go_wp2
   clear x0 x1 x2 x3 hbl
   have FA0:=hid (RR.out.1.wide BA.out)
   have QA0:=hid (Q2.out.wide RR.out.1 BA.out)
   have hwl:=lt_some ZB.out
   have WN:=hid (HW.out.one (v:=⟨3,x.cls⟩) ⟨fun _=>Or.inr hxm.out,by show (1:Int)≤3;omega,by show (3:Int)≤3;omega⟩ (fun e=>absurd rfl e))
   generalize wr.alloc (.cells #[.int .i64 x.fr,.int .i64 x.til,.int .i64 x.pc,.int .i64 x.cls] 98)=V at *
   have s2:V.cell? ⟨wr.heap.size,2,none⟩=some (.int .i64 x.pc):=by rw [cell_blk ZB.out];rfl
   have s3:V.cell? ⟨wr.heap.size,3,none⟩=some (.int .i64 x.cls):=by rw [cell_blk ZB.out];rfl
   refine wp_region_held_drew (S:=fun w'=>w'.cell? ⟨wr.heap.size,2,none⟩=some (.int .i64 x.pc)∧w'.cell? ⟨wr.heap.size,3,none⟩=some (.int .i64 x.cls)) (by kernel_rfl) ?_ (fun hHeld0=>?_)
   ·exact ⟨s2,s3⟩
   clear s2 s3
   iterate 5 (refine tn rfl (by kernel_rfl) (fun _ _ _ h=>h) (by intro _ h;go_split_ands;go_simp<;>with_reducible rfl) hHeld0 ?_;try simp only [aZ])
   refine rd1 (i:=5) (by kernel_rfl) rfl fun K hK=>?_
   go_simp
   go_at_call 278
   refine (fref_any x.cls V.drew).mono ?_
   rintro e w3 ⟨rfl,b3⟩
   have B3:=hid ((Bl.refl V).drew.trans b3)
   clear b3
   have Z3:=hid (bl_blk B3.out ZB.out)
   have F3:=hid (FA0.out.bl B3.out)
   refine hK.out _ _ ⟨by rw [cell_blk Z3.out];rfl,by rw [cell_blk Z3.out];rfl⟩ (fun hHeld1=>?_)
   try simp only [aZ]
   clear hK
   refine rd1 (i:=6) (by kernel_rfl) rfl fun K hK=>?_
   go_simp
   go_at_call 277
   refine (qhand_any HC.out QA0.out HW.out F3.out RR.out.2.1 x.pc 22 ⟨3,x.cls⟩ WN.out).mono ?_
   rintro e w5 (⟨rfl,f5⟩|⟨st2,wt2,rfl,f5,g5,l5,p5⟩)
   ·exact ⟨rfl,Or.inl ⟨rfl,FE.back HH.out B2.out (FE.back RR.out.1 BA.out f5)⟩⟩
   have Z5:=hid (f5.box (Nat.le_refl _) hwl ZB.out)
   have N5:Hid (FX (Xf X w.heap.size w2.heap.size) w2 w1 g b0 w5 ⟨sl,[]⟩ at' st2 wt2∧Gs f m st2 wt2∧Led f.classes st wt st2 wt2∧∀j,j<q+1→LeadH f.classes m st2 (nth hd0 l j).pc 22 ⟨3,(nth hd0 l j).cls⟩ sl):=⟨RR.out.1.back BA.out f5,g5,RR.out.2.2.1.trans HT.out l5,LS.out (fun y=>LeadH f.classes m st2 y.pc 22 ⟨3,y.cls⟩ sl) (fun j hj=>(RR.out.2.2.2 j hj).led' HT.out l5) p5⟩
   refine hK.out _ _ ⟨by rw [cell_blk Z5.out];rfl,by rw [cell_blk Z5.out];rfl⟩ (fun hHeld3=>?_)
   clear f5 g5 l5 p5 hHeld0 hHeld1 hHeld3 hK
   try simp only [aZ]
   refine wpAnyH_done (by kernel_rfl) ?_ _
   have h8:=HL.out
   go_wp2
   go_roundw
   case rel=>exact ⟨q+1,st2,wt2,by omega,by go_num,N5⟩
   case measure=>simp [intOf];omega
  ·have hqe:q=l.length:=by omega
   subst hqe
   go_wp2
   go_end0
   exact Or.inr ⟨st',wt',rfl,HH.out.back B2.out RR.out.1,RR.out.2.1,RR.out.2.2.1,fun x hx=>by
    obtain ⟨j,hj,rfl⟩:=List.getElem_of_mem hx
    have:=RR.out.2.2.2 j hj
    rw [nth_get hj] at this
    exact this⟩
set_option maxRecDepth 300000 in
theorem qgive_any (C:Cx w0 w1 g f m) (Q:Qx X wx w0 g f hv) (D:HdX X wx hv hs) (hc:Wq f m ⟨sl,[]⟩) (hr:1≤m.regs) (H:FX X wx w1 g b0 w ⟨sl,[]⟩ at' st wt) (a:Int) (ha:m.ret.kind≠0→0≤a∧a<m.regs) (hrt:retB f.classes.length m.ret=true) :
  Calls Tryz.prog 223 #[.pointer (some ⟨g.q,0,none⟩),.int .i64 a] w fun e w'=>e=(if m.ret.kind=0 then .returned (.tuple #[]) else rdE (rdY f.classes m.ret a ⟨sl,hs⟩))∧Bl w w':=by
 have R0:=hid (H.rc C Q D hc hr)
 have q0:=R0.out.q0
 have hq:=cell_lt q0
 have p4:w.cell? ⟨g.p,4,none⟩=some (.int .i64 m.ret.kind):=by rw [←C.ret.1];exact H.pc.2.1
 have p5:w.cell? ⟨g.p,5,none⟩=some (.int .i64 m.ret.cls):=by rw [←C.ret.2];exact H.pc.2.2.1
 have hp:=cell_lt p4
 have hl:(sl.length:Int)=m.regs:=hc.wf.len
 have HRT:=hid hrt
 clear C Q D H hrt hc
 by_cases hk:m.ret.kind=0
 ·rw [if_pos hk]
  have hz:(m.ret.kind !=0)=false:=by simpa using hk
  clear hk ha
  go_enter Tryz.func223,Tryz.ntmps223
  go_wp2
  go_end0
  exact ⟨rfl,Bl.refl w⟩
 ·rw [if_neg hk]
  have hz:(m.ret.kind !=0)=true:=by simpa using hk
  have ha:=ha hk
  obtain ⟨k,rfl⟩:∃k:Nat,a=k:=⟨a.toNat,by omega⟩
  have K:=hid (qtype_any R0.out k m.ret (by show k<sl.length;omega) (fun e=>by
   have:=HRT.out
   unfold retB at this
   rw [Bool.or_eq_true] at this
   rcases this with this|this
   ·exact absurd (of_decide_eq_true this).1 hk
   ·have:=of_decide_eq_true this;omega))
  clear hk ha hl
  cases h1:rdY f.classes m.ret k ⟨sl,hs⟩ with
  | none =>
   rw [h1] at K
   clear h1
   go_enter Tryz.func223,Tryz.ntmps223
   go_wp2_with (go_at_call 280;refine K.out.mono ?_;rintro e w2 ⟨he,b2⟩;have he:e=upE:=he;subst he)
   exact ⟨rfl,rfl,b2⟩
  | some v =>
   rw [h1] at K
   clear h1
   go_enter Tryz.func223,Tryz.ntmps223
   go_wp2_with (go_at_call 280;refine K.out.mono ?_;rintro e w2 ⟨he,b2⟩;have he:e=.returned (.tuple #[]):=he;subst he)
   go_end0
   exact ⟨rfl,b2⟩
end
end
section
abbrev fmeV (x:Me) (P C K:Option Addr) (p c k:Nat):Value:=.agg #[.slice P x.params.length p,.int .i64 x.ret.kind,.int .i64 x.ret.cls,.int .i64 x.stack,.int .i64 x.locs,.int .i64 x.regs,.slice C x.code.length c,.slice K x.hands.length k]
abbrev fmeO (x:Me) (P C K:Option Addr) (p c k:Nat):Obj:=.cells #[.slice P x.params.length p,.int .i64 x.ret.kind,.int .i64 x.ret.cls,.int .i64 x.stack,.int .i64 x.locs,.int .i64 x.regs,.slice C x.code.length c,.slice K x.hands.length k] 50
section
variable {X:Nat→Prop} {wx w0 w1:World} {g:Gf} {b0:Nat} {w:World} {sl hs:List Ty} {at':Int} {st:List (Option As)} {wt:List Int} {f:Fi} {m:Me} {hv:Value}
theorem qcall_any (C:Cx w0 w1 g f m) (Q:Qx X wx w0 g f hv) (D:HdX X wx hv hs) (hc:Wn f m ⟨sl,[]⟩) (hr:1≤m.regs) (H:FX X wx w1 g b0 w ⟨sl,[]⟩ at' st wt) (G:Gs f m st wt) (ha:0≤at'∧at'≤3000)
  (x:Me) (hx:rmeB f.classes f.methods x=true) (P Cd Kh AR:Option Addr) (pc cc kc ac:Nat) (args:List Int) (hP:TysAt w0 P x.params) (hAR:IntsAt w0 AR args) (hlen:args.length=x.params.length) (hrg:∀j,j<args.length→0≤nth (0:Int) args j∧nth (0:Int) args j<m.regs) :
  Calls Tryz.prog 222 #[.pointer (some ⟨g.q,0,none⟩),fmeV x P Cd Kh pc cc kc,.slice AR args.length ac] w fun e w'=>LQ f m X wx w1 g b0 ⟨sl,[]⟩ at' st wt (fun st'=>rdsOk f.classes x.params args ⟨sl,hs⟩∧(x.ret.kind=0→Leads f.classes st' (at'+1) ⟨sl,[]⟩)∧(x.ret.kind≠0→LeadH f.classes m st' (at'+1) 19 x.ret sl)) e w':=by
 have hsp:=smeP hx
 have hp4:x.params.length≤4:=hsp.2.2.2.1
 have HTY:=hid (show ∀t∈x.params,tyB f.classes.length t=true from hsp.2.2.2.2.2.2.2.1)
 have HRT:=hid (show retB f.classes.length x.ret=true from hsp.2.2.2.2.2.2.2.2.2)
 have HB:Hid (Bl w (w.alloc (fmeO x P Cd Kh pc cc kc))):=(Bl.refl w).alloc _
 have ZB:=hid (mblk (w:=w) (cs:=#[.slice P x.params.length pc,.int .i64 x.ret.kind,.int .i64 x.ret.cls,.int .i64 x.stack,.int .i64 x.locs,.int .i64 x.regs,.slice Cd x.code.length cc,.slice Kh x.hands.length kc]) (t:=50) rfl)
 have HH:=hid H
 have W1:=hid (H.wide HB.out)
 have Q1:=hid (Q.wide H HB.out)
 have R0:=hid ((H.rc C Q D hc.wq hr).bl HB.out)
 have BL0:=hid (C.bl0 W1.out)
 have HC:=hid C
 have HN:=hid hc
 have HG:=hid G
 have HA:=hid ha
 have HPP:=hid hP
 have HAR:=hid hAR
 have HRG:=hid hrg
 have hll:(sl.length:Int)=m.regs:=hc.wq.wf.len
 have HLL:=hid hll
 have hwl:=lt_some ZB.out
 clear C Q D hc hr H G ha hsp hP hAR hrg hll hx
 go_enter Tryz.func222,Tryz.ntmps222
 go_wp2
 obtain ⟨V,hV⟩:∃V,V=w.alloc (fmeO x P Cd Kh pc cc kc):=⟨_,rfl⟩
 rw [←hV] at HB W1 Q1 R0 BL0 ZB hwl ⊢
 clear hV
 go_loopw [11] (fun i wr=>∃q:Nat,q≤x.params.length∧i=.int .i64 q∧Hid (Bl V wr∧∀j,j<q→∃v,rdY f.classes (nth ty0 x.params j) (nth (0:Int) args j) ⟨sl,hs⟩=some v)) (fun i _=>x.params.length-(intOf i).toNat)
 case atStart=>exact ⟨0,Nat.zero_le _,rfl,Bl.refl V,fun j hj=>by omega⟩
 case round =>
  obtain ⟨q,hq,rfl,RR⟩:=hrel
  have hbw:=BL0.out.trans RR.out.1
  by_cases hql:q<x.params.length
  ·rcases HPP.out.2 with h0|⟨tb,to,rfl,ht⟩
   ·omega
   rcases HAR.out.2 with h0|⟨ab,ao,rfl,hal⟩
   ·omega
   obtain ⟨y0,y1,-,-⟩:=ht q hql
   obtain ⟨z0,-⟩:=hal q (by omega)
   have y0:=hbw.cell y0
   have y1:=hbw.cell y1
   have hy:=cell_lt y0
   have hrq:=HRG.out q (by omega)
   obtain ⟨k,hk⟩:∃k:Nat,nth (0:Int) args q=k:=⟨(nth (0:Int) args q).toNat,by omega⟩
   have z0:=hbw.cell z0
   rw [hk] at z0 hrq
   have hz:=cell_lt z0
   have HK:=hid hk
   have hty:=HTY.out _ (nth_mem (d:=ty0) hql)
   have tk:=of_decide_eq_true hty
   have SO:Hid (∀v,rdY f.classes (nth ty0 x.params q) (k:Int) ⟨sl,hs⟩=some v→∀j,j<q+1→∃v,rdY f.classes (nth ty0 x.params j) (nth (0:Int) args j) ⟨sl,hs⟩=some v):=fun v hv j hj=>by
    by_cases e:j=q
    ·subst e;rw [HK.out];exact ⟨v,hv⟩
    ·exact RR.out.2 j (by omega)
   have hkl:k<sl.length:=by have:=HLL.out;omega
   have hk0:¬(q:Int)<0:=by omega
   have hk1:(q:Int)<(x.params.length:Int):=by omega
   have hk2:(q:Int)<(args.length:Int):=by omega
   clear ht hal hk hbw
   generalize nth ty0 x.params q=t at *
   have ZT:=hid (mblk (w:=wr) (cs:=#[.int .i64 t.kind,.int .i64 t.cls]) (t:=46) rfl)
   have BA:Hid (Bl wr (wr.alloc (.cells #[.int .i64 t.kind,.int .i64 t.cls] 46))):=(Bl.refl wr).alloc _
   have KT:=hid (qtype_any (R0.out.bl ((RR.out.1.trans BA.out).drew)) k t hkl (fun e=>by omega))
   go_wp2
   have hwt:=lt_some ZT.out
   have za:=BA.out.cell z0
   clear y0 y1 hy z0 hz tk hty hkl hrq
   generalize wr.alloc (.cells #[.int .i64 t.kind,.int .i64 t.cls] 46)=V2 at *
   refine wp_region_held_drew (S:=fun w'=>w'.cell? ⟨ab,ao+q,none⟩=some (.int .i64 k)∧w'.cell? ⟨wr.heap.size,0,none⟩=some (.int .i64 t.kind)∧w'.cell? ⟨wr.heap.size,1,none⟩=some (.int .i64 t.cls)) (by kernel_rfl) ?_ (fun hHeld0=>?_)
   ·exact ⟨za,c0_of ZT.out,c1_of ZT.out⟩
   have hab:=cell_lt za
   iterate 6 (refine tn rfl (by kernel_rfl) (fun _ _ _ h=>h) (by intro _ h;go_split_ands;go_simp<;>with_reducible rfl) hHeld0 ?_;try simp only [aZ])
   refine rd1 (i:=6) (by kernel_rfl) rfl fun K hK=>?_
   go_simp
   go_at_call 280
   refine KT.out.mono ?_
   rintro e w5 ⟨he,b5⟩
   have B5:=hid ((Bl.refl V2).drew.trans b5)
   clear b5
   cases h1:rdY f.classes t k ⟨sl,hs⟩ with
   | none =>
    rw [h1] at he
    have he:e=upE:=he
    subst he
    exact ⟨rfl,Or.inl ⟨rfl,FE.back HH.out HB.out (W1.out.bl ((RR.out.1.trans BA.out).trans B5.out)).fe⟩⟩
   | some v =>
    rw [h1] at he
    have he:e=.returned (.tuple #[]):=he
    subst he
    have S5:=hid (SO.out v h1)
    clear h1
    have zb:=B5.out.cell za
    refine hK.out _ _ ⟨zb,c0_of (bl_blk B5.out ZT.out),c1_of (bl_blk B5.out ZT.out)⟩ (fun hHeld1=>?_)
    try simp only [aZ]
    clear hK hHeld0 hHeld1 za zb hab
    refine wpAnyH_done (by kernel_rfl) ?_ _
    go_wp2
    go_roundw
    case rel=>exact ⟨q+1,by omega,by go_num,(RR.out.1.trans BA.out).trans B5.out,S5.out⟩
    case measure=>simp [intOf];omega
  ·obtain rfl:q=x.params.length:=by omega
   have F6:=hid (W1.out.bl RR.out.1)
   have Z6:=hid (bl_blk RR.out.1 ZB.out)
   have q6:=Q1.out.q0 F6.out
   have hq6:=cell_lt q6
   have y1:wr.cell? ⟨w.heap.size,1,none⟩=some (.int .i64 x.ret.kind):=(cell_blk Z6.out).trans rfl
   have hy:=cell_lt y1
   by_cases hk:x.ret.kind=0
   ·have hz:(x.ret.kind==0)=true:=by simpa using hk
    have HK:=hid hk
    have KN:=hid (fnext_any HC.out F6.out HG.out HN.out HA.out)
    clear hk
    go_wp2_with (go_at_call 225;refine KN.out.mono ?_;rintro e w7 (⟨rfl,f7⟩|⟨st2,wt2,rfl,f7,g7,l7,p7⟩);exact ⟨rfl,Or.inl ⟨rfl,FE.back HH.out HB.out f7⟩⟩)
    refine bodyPost_ret (results_none rfl _ _ _) rfl ?_
    exact Or.inr ⟨st2,wt2,rfl,HH.out.back HB.out f7,g7,l7,fun j hj=>RR.out.2 j hj,fun _=>p7,fun h=>absurd HK.out h⟩
   ·have hz:(x.ret.kind==0)=false:=by simpa using hk
    have HK:=hid hk
    have hrt:tyB f.classes.length x.ret=true:=by
     have:=HRT.out
     unfold retB at this
     rw [Bool.or_eq_true] at this
     rcases this with this|this
     ·exact absurd (of_decide_eq_true this).1 hk
     ·exact this
    have WN:=hid (HN.out.one (tyB_ok hrt) (tyB_nr hrt))
    have p11:wr.cell? ⟨g.p,11,none⟩=some (.int .i64 at'):=F6.out.pc.2.2.2.2.2.2.1
    have hw:IntKind.i64.wrap (at'+1)=at'+1:=by have:=HA.out;rw [IntKind.wrap_i64];omega
    have hpl:=cell_lt p11
    clear hk hrt
    go_wp2
    clear y1 hy q6 hq6 p11 hpl hz
    have SS:Hid (∀(sst:List (Option As)) (ww:List Int) (w':World),FX (Xf X w.heap.size V.heap.size) V w1 g b0 w' ⟨sl,[]⟩ at' sst ww→w'.cell? ⟨g.q,0,none⟩=some (.pointer (some ⟨g.p,0,none⟩))∧w'.cell? ⟨g.p,11,none⟩=some (.int .i64 at')∧w'.cell? ⟨w.heap.size,1,none⟩=some (.int .i64 x.ret.kind)∧w'.cell? ⟨w.heap.size,2,none⟩=some (.int .i64 x.ret.cls)):=fun sst ww w' h=>⟨Q1.out.q0 h,h.pc.2.2.2.2.2.2.1,(cell_blk (h.box (Nat.le_refl _) hwl ZB.out)).trans rfl,(cell_blk (h.box (Nat.le_refl _) hwl ZB.out)).trans rfl⟩
    refine wp_region_held_drew (S:=fun w'=>w'.cell? ⟨g.q,0,none⟩=some (.pointer (some ⟨g.p,0,none⟩))∧w'.cell? ⟨g.p,11,none⟩=some (.int .i64 at')∧w'.cell? ⟨w.heap.size,1,none⟩=some (.int .i64 x.ret.kind)∧w'.cell? ⟨w.heap.size,2,none⟩=some (.int .i64 x.ret.cls)) (by kernel_rfl) ?_ (fun hHeld0=>?_)
    ·exact SS.out _ _ _ (F6.out.bl (Bl.refl _).drew)
    have l1:=cell_lt hHeld0.1
    have l2:=cell_lt hHeld0.2.1
    have l3:=cell_lt hHeld0.2.2.1
    iterate 11 (refine tn rfl (by kernel_rfl) (fun _ _ _ h=>h) (by intro _ h;go_split_ands;go_simp<;>with_reducible rfl) hHeld0 ?_;try simp only [aZ])
    refine rd1 (i:=11) (by kernel_rfl) rfl fun K hK=>?_
    go_simp
    go_at_call 277
    refine (qhand_any HC.out Q1.out HN.out (F6.out.bl (Bl.refl wr).drew) HG.out (at'+1) 19 x.ret WN.out).mono ?_
    rintro e w7 (⟨rfl,f7⟩|⟨st2,wt2,rfl,f7,g7,l7,p7⟩)
    ·exact ⟨rfl,Or.inl ⟨rfl,FE.back HH.out HB.out f7⟩⟩
    have N7:=hid (show FX X wx w1 g b0 w7 ⟨sl,[]⟩ at' st2 wt2∧Gs f m st2 wt2∧Led f.classes st wt st2 wt2∧LeadH f.classes m st2 (at'+1) 19 x.ret sl from ⟨HH.out.back HB.out f7,g7,l7,p7⟩)
    refine hK.out _ _ (SS.out _ _ _ f7) (fun hHeld1=>?_)
    try simp only [aZ]
    clear hK hHeld0 hHeld1 f7 g7 l7 p7 l1 l2 l3
    refine wpAnyH_done (by kernel_rfl) ?_ _
    go_wp2
    go_end0
    exact Or.inr ⟨st2,wt2,rfl,N7.out.1,N7.out.2.1,N7.out.2.2.1,fun j hj=>RR.out.2 j hj,fun h=>absurd h HK.out,fun _=>N7.out.2.2.2⟩
end
end
theorem info_sp3:(Tryz.prog.info? 167).map (fun i=>(i.zero,i.size,i.bytes))=some (some (.pointer none),1,8):=by kernel_rfl
theorem make_sts (n:Nat) (hn:n≤3000) (u:World):(Instr.makeSlice 154 (.int .i64 (n:Int)) (.int .i64 (n:Int))).run Tryz.prog u=.ok (.slice (some ⟨u.heap.size,0,none⟩) n n) (u.alloc (.cells (madeCells #[.pointer none] n) 167)):=by
 obtain ⟨i,hi,hz,hs,hb⟩:=info_partsT info_sp3
 have h:=run_make u 154 167 i _ Tryz.underlying154 hi hz .i64 .i64 (n:Int) (n:Int) (by omega) (Int.le_refl _) (by rw [hb];omega) (by omega)
 rw [hs] at h
 simp only [Int.toNat_natCast,Nat.mul_one] at h
 exact h
theorem JI.base {l:List Cl} {w w1 wr:World} {jb q:Nat} {R:Nat→Nat} (J:JI l w1 wr jb q R) (h:Bl w w1):JI l w wr jb q R :=
 ⟨h.trans J.bl,Nat.le_trans h.size J.lo,J.blk,fun i hi=>⟨Nat.le_trans h.size (J.row i hi).1,(J.row i hi).2⟩⟩
theorem rd2 {P:Program} {md:Region.Mode} {ops:Array Oper} {Q:Exit→Act→World→Prop} {S:World→Prop} {fuel:Nat} {listed:Array Bool} {a:Act} {w:World} {i j:Nat} {o o2:Oper} (hr:Region.ready md ops listed=[i,j]) (ho:ops[i]?=some o) (ho2:ops[j]?=some o2)
  (h:∀K':Act→World→Prop,Shut (∀a w,S w→(S w→wpAnyH P md ops Q S fuel (listed.setIfInBounds i true) a w)→K' a w)→if Region.wanted o (yielded ops a.tmps)=true then Oper.wp P o a w K' Q else K' (a.put o.dst undef) w)
  (h2:∀K':Act→World→Prop,Shut (∀a w,S w→(S w→wpAnyH P md ops Q S fuel (listed.setIfInBounds j true) a w)→K' a w)→if Region.wanted o2 (yielded ops a.tmps)=true then Oper.wp P o2 a w K' Q else K' (a.put o2.dst undef) w):wpAnyH P md ops Q S (fuel+1) listed a w :=
 wpAnyH_ready hr (by simp) (AllReadyH.cons ho h (AllReadyH.cons ho2 h2 AllReadyH.nil))
structure NwI (cs:List Cl) (m:Me) (v0:Value) (sb jb:Nat) (R:Nat→Nat) (w w':World):Prop where
 bl:Bl w w'
 own:w'.ownsRow w.heap.size 243 2 v0 (firstT m m.regs).slots.length (tyCs (firstT m m.regs).slots)
 sbl:w.heap.size≤sb
 sbk:w'.heap[sb]?=some (.cells (madeCells #[.pointer none] m.code.length) 167 (0,0))
 ji:JI cs w w' jb cs.length R
def NwQ (cs:List Cl) (m:Me) (A P Cd Kh:Option Addr) (a p c k:Nat) (w:World) (e:Ending) (w':World):Prop :=
 ∃q v0 sb jb R,e=.returned (.pointer (some ⟨q,0,none⟩))∧w.heap.size≤q∧q≠sb∧NwI cs m v0 sb jb R w w'∧(∀i,i<cs.length→R i≠q∧R i≠sb)∧jb≠q∧jb≠sb∧w'.heap[q]?=some (.cells #[v0,.slice none 0 0,.slice A cs.length a,.slice P m.params.length p,.int .i64 m.ret.kind,.int .i64 m.ret.cls,.int .i64 m.stack,.int .i64 m.locs,.int .i64 m.regs,.slice Cd m.code.length c,.slice Kh m.hands.length k,.int .i64 0,.slice (some ⟨sb,0,none⟩) m.code.length m.code.length,.slice none 0 0,.slice (some ⟨jb,0,none⟩) cs.length cs.length] 277 (0,0))
theorem fnew_any (cs:List Cl) (m:Me) (A P Cd Kh:Option Addr) (a p c k:Nat) (w:World) (hm:mayB cs=true) (hA:ClsAt w A cs) (hP:TysAt w P m.params) (hfit:(slotsN m.params:Int)≤m.regs) (hlo:m.regs≤90) (hk:∀t∈m.params,1≤t.kind∧t.kind≤3) (hc:m.code.length≤2400) :
  Calls Tryz.prog 155 #[.slice A cs.length a,fmeV m P Cd Kh p c k,.int .i64 m.regs] w fun e w'=>NwQ cs m A P Cd Kh a p c k w e w':=by
 have mk:=make_sts m.code.length (by omega)
 have HA:=hid hA
 have HMB:=hid hm
 have NS:Hid (∀V,Bl w V→Calls Tryz.prog 212 #[.int .i64 m.regs,.slice P m.params.length p] V fun e w'=>∃v,e=.returned (.agg #[v,.slice none 0 0])∧Bl V w'∧w'.ownsRow V.heap.size 243 2 v (firstT m m.regs).slots.length (tyCs (firstT m m.regs).slots)):=fun V hV=>by
  have K:=fnewst_any m.regs.toNat m.params P p V (hP.bl hV) (by omega) (by omega) hk
  rw [Int.toNat_of_nonneg (by omega)] at K
  refine K.mono ?_
  rintro e w' ⟨v,rfl,Q⟩
  exact ⟨v,rfl,Q.bl,by (have e:(firstT m m.regs).slots.length=m.regs.toNat:=Q.len;rw [e];exact Q.own)⟩
 have JS:Hid (∀V,Bl w V→Calls Tryz.prog 213 #[.slice A cs.length a] V fun e w'=>∃jb R,e=.returned (.slice (some ⟨jb,0,none⟩) cs.length cs.length)∧JI cs V w' jb cs.length R):=fun V hV=>joins_any A a cs V hm (hA.bl hV)
 have HB:Hid (Bl w (w.alloc (fmeO m P Cd Kh p c k))):=(Bl.refl w).alloc _
 have ZB:=hid (mblk (w:=w) (cs:=#[.slice P m.params.length p,.int .i64 m.ret.kind,.int .i64 m.ret.cls,.int .i64 m.stack,.int .i64 m.locs,.int .i64 m.regs,.slice Cd m.code.length c,.slice Kh m.hands.length k]) (t:=50) rfl)
 have hwl:=lt_some ZB.out
 have SS:Hid (∀w':World,w'.heap[w.heap.size]?=some (fmeO m P Cd Kh p c k)→w'.cell? ⟨w.heap.size,0,none⟩=some (.slice P m.params.length p)∧w'.cell? ⟨w.heap.size,1,none⟩=some (.int .i64 m.ret.kind)∧w'.cell? ⟨w.heap.size,2,none⟩=some (.int .i64 m.ret.cls)∧w'.cell? ⟨w.heap.size,3,none⟩=some (.int .i64 m.stack)∧w'.cell? ⟨w.heap.size,4,none⟩=some (.int .i64 m.locs)∧w'.cell? ⟨w.heap.size,5,none⟩=some (.int .i64 m.regs)∧w'.cell? ⟨w.heap.size,6,none⟩=some (.slice Cd m.code.length c)∧w'.cell? ⟨w.heap.size,7,none⟩=some (.slice Kh m.hands.length k)):=fun w' h=>⟨(cell_blk h).trans rfl,(cell_blk h).trans rfl,(cell_blk h).trans rfl,(cell_blk h).trans rfl,(cell_blk h).trans rfl,(cell_blk h).trans rfl,(cell_blk h).trans rfl,(cell_blk h).trans rfl⟩
 clear hm hA hP hk hfit hlo
 go_enter Tryz.func155,Tryz.ntmps155
 go_wp2
 generalize w.alloc (fmeO m P Cd Kh p c k)=V at *
 refine wp_region_held_drew (S:=fun w'=>w'.cell? ⟨w.heap.size,0,none⟩=some (.slice P m.params.length p)∧w'.cell? ⟨w.heap.size,1,none⟩=some (.int .i64 m.ret.kind)∧w'.cell? ⟨w.heap.size,2,none⟩=some (.int .i64 m.ret.cls)∧w'.cell? ⟨w.heap.size,3,none⟩=some (.int .i64 m.stack)∧w'.cell? ⟨w.heap.size,4,none⟩=some (.int .i64 m.locs)∧w'.cell? ⟨w.heap.size,5,none⟩=some (.int .i64 m.regs)∧w'.cell? ⟨w.heap.size,6,none⟩=some (.slice Cd m.code.length c)∧w'.cell? ⟨w.heap.size,7,none⟩=some (.slice Kh m.hands.length k)) (by kernel_rfl) ?_ (fun hHeld0=>?_)
 ·exact SS.out _ ZB.out
 iterate 9 (refine tn rfl (by kernel_rfl) (fun _ _ _ h=>h) (by intro _ h;go_split_ands;go_simp<;>with_reducible rfl) hHeld0 ?_;try simp only [aZ])
 have BV:=hid (HB.out.trans (Bl.refl V).drew)
 have ZV:=hid (bl_blk (Bl.refl V).drew ZB.out)
 clear HB ZB hwl
 generalize V.drew=V1 at *
 refine rd2 (i:=3) (j:=9) (by kernel_rfl) rfl rfl (fun K hK=>?_) (fun K hK=>?_)
 ·skip
  go_simp
  go_at_call 212
  refine (NS.out V1 BV.out).mono ?_
  rintro e w1 ⟨v0,rfl,b1,o1⟩
  obtain ⟨ao,qo,hvo,-,-⟩:=own_formT o1
  subst hvo
  have OO:=hid (own_base o1 BV.out.size)
  skip
  replace BV:=hid (BV.out.trans b1)
  replace ZV:=hid (bl_blk b1 ZV.out)
  clear o1 b1
  refine hK.out _ _ (SS.out _ ZV.out) (fun hHeld1=>?_)
  try simp only [aZ]
  clear hK
  refine rd2 (i:=9) (j:=11) (by kernel_rfl) rfl rfl (fun K hK=>?_) (fun K hK=>?_)
  ·skip
   go_simp
   have b2:Bl w1 (w1.alloc (.cells (madeCells #[.pointer none] m.code.length) 167)):=(Bl.refl _).alloc _
   have KK:=hid (mblk (w:=w1) (cs:=madeCells #[.pointer none] m.code.length) (t:=167) rfl)
   have KL:=hid BV.out.size
   obtain ⟨sb,hsb⟩:∃sb,sb=w1.heap.size:=⟨_,rfl⟩
   replace OO:=hid (rowBl OO.out b2)
   replace BV:=hid (BV.out.trans b2)
   replace ZV:=hid (bl_blk b2 ZV.out)
   refine hK.out _ _ (SS.out _ ZV.out) (fun hHeld2=>?_)
   try simp only [aZ]
   clear hK b2
   rw [←hsb] at KK KL ⊢
   clear hsb
   generalize w1.alloc (.cells (madeCells #[.pointer none] m.code.length) 167)=W2 at *
   refine rd1 (i:=11) (by kernel_rfl) rfl fun K hK=>?_
   go_simp
   go_at_call 213
   refine (JS.out W2 BV.out).mono ?_
   rintro e w3 ⟨jb,R,rfl,j3⟩
   have JJ0:=hid (j3.base BV.out)
   have b3:=j3.bl
   have FR:=hid (show jb≠sb∧∀i,i<cs.length→R i≠sb from ⟨fun e=>by have:=lt_some KK.out;have:=j3.lo;omega,fun i hi e=>by have:=lt_some KK.out;have:=(j3.row i hi).1;omega⟩)
   replace OO:=hid (rowBl OO.out b3)
   replace KK:=hid (bl_blk b3 KK.out)
   replace BV:=hid (BV.out.trans b3)
   replace ZV:=hid (bl_blk b3 ZV.out)
   clear j3 b3
   refine hK.out _ _ (SS.out _ ZV.out) (fun hHeld3=>?_)
   try simp only [aZ]
   clear hK
   refine tn rfl (by kernel_rfl) (fun _ _ _ h=>h) (by intro _ h;go_split_ands;go_simp<;>with_reducible rfl) hHeld3 ?_
   try simp only [aZ]
   refine rd1 (i:=13) (by kernel_rfl) rfl fun K hK=>?_
   go_simp
   refine hK.out _ _ (SS.out _ (bl_blk ((Bl.refl w3).alloc _) ZV.out)) (fun hHeldz=>?_)
   try simp only [aZ]
   clear hK
   refine tn rfl (by kernel_rfl) (fun _ _ _ h=>h) (by intro _ h;go_split_ands;go_simp<;>with_reducible rfl) hHeldz ?_
   try simp only [aZ]
   refine wpAnyH_done (by kernel_rfl) ?_ _
   go_wp2
   go_ret
   have bz:Bl w3 (w3.alloc (.cells #[.slice ao (firstT m m.regs).slots.length qo,.slice none 0 0,.slice A cs.length a,.slice P m.params.length p,.int .i64 m.ret.kind,.int .i64 m.ret.cls,.int .i64 m.stack,.int .i64 m.locs,.int .i64 m.regs,.slice Cd m.code.length c,.slice Kh m.hands.length k,.int .i64 0,.slice (some ⟨sb,0,none⟩) m.code.length m.code.length,.slice none 0 0,.slice (some ⟨jb,0,none⟩) cs.length cs.length] 277)):=(Bl.refl w3).alloc _
   have hks:=lt_some KK.out
   exact ⟨w3.heap.size,_,sb,jb,R,rfl,BV.out.size,by omega,⟨BV.out.trans bz,rowBl OO.out bz,KL.out,bl_blk bz KK.out,JJ0.out.ext bz⟩,fun i hi=>⟨by have:=(JJ0.out.row i hi).2.2.1;omega,FR.out.2 i hi⟩,by (obtain ⟨cz,hz,-⟩:=JJ0.out.blk;have:=lt_some hz;omega),FR.out.1,mblk rfl⟩
  ·skip
   go_simp
   go_at_call 213
   refine (JS.out w1 BV.out).mono ?_
   rintro e w4 ⟨jb,R,rfl,j4⟩
   have JJ0:=hid (j4.base BV.out)
   have b4:=j4.bl
   replace OO:=hid (rowBl OO.out b4)
   replace BV:=hid (BV.out.trans b4)
   replace ZV:=hid (bl_blk b4 ZV.out)
   clear j4 b4
   refine hK.out _ _ (SS.out _ ZV.out) (fun hHeld4=>?_)
   try simp only [aZ]
   clear hK
   refine rd1 (i:=9) (by kernel_rfl) rfl fun K hK=>?_
   go_simp
   have b5:Bl w4 (w4.alloc (.cells (madeCells #[.pointer none] m.code.length) 167)):=(Bl.refl _).alloc _
   have KK:=hid (mblk (w:=w4) (cs:=madeCells #[.pointer none] m.code.length) (t:=167) rfl)
   have KL:=hid BV.out.size
   obtain ⟨sb,hsb⟩:∃sb,sb=w4.heap.size:=⟨_,rfl⟩
   have FR:=hid (show jb≠sb∧∀i,i<cs.length→R i≠sb from ⟨fun e=>by (obtain ⟨cz,hz,-⟩:=JJ0.out.blk;have:=lt_some hz;omega),fun i hi e=>by have:=(JJ0.out.row i hi).2.2.1;omega⟩)
   replace OO:=hid (rowBl OO.out b5)
   replace JJ0:=hid (JJ0.out.ext b5)
   replace BV:=hid (BV.out.trans b5)
   replace ZV:=hid (bl_blk b5 ZV.out)
   refine hK.out _ _ (SS.out _ ZV.out) (fun hHeld5=>?_)
   try simp only [aZ]
   clear hK b5
   rw [←hsb] at KK KL ⊢
   clear hsb
   generalize w4.alloc (.cells (madeCells #[.pointer none] m.code.length) 167)=W5 at *
   refine tn rfl (by kernel_rfl) (fun _ _ _ h=>h) (by intro _ h;go_split_ands;go_simp<;>with_reducible rfl) hHeld5 ?_
   try simp only [aZ]
   refine rd1 (i:=13) (by kernel_rfl) rfl fun K hK=>?_
   go_simp
   refine hK.out _ _ (SS.out _ (bl_blk ((Bl.refl W5).alloc _) ZV.out)) (fun hHeldz=>?_)
   try simp only [aZ]
   clear hK
   refine tn rfl (by kernel_rfl) (fun _ _ _ h=>h) (by intro _ h;go_split_ands;go_simp<;>with_reducible rfl) hHeldz ?_
   try simp only [aZ]
   refine wpAnyH_done (by kernel_rfl) ?_ _
   go_wp2
   go_ret
   have bz:Bl W5 (W5.alloc (.cells #[.slice ao (firstT m m.regs).slots.length qo,.slice none 0 0,.slice A cs.length a,.slice P m.params.length p,.int .i64 m.ret.kind,.int .i64 m.ret.cls,.int .i64 m.stack,.int .i64 m.locs,.int .i64 m.regs,.slice Cd m.code.length c,.slice Kh m.hands.length k,.int .i64 0,.slice (some ⟨sb,0,none⟩) m.code.length m.code.length,.slice none 0 0,.slice (some ⟨jb,0,none⟩) cs.length cs.length] 277)):=(Bl.refl W5).alloc _
   have hks:=lt_some KK.out
   exact ⟨W5.heap.size,_,sb,jb,R,rfl,BV.out.size,by omega,⟨BV.out.trans bz,rowBl OO.out bz,KL.out,bl_blk bz KK.out,JJ0.out.ext bz⟩,fun i hi=>⟨by have:=(JJ0.out.row i hi).2.2.1;omega,FR.out.2 i hi⟩,by (obtain ⟨cz,hz,-⟩:=JJ0.out.blk;have:=lt_some hz;omega),FR.out.1,mblk rfl⟩
 ·skip
  go_simp
  have b6:Bl V1 (V1.alloc (.cells (madeCells #[.pointer none] m.code.length) 167)):=(Bl.refl _).alloc _
  have KK:=hid (mblk (w:=V1) (cs:=madeCells #[.pointer none] m.code.length) (t:=167) rfl)
  have KL:=hid BV.out.size
  obtain ⟨sb,hsb⟩:∃sb,sb=V1.heap.size:=⟨_,rfl⟩
  skip
  replace BV:=hid (BV.out.trans b6)
  replace ZV:=hid (bl_blk b6 ZV.out)
  refine hK.out _ _ (SS.out _ ZV.out) (fun hHeld6=>?_)
  try simp only [aZ]
  clear hK b6
  rw [←hsb] at KK KL ⊢
  clear hsb
  generalize V1.alloc (.cells (madeCells #[.pointer none] m.code.length) 167)=W6 at *
  refine rd1 (i:=3) (by kernel_rfl) rfl fun K hK=>?_
  go_simp
  go_at_call 212
  refine (NS.out W6 BV.out).mono ?_
  rintro e w7 ⟨v0,rfl,b7,o7⟩
  obtain ⟨ao,qo,hvo,-,-⟩:=own_formT o7
  subst hvo
  have OO:=hid (own_base o7 BV.out.size)
  replace KK:=hid (bl_blk b7 KK.out)
  replace BV:=hid (BV.out.trans b7)
  replace ZV:=hid (bl_blk b7 ZV.out)
  clear o7 b7
  refine hK.out _ _ (SS.out _ ZV.out) (fun hHeld7=>?_)
  try simp only [aZ]
  clear hK
  refine rd1 (i:=11) (by kernel_rfl) rfl fun K hK=>?_
  go_simp
  go_at_call 213
  refine (JS.out w7 BV.out).mono ?_
  rintro e w8 ⟨jb,R,rfl,j8⟩
  have JJ0:=hid (j8.base BV.out)
  have b8:=j8.bl
  have FR:=hid (show jb≠sb∧∀i,i<cs.length→R i≠sb from ⟨fun e=>by have:=lt_some KK.out;have:=j8.lo;omega,fun i hi e=>by have:=lt_some KK.out;have:=(j8.row i hi).1;omega⟩)
  replace KK:=hid (bl_blk b8 KK.out)
  replace OO:=hid (rowBl OO.out b8)
  replace BV:=hid (BV.out.trans b8)
  replace ZV:=hid (bl_blk b8 ZV.out)
  clear j8 b8
  refine hK.out _ _ (SS.out _ ZV.out) (fun hHeld8=>?_)
  try simp only [aZ]
  clear hK
  refine tn rfl (by kernel_rfl) (fun _ _ _ h=>h) (by intro _ h;go_split_ands;go_simp<;>with_reducible rfl) hHeld8 ?_
  try simp only [aZ]
  refine rd1 (i:=13) (by kernel_rfl) rfl fun K hK=>?_
  go_simp
  refine hK.out _ _ (SS.out _ (bl_blk ((Bl.refl w8).alloc _) ZV.out)) (fun hHeldz=>?_)
  try simp only [aZ]
  clear hK
  refine tn rfl (by kernel_rfl) (fun _ _ _ h=>h) (by intro _ h;go_split_ands;go_simp<;>with_reducible rfl) hHeldz ?_
  try simp only [aZ]
  refine wpAnyH_done (by kernel_rfl) ?_ _
  go_wp2
  go_ret
  have bz:Bl w8 (w8.alloc (.cells #[.slice ao (firstT m m.regs).slots.length qo,.slice none 0 0,.slice A cs.length a,.slice P m.params.length p,.int .i64 m.ret.kind,.int .i64 m.ret.cls,.int .i64 m.stack,.int .i64 m.locs,.int .i64 m.regs,.slice Cd m.code.length c,.slice Kh m.hands.length k,.int .i64 0,.slice (some ⟨sb,0,none⟩) m.code.length m.code.length,.slice none 0 0,.slice (some ⟨jb,0,none⟩) cs.length cs.length] 277)):=(Bl.refl w8).alloc _
  have hks:=lt_some KK.out
  exact ⟨w8.heap.size,_,sb,jb,R,rfl,BV.out.size,by omega,⟨BV.out.trans bz,rowBl OO.out bz,KL.out,bl_blk bz KK.out,JJ0.out.ext bz⟩,fun i hi=>⟨by have:=(JJ0.out.row i hi).2.2.1;omega,FR.out.2 i hi⟩,by (obtain ⟨cz,hz,-⟩:=JJ0.out.blk;have:=lt_some hz;omega),FR.out.1,mblk rfl⟩
section
section
variable {X:Nat→Prop} {wx w0 w1:World} {g:Gf} {b0:Nat} {w:World} {cur:As} {at':Int} {st:List (Option As)} {wt:List Int} {rv:Nat→Value} {vw:Value} {sp:Nat→Option Nat} {f:Fi} {hv:Value}
theorem FX.less {X':Nat→Prop} (H:FX X' wx w1 g b0 w cur at' st wt) (h:∀b,X b→X' b):FX X wx w1 g b0 w cur at' st wt:=by
 obtain ⟨rv,vw,sp,K⟩:=H
 exact ⟨rv,vw,sp,⟨K.fz,K.pin,K.blk,K.row0,K.row1,K.rows,K.sep,K.sbk,K.sts,K.stn,K.inj,K.wts,fun b hb=>K.far b (h b hb),⟨K.kept.size,fun b hb=>K.kept.blk b (h b hb)⟩⟩⟩
def Xh (X:Nat→Prop) (v:Value) (b:Nat):Prop:=X b∨v.ownBlock=some b
abbrev hdW (w:World) (g:Gf) (v:Value):World:=(w.setCell ⟨g.q,2,none⟩ v).setCell ⟨g.p,1,none⟩ (.slice none 0 0)
theorem FA.hand (H:FA X wx w1 g b0 w cur at' st wt rv vw sp) (Q:Qx X wx w0 g f hv) (hq:w1.heap.size≤g.q) (hl:cur.stk.length≤3000) :
  FX (Xh X (rv 1)) (hdW w g (rv 1)) w1 g b0 (hdW w g (rv 1)) ⟨cur.slots,[]⟩ at' st wt∧Qx (Xh X (rv 1)) (hdW w g (rv 1)) w0 g f (rv 1)∧HdX (Xh X (rv 1)) (hdW w g (rv 1)) (rv 1) cur.stk∧(∀b,X b→b≠g.q→(hdW w g (rv 1)).heap[b]?=wx.heap[b]?):=by
 have F:=H.far _ Q.x
 obtain ⟨A,c,hqb,hm⟩:=Q.blk
 have hqw:w.heap[g.q]?=some (.cells #[.pointer (some ⟨g.p,0,none⟩),.slice A f.methods.length c,hv] 227 (0,0)):=(H.kept.blk _ Q.x).2.trans hqb
 have hg:=grown_set (w:=w) g.q 2 (rv 1)
 have hb:∀b o,w.heap[b]?=some o→b≠g.q→(w.setCell ⟨g.q,2,none⟩ (rv 1)).heap[b]?=some o:=fun b o h hn=>(hg.block b (lt_some h) (fun e=>hn (Option.some.inj e))).trans h
 have hown:∀{base:Nat} {e:TypeId} {sz n:Nat} {v:Value} {xs:List Value},w.ownsRow base e sz v n xs→v.ownBlock≠some g.q→(w.setCell ⟨g.q,2,none⟩ (rv 1)).ownsRow base e sz v n xs:=fun ho hf=>ho.kept hg (Or.inr hf)
 have hs2:(w.setCell ⟨g.q,2,none⟩ (rv 1)).heap.size=w.heap.size:=by simp
 have K1:FA X (w.setCell ⟨g.q,2,none⟩ (rv 1)) w1 g b0 (w.setCell ⟨g.q,2,none⟩ (rv 1)) cur at' st wt rv vw sp :=
  ⟨⟨hg.os.trans H.fz.os,hg.tape.trans H.fz.tape,hg.output.trans H.fz.output,Nat.le_trans H.fz.size hg.size,fun b hlt x1 x2=>(hg.block b (Nat.lt_of_lt_of_le hlt H.fz.size) (fun e=>by have:=Option.some.inj e;omega)).trans (H.fz.block b hlt x1 x2)⟩,H.pin,hb _ _ H.blk F.p.symm,hown H.row0 (F.r 0),hown H.row1 (F.r 1),fun r hr=>hown (H.rows r hr) (F.r r),H.sep,hb _ _ H.sbk F.s.symm,fun k b e=>⟨(H.sts k b e).1,(H.sts k b e).2.1,(H.sts k b e).2.2.1,hb _ _ (H.sts k b e).2.2.2 (fun e2=>F.k k (by rw [e,e2]))⟩,H.stn,H.inj,hown H.wts F.w,H.far,⟨Nat.le_refl _,fun b hx=>⟨by have:=(H.kept.blk b hx).1;have:=H.kept.size;omega,rfl⟩⟩⟩
 have hg2:=grown_set (w:=w.setCell ⟨g.q,2,none⟩ (rv 1)) g.p 1 (.slice none 0 0)
 have K2:=K1.newcur (w':=hdW w g (rv 1)) hg2.os hg2.tape hg2.output hg2.size (fun b hb hbp _=>hg2.block b hb (fun e=>hbp (Option.some.inj e))) (b1:=b0) (cur':=⟨cur.slots,[]⟩) (at2:=at') (v0:=rv 0) (v1:=.slice none 0 0) (by rw [block_set K1.blk];rfl) (K1.row0.kept hg2 (Or.inr (own_far K1.row0 K1.blk (by decide)))) ⟨rfl,Or.inl ⟨rfl,rfl⟩⟩ (fun b e=>Or.inl e) (fun b e=>by cases e) (fun b e e2=>by cases e2)
 have hsz:(hdW w g (rv 1)).heap.size=w.heap.size:=by simp
 have hl1:∀b,(rv 1).ownBlock=some b→b<w.heap.size:=fun b e=>(H.row1.lt b e).2
 have r1n:(fun r:Nat=>if r=0 then rv 0 else if r=1 then Value.slice none 0 0 else rv r) 1=.slice none 0 0:=rfl
 refine ⟨⟨fun r=>if r=0 then rv 0 else if r=1 then Value.slice none 0 0 else rv r,vw,sp,⟨K2.fz,K2.pin,K2.blk,K2.row0,K2.row1,K2.rows,K2.sep,K2.sbk,K2.sts,K2.stn,K2.inj,K2.wts,fun b hx=>?_,⟨Nat.le_refl _,fun b hx=>⟨?_,rfl⟩⟩⟩⟩,⟨Or.inl Q.x,A,c,?_,hm⟩,?_,fun b hx hn=>?_⟩
 ·rcases hx with hx|hx
  ·exact K2.far b hx
  ·refine ⟨fun e=>own_far H.row1 H.blk (by decide) (e▸hx),fun e=>own_far H.row1 H.sbk (by decide) (e▸hx),fun r e=>?_,fun e=>?_,fun k e=>own_far H.row1 (H.sts k b e).2.2.2 (by decide) hx⟩
   ·try dsimp only at e
    by_cases h0:r=0
    ·rw [if_pos h0] at e;exact H.sep 0 1 b (by omega) e hx
    ·rw [if_neg h0] at e
     by_cases h1:r=1
     ·rw [if_pos h1] at e;cases e
     ·rw [if_neg h1] at e;exact H.sep r 1 b h1 e hx
   ·rcases H.row1.2 with ⟨y,-⟩|⟨gb,cap,cu,y,y1,y2,-⟩
    ·rw [y] at hx;simp [Value.ownBlock] at hx
    ·rw [y] at hx;simp [Value.ownBlock] at hx;subst hx
     exact own_far H.wts y2 (by decide) e
 ·rcases hx with hx|hx
  ·have:=(H.kept.blk b hx).1;have:=H.kept.size;omega
  ·have:=hl1 b hx;omega
 ·rw [block_far F.p,block_set hqw];rfl
 ·obtain ⟨A3,cap,e1,e2,e3,e4⟩:=rowCell H.row1
  refine ⟨A3,cap,e1,hl,?_⟩
  rcases e4 with h0|⟨gb,a1,a2,⟨cu,a3,-⟩,a4⟩
  ·exact Or.inl h0
  ·have hgb:(rv 1).ownBlock=some gb:=by rw [e1,a1];rfl
   have n1:gb≠g.q:=fun e=>F.r 1 (by rw [hgb,e])
   have n2:gb≠g.p:=fun e=>own_far H.row1 H.blk (by decide) (by rw [hgb,e])
   have eb:(hdW w g (rv 1)).heap[gb]?=w.heap[gb]?:=by rw [block_far n2,block_far n1]
   exact Or.inr ⟨gb,a1,Or.inr hgb,⟨fun i hi=>⟨by rw [World.cell?_of_block eb];exact (a4 i hi).1,by rw [World.cell?_of_block eb];exact (a4 i hi).2⟩⟩⟩
 ·rw [block_far (H.far b hx).p,block_far hn]
  exact (H.kept.blk b hx).2
end
end
end Go.Proofs.YtgiiapenmjollabGreat
