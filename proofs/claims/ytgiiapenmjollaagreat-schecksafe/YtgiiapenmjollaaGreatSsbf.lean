import Derived.Test.YtgiiapenmjollaaGreatSsbe
import Derived.OwnWalk
namespace Go.Proofs.YtgiiapenmjollaaGreat
set_option linter.all false
set_option maxHeartbeats 40000000
set_option maxRecDepth 100000
open Go.RowKit
section
def LQ (f:Fi) (m:Me) (X:Nat→Prop) (wx w1:World) (g:Gf) (b0:Nat) (cur:As) (at':Int) (st:List (Option As)) (wt:List Int) (P:List (Option As)→Prop) (e:Ending) (w':World):Prop :=
 (e=upE∧FE X wx w1 g w')∨∃st' wt',e=.returned (.tuple #[])∧FX X wx w1 g b0 w' cur at' st' wt'∧Gs f m st' wt'∧Led f.classes st wt st' wt'∧P st'
section
variable {X:Nat→Prop} {wx w0 w1:World} {g:Gf} {b0:Nat} {w:World} {cur:As} {at':Int} {st:List (Option As)} {wt:List Int} {rv:Nat→Value} {vw:Value} {sp:Nat→Option Nat} {f:Fi} {m:Me}
theorem fleadW_any (C:Cx w0 w1 g f m) (a:Int) (u:Value) (stk:List Ty) (H:FA X wx w1 g b0 w cur at' st wt rv vw sp) (G:Gs f m st wt) (hu:Su w u stk rv) (hc:Wn f m ⟨cur.slots,stk⟩) (hq:Wq f m cur) :
  Calls Tryz.prog 205 #[.pointer (some ⟨g.p,0,none⟩),.int .i64 a,u] w fun e w'=>LQ f m X wx w1 g b0 cur at' st wt (fun st'=>Leads f.classes st' a ⟨cur.slots,stk⟩) e w':=by
 obtain ⟨ht,-,h12⟩:=may_tree C.may
 by_cases ha:0≤a∧a<st.length
 ·obtain ⟨k,rfl⟩:∃k:Nat,a=(k:Int):=⟨a.toNat,by omega⟩
  have hk:k<st.length:=by omega
  cases hn:nth none st k with
  | none =>
   have e1:leadT f.classes cur.slots stk k st wt=some (st.set k (some ⟨cur.slots,stk⟩),waitL wt k):=by unfold leadT;rw [hn]
   have L:=lead_led ht h12 G hc hk e1
   refine (fleadW_new (f:=f) k u stk H (G.gd hq) hu hk hn).mono ?_
   rintro e w' ⟨rfl,q⟩
   exact Or.inr ⟨_,_,rfl,q,L⟩
  | some s =>
   refine (fleadW_old C k u stk s H (G.gd hq) hu hn (fun x hx=>(hc.wq.wf.sl x hx).1) (fun x hx=>(hc.wq.wf.st x hx).1)).mono ?_
   intro e w' q
   cases hl:leadT f.classes cur.slots stk k st wt with
   | none =>
    rw [hl] at q
    exact Or.inl q
   | some p =>
    rw [hl] at q
    exact Or.inr ⟨p.1,p.2,q.1,q.2,lead_led ht h12 G hc hk hl⟩
 ·exact (fleadW_out a u ⟨_,_,_,H⟩ ha).mono (fun e w' q=>Or.inl q)
theorem flead_any (C:Cx w0 w1 g f m) (a:Int) (H:FX X wx w1 g b0 w cur at' st wt) (G:Gs f m st wt) (hc:Wn f m cur) :
  Calls Tryz.prog 169 #[.pointer (some ⟨g.p,0,none⟩),.int .i64 a] w fun e w'=>LQ f m X wx w1 g b0 cur at' st wt (fun st'=>Leads f.classes st' a cur) e w':=by
 obtain ⟨rv,vw,sp,H⟩:=H
 have hl:cur.stk.length≤1000:=by have:=hc.wq.len;omega
 have K:=hid (fleadW_any C a (rv 1) cur.stk H G (H.su (r0:=1) (by omega) H.row1 hl) hc hc.wq)
 have p1:w.cell? ⟨g.p,1,none⟩=some (rv 1):=by rw [cell_blk H.blk];rfl
 have hp:=cell_lt p1
 clear H G hc hl C
 generalize rv 1=v at *
 go_enter Tryz.func169,Tryz.ntmps169
 go_wp2_with (go_at_call 205;refine K.out.mono ?_;rintro e w2 (⟨rfl,q⟩|⟨st',wt',rfl,q⟩);exact ⟨rfl,Or.inl ⟨rfl,q⟩⟩)
 go_end0
 exact Or.inr ⟨st',wt',rfl,q⟩
theorem fnext_any (C:Cx w0 w1 g f m) (H:FX X wx w1 g b0 w cur at' st wt) (G:Gs f m st wt) (hc:Wn f m cur) (ha:0≤at'∧at'≤1000) :
  Calls Tryz.prog 177 #[.pointer (some ⟨g.p,0,none⟩)] w fun e w'=>LQ f m X wx w1 g b0 cur at' st wt (fun st'=>Leads f.classes st' (at'+1) cur) e w':=by
 have K:=hid (flead_any C (at'+1) H G hc)
 have p11:w.cell? ⟨g.p,11,none⟩=some (.int .i64 at'):=H.pc.2.2.2.2.2.2.1
 have hp:=cell_lt p11
 have hw:IntKind.i64.wrap (at'+1)=at'+1:=by rw [IntKind.wrap_i64];omega
 clear H G hc C ha
 go_enter Tryz.func177,Tryz.ntmps177
 go_wp2_with (go_at_call 169;refine K.out.mono ?_;rintro e w2 (⟨rfl,q⟩|⟨st',wt',rfl,q⟩);exact ⟨rfl,Or.inl ⟨rfl,q⟩⟩)
 go_end0
 exact Or.inr ⟨st',wt',rfl,q⟩
theorem fbranch_any (C:Cx w0 w1 g f m) (a:Int) (H:FX X wx w1 g b0 w cur at' st wt) (G:Gs f m st wt) (hc:Wn f m cur) (ha:0≤at'∧at'≤1000) :
  Calls Tryz.prog 174 #[.pointer (some ⟨g.p,0,none⟩),.int .i64 a] w fun e w'=>LQ f m X wx w1 g b0 cur at' st wt (fun st'=>Leads f.classes st' a cur∧Leads f.classes st' (at'+1) cur) e w':=by
 have K:=hid (flead_any C a H G hc)
 have HC:=hid C
 have HW:=hid hc
 have HA:=hid ha
 have HT:=hid (may_tree C.may).1
 clear H G hc C ha
 go_enter Tryz.func174,Tryz.ntmps174
 go_wp2_with (first
  | (go_at_call 169;refine K.out.mono ?_;rintro e w2 (⟨rfl,q⟩|⟨st',wt',rfl,q⟩);exact ⟨rfl,Or.inl ⟨rfl,q⟩⟩;have Q:=hid q;clear q)
  | (go_at_call 177;refine (fnext_any HC.out Q.out.1 Q.out.2.1 HW.out HA.out).mono ?_;rintro e w3 (⟨rfl,q⟩|⟨st2,wt2,rfl,q⟩);exact ⟨rfl,Or.inl ⟨rfl,q⟩⟩))
 go_end0
 exact Or.inr ⟨st2,wt2,rfl,q.1,q.2.1,Q.out.2.2.1.trans HT.out q.2.2.1,q.2.2.1.leads HT.out Q.out.2.2.2,q.2.2.2⟩
end
end
section
def hdC (h:Hd):List Value:=[.int .i64 h.fr,.int .i64 h.til,.int .i64 h.pc,.int .i64 h.cls]
def hdCs:List Hd→List Value
 | []=>[]
 | h::l=>hdC h++hdCs l
theorem hdCs_length:∀l:List Hd,(hdCs l).length=l.length*4
 | []=>rfl
 | h::l=>by
  show (hdC h++hdCs l).length=_
  rw [List.length_append,hdCs_length l,List.length_cons]
  show 4+_=_
  omega
theorem hdCs_app:∀a b:List Hd,hdCs (a++b)=hdCs a++hdCs b
 | [],b=>rfl
 | h::a,b=>by
  show hdC h++hdCs (a++b)=hdC h++hdCs a++hdCs b
  rw [hdCs_app a b,List.append_assoc]
def ovB (k:Int) (h:Hd):Bool:=decide (h.fr≤k∧k≤h.til-1)
def overL (k:Int) (l:List Hd):List Hd:=l.filter (ovB k)
theorem over_succ (k:Int) (l:List Hd) {q:Nat} (hq:q<l.length):overL k (l.take (q+1))=overL k (l.take q)++(if ovB k (nth hd0 l q)=true then [nth hd0 l q] else []):=by
 unfold overL
 rw [List.take_add_one,List.filter_append,nth_get hq,List.getElem?_eq_getElem hq]
 show _++List.filter (ovB k) [l[q]]=_
 by_cases h:ovB k l[q]=true
 ·rw [if_pos h,List.filter_cons_of_pos h];rfl
 ·rw [if_neg h,List.filter_cons_of_neg h];rfl
theorem over_le (k:Int) (l:List Hd) (q:Nat):(overL k (l.take q)).length≤l.length:=by
 unfold overL
 have h1:=List.length_filter_le (ovB k) (l.take q)
 rw [List.length_take] at h1
 omega
theorem info_hd:(Tryz.prog.info? 108).map (fun i=>(i.zero,i.size,i.bytes))=some (some (.agg #[.int .i64 0,.int .i64 0,.int .i64 0,.int .i64 0]),4,32):=by kernel_rfl
section
variable {X:Nat→Prop} {wx w0 w1:World} {g:Gf} {b0:Nat} {w:World} {cur:As} {at':Int} {st:List (Option As)} {wt:List Int} {f:Fi} {m:Me}
theorem fover_any (C:Cx w0 w1 g f m) (H:FX X wx w1 g b0 w cur at' st wt) (hl:m.hands.length≤8) (ho:∀x∈m.hands,0≤x.til∧x.til≤1000) :
  Calls Tryz.prog 207 #[.pointer (some ⟨g.p,0,none⟩)] w fun e w'=>∃v,e=.returned v∧w'.ownsRow w.heap.size 108 4 v (overL at' m.hands).length (hdCs (overL at' m.hands))∧Bl w w':=by
 obtain ⟨i0,hi0,hz0,hz1,hz2⟩:=info_partsT info_hd
 obtain ⟨A,c,h10,hA⟩:=C.hands
 have p10:w.cell? ⟨g.p,10,none⟩=some (.slice A m.hands.length c):=by have:=H.pc.2.2.2.2.2.1;rw [h10] at this;exact this
 have p11:=hid H.pc.2.2.2.2.2.2.1
 have HA:=hid (hA.bl (C.bl0 H))
 have hp:=cell_lt p10
 clear H C h10 hA
 generalize m.hands=l at *
 go_enter Tryz.func207,Tryz.ntmps207
 go_wp2
 go_loopw [3,12] (fun u i wr=>∃q:Nat,q≤l.length∧i=.int .i64 q∧Hid (wr.ownsRow w.heap.size 108 4 u (overL at' (l.take q)).length (hdCs (overL at' (l.take q))))∧Hid (Bl w wr)) (fun _ i _=>l.length-(intOf i).toNat)
 case atStart=>exact ⟨0,Nat.zero_le _,rfl,hid (World.ownsRow_nil _ _ _ _),hid (Bl.refl w)⟩
 case round =>
  obtain ⟨q,hq,rfl,RR,BB⟩:=hrel
  by_cases hql:q<l.length
  ·rcases (HA.out.bl BB.out).2 with z0|⟨b,off,rfl,hcell⟩
   ·omega
   obtain ⟨x0,x1,x2,x3,-⟩:=hcell q hql
   have oo:=ho _ (show nth hd0 l q∈l by rw [nth_get hql];exact List.getElem_mem hql)
   have hb:=cell_lt x0
   have k11:=BB.out.cell p11.out
   have hpl:=cell_lt k11
   have SS:=hid (over_succ at' l hql)
   have HQ:=hid hql
   have hk0:(0:Int)≤(q:Int):=by omega
   have hk1:(q:Int)<(l.length:Int):=by omega
   have LE:=hid (over_le at' l q)
   clear hcell
   generalize nth hd0 l q=x at *
   have hw:IntKind.i64.wrap (x.til-1)=x.til-1:=by rw [IntKind.wrap_i64];omega
   clear oo
   obtain ⟨au,cu,hu,-,hcm⟩:=own_formT RR.out
   subst hu
   have ZB:=hid (mblk (w:=wr) (cs:=#[.int .i64 x.fr,.int .i64 x.til,.int .i64 x.pc,.int .i64 x.cls]) (t:=108) rfl)
   have BA:Hid (Bl wr (wr.alloc (.cells #[.int .i64 x.fr,.int .i64 x.til,.int .i64 x.pc,.int .i64 x.cls] 108))):=(Bl.refl wr).alloc _
   cases hv:ovB at' x with
   | false =>
    have HV:Hid (decide (x.fr≤at'∧at'≤x.til-1)=false):=hv
    rw [hv] at SS
    clear hv
    go_wp2
    go_quiet ((go_at_call 35;exact Calls.quiet_of_same ((span_any _ _ _ _).mono fun e w' hh=>⟨hh.1.trans (ret_bool HV.out),hh.2⟩)))
    go_wp2
    go_roundw
    case rel =>
     refine ⟨q+1,by omega,by go_num,?_,hid (BB.out.trans (BA.out.trans (bl_drewN (Bl.refl _) _)))⟩
     rw [SS.out,if_neg (by decide),List.append_nil]
     exact hid (rowBl RR.out (BA.out.trans (bl_drewN (Bl.refl _) _)))
    case measure=>simp [intOf];omega
   | true =>
    have HV:Hid (decide (x.fr≤at'∧at'≤x.til-1)=true):=hv
    rw [hv,if_pos rfl] at SS
    clear hv
    go_wp2
    go_quiet ((go_at_call 35;exact Calls.quiet_of_same ((span_any _ _ _ _).mono fun e w' hh=>⟨hh.1.trans (ret_bool HV.out),hh.2⟩)))
    have BV:=hid (BA.out.trans (bl_drewN (Bl.refl _) nq))
    have ZV:=hid (bl_blk (bl_drewN (Bl.refl _) nq) ZB.out)
    have RV0:=hid (rowBl RR.out BV.out)
    clear BA ZB x0 x1 x2 x3 k11
    generalize (wr.alloc (.cells #[.int .i64 x.fr,.int .i64 x.til,.int .i64 x.pc,.int .i64 x.cls] 108)).drewN nq=V at *
    have z0:V.cell? ⟨wr.heap.size,0,none⟩=some (.int .i64 x.fr):=by rw [cell_blk ZV.out];rfl
    have z1:V.cell? ⟨wr.heap.size,1,none⟩=some (.int .i64 x.til):=by rw [cell_blk ZV.out];rfl
    have z2:V.cell? ⟨wr.heap.size,2,none⟩=some (.int .i64 x.pc):=by rw [cell_blk ZV.out];rfl
    have z3:V.cell? ⟨wr.heap.size,3,none⟩=some (.int .i64 x.cls):=by rw [cell_blk ZV.out];rfl
    have hzl:=cell_lt z0
    go_wp2_with (at_builtin;refine wpList_append_own _ rfl _ _ 47 rfl w.heap.size 108 i0 _ 4 32 Tryz.underlying47 hi0 hz0 hz1 hz2 rfl (by omega) _ _ _ rfl (rowBl RV0.out ((Bl.refl V).alloc _)) ⟨V.heap.size,0,none⟩ 1 1 (hdC x) rfl rfl ?qc2 ?qc3 ?qc4 ?qc5 ?qc6 ?_)
    case qc2=>exact World.news_of_block (cs:=#[.int .i64 x.fr,.int .i64 x.til,.int .i64 x.pc,.int .i64 x.cls]) (t:=108) (fr:=(0,0)) (mblk rfl)
    case qc3=>unfold hdC;simp [Value.oneCell']
    case qc4=>have:=LE.out;unfold maxLen;omega
    case qc5=>have:=LE.out;omega
    case qc6=>have:=BB.out.size;have:=BV.out.size;simp;omega
    intro v' w2 hown hgrow hnil
    have W2:Hid (Bl w w2):=((Below.refl _ w).trans (BB.out.trans (BV.out.alloc _))).grown hgrow (by have:=BB.out.size;have:=BV.out.size;simp;omega) (by intro k hk;exact ((rowBl RV0.out ((Bl.refl V).alloc (.cells #[.int .i64 x.fr,.int .i64 x.til,.int .i64 x.pc,.int .i64 x.cls] 108))).lt k hk).1)
    have O2:=hid hown
    clear hown hgrow hnil
    go_wp2
    go_roundw
    case rel =>
     refine ⟨q+1,by omega,by go_num,?_,W2⟩
     rw [SS.out,hdCs_app,List.length_append]
     exact hid (by simpa [hdCs] using O2.out)
    case measure=>simp [intOf];omega
  ·have hqe:q=l.length:=by omega
   subst hqe
   rw [List.take_length] at RR
   go_wp2
   go_ret
   exact ⟨_,rfl,RR.out,BB.out⟩
end
end
section
theorem hdCs_at:∀(l:List Hd) (q:Nat),q<l.length→(hdCs l)[q*4]?=some (.int .i64 (nth hd0 l q).fr)∧(hdCs l)[q*4+1]?=some (.int .i64 (nth hd0 l q).til)∧(hdCs l)[q*4+2]?=some (.int .i64 (nth hd0 l q).pc)∧(hdCs l)[q*4+3]?=some (.int .i64 (nth hd0 l q).cls)
 | [],q,h=>absurd h (by simp)
 | x::l,0,h=>⟨rfl,rfl,rfl,rfl⟩
 | x::l,q+1,h=>by
  have ih:=hdCs_at l q (by simpa using h)
  have e:∀j,(hdCs (x::l))[(q+1)*4+j]?=(hdCs l)[q*4+j]?:=fun j=>by
   show (hdC x++hdCs l)[(q+1)*4+j]?=_
   rw [List.getElem?_append_right (by show 4≤_;omega)]
   show (hdCs l)[(q+1)*4+j-4]?=_
   rw [show (q+1)*4+j-4=q*4+j by omega]
  exact ⟨(e 0).trans ih.1,(e 1).trans ih.2.1,(e 2).trans ih.2.2.1,(e 3).trans ih.2.2.2⟩
theorem rowHd {w:World} {base:Nat} {e:TypeId} {v:Value} {l:List Hd} (h:w.ownsRow base e 4 v l.length (hdCs l)) (hl:0<l.length):∃gb cap,v=.slice (some ⟨gb,0,none⟩) l.length cap∧base≤gb∧gb<w.heap.size∧∃o,w.heap[gb]?=some o∧∀w':World,w'.heap[gb]?=some o→∀q,q<l.length→w'.cell? ⟨gb,q*4,none⟩=some (.int .i64 (nth hd0 l q).fr)∧w'.cell? ⟨gb,q*4+1,none⟩=some (.int .i64 (nth hd0 l q).til)∧w'.cell? ⟨gb,q*4+2,none⟩=some (.int .i64 (nth hd0 l q).pc)∧w'.cell? ⟨gb,q*4+3,none⟩=some (.int .i64 (nth hd0 l q).cls):=by
 obtain ⟨h1,h2|⟨gb,cap,cu,e1,h3,h4,h5,h6,h7,h8⟩⟩:=h
 ·omega
 ·refine ⟨gb,cap,e1,h3,lt_some h4,_,h4,fun w' hw q hq=>?_⟩
  have hc:∀j u,(hdCs l)[j]?=some u→w'.cell? ⟨gb,j,none⟩=some u:=fun j u hj=>by
   have hjl:=(List.getElem?_eq_some_iff.1 hj).1
   rw [hdCs_length] at hjl
   rw [←h8,List.getElem?_take,if_pos hjl] at hj
   simp only [World.cell?,hw]
   simpa using hj
  have:=hdCs_at l q hq
  exact ⟨hc _ _ this.1,hc _ _ this.2.1,hc _ _ this.2.2.1,hc _ _ this.2.2.2⟩
section
variable {X:Nat→Prop} {wx w0 w1:World} {g:Gf} {b0:Nat} {w:World} {cur:As} {at':Int} {st:List (Option As)} {wt:List Int} {f:Fi} {m:Me}
theorem Wn.hand {s:As} (h:Wn f m s) {c:Int} (h0:0≤c) (h1:c<f.classes.length):Wn f m ⟨s.slots,[⟨3,c⟩]⟩:=by
 refine ⟨⟨⟨h.wq.wf.len,h.wq.wf.pair,h.wq.wf.sl,fun t ht=>?_⟩,by show 1≤100;omega⟩,⟨h.nr.sl,fun t ht=>?_⟩⟩
 ·rw [List.mem_singleton.1 ht];exact ⟨fun _=>Or.inr ⟨h0,h1⟩,by show (1:Int)≤3;omega,by show (3:Int)≤3;omega⟩
 ·rw [List.mem_singleton.1 ht];exact fun e=>absurd rfl e
theorem fthrow_any (C:Cx w0 w1 g f m) (H:FX X wx w1 g b0 w cur at' st wt) (G:Gs f m st wt) (hc:Wn f m cur) (hl:m.hands.length≤8) (ho:∀x∈m.hands,(0≤x.til∧x.til≤1000)∧0≤x.cls∧x.cls<f.classes.length) :
  Calls Tryz.prog 172 #[.pointer (some ⟨g.q,0,none⟩)] w fun e w'=>LQ f m X wx w1 g b0 cur at' st wt (fun st'=>∀x∈overL at' m.hands,m.stack≠0∧Leads f.classes st' x.pc ⟨cur.slots,[⟨3,x.cls⟩]⟩) e w':=by
 have K:=hid (fover_any C H hl (fun x hx=>(ho x hx).1))
 have HO:Hid (∀x∈overL at' m.hands,0≤x.cls∧x.cls<f.classes.length):=fun x hx=>(ho x (List.mem_filter.1 hx).1).2
 have HL:Hid ((overL at' m.hands).length≤8):=by have:=over_le at' m.hands m.hands.length;rw [List.take_length] at this;show _≤8;omega
 have q0:=C.q0 H
 have hq:=cell_lt q0
 have HC:=hid C
 have HH:=hid H
 have HG:=hid G
 have HW:=hid hc
 have HT:=hid (may_tree C.may).1
 have HRM:=hid C.room
 clear C H G hc hl ho
 generalize overL at' m.hands=l at *
 go_enter Tryz.func172,Tryz.ntmps172
 go_wp2_with (go_at_call 207;refine K.out.mono ?_;rintro e w2 ⟨v,rfl,o2,b2⟩;obtain ⟨au,cu,hu,-,-⟩:=own_formT o2;subst hu;have O2:=hid o2;have B2:=hid b2;clear o2 b2)
 have F2:=hid (HH.out.wide B2.out)
 clear q0 hq K
 go_loopw [10] (fun i wr=>∃(q:Nat) (st':List (Option As)) (wt':List Int),q≤l.length∧i=.int .i64 q∧Hid (FX (Xf X w.heap.size w2.heap.size) w2 w1 g b0 wr cur at' st' wt'∧Gs f m st' wt'∧Led f.classes st wt st' wt'∧∀j,j<q→m.stack≠0∧Leads f.classes st' (nth hd0 l j).pc ⟨cur.slots,[⟨3,(nth hd0 l j).cls⟩]⟩)) (fun i _=>l.length-(intOf i).toNat)
 case atStart=>exact ⟨0,st,wt,Nat.zero_le _,rfl,F2.out,HG.out,Led.refl _ _ _,fun j hj=>by omega⟩
 case round =>
  obtain ⟨q,st',wt',hql0,rfl,RR⟩:=hrel
  by_cases hql:q<l.length
  ·obtain ⟨gb,cap,ev,e1,e2,ob,e3,e4⟩:=rowHd O2.out (by omega)
   have ea:au=some ⟨gb,0,none⟩:=by injection ev
   subst ea
   obtain ⟨x0,x1,x2,x3⟩:=e4 wr (RR.out.1.box e1 e2 e3) q hql
   have hbl:=cell_lt x0
   have hxm:Hid (0≤(nth hd0 l q).cls∧(nth hd0 l q).cls<f.classes.length):=HO.out _ (by rw [nth_get hql];exact List.getElem_mem hql)
   have LS:Hid (∀P:Hd→Prop,(∀j,j<q→P (nth hd0 l j))→P (nth hd0 l q)→∀j,j<q+1→P (nth hd0 l j)):=fun P h1 h2 j hj=>by
    by_cases e:j=q
    ·rw [e];exact h2
    ·exact h1 j (by omega)
   have hk0:(0:Int)≤(q:Int):=by omega
   have hk1:(q:Int)<(l.length:Int):=by omega
   clear ev e1 e2 e3 e4 ob
   generalize nth hd0 l q=x at *
   have ZB:=hid (mblk (w:=wr) (cs:=#[.int .i64 x.fr,.int .i64 x.til,.int .i64 x.pc,.int .i64 x.cls]) (t:=108) rfl)
   have BA:Hid (Bl wr (wr.alloc (.cells #[.int .i64 x.fr,.int .i64 x.til,.int .i64 x.pc,.int .i64 x.cls] 108))):=(Bl.refl wr).alloc _
   have q0:=HC.out.q0 RR.out.1
   have hq0:=cell_lt q0
   have p6:wr.cell? ⟨g.p,6,none⟩=some (.int .i64 m.stack):=by have:=RR.out.1.pc.2.2.2.1;rw [HRM.out] at this;exact this
   have hp6:=cell_lt p6
   by_cases hs:m.stack=0
   ·have hz:(m.stack==0)=true:=by simpa using hs
    clear hs
    go_wp2_with (go_at_call 208;refine (up_any _).mono ?_;rintro e w7 ⟨rfl,hw⟩;rw [hw];clear hw w7)
    exact ⟨rfl,Or.inl ⟨rfl,FE.back HH.out B2.out (FX.fe (RR.out.1.bl BA.out))⟩⟩
   ·have hz:(m.stack==0)=false:=by simpa using hs
    have HS:=hid hs
    clear hs
    go_wp2
    clear x0 x1 x2 x3 q0 hq0 p6 hp6 hbl hz
    have FA0:=hid (RR.out.1.wide BA.out)
    have hwl:=lt_some ZB.out
    have WN:=hid (HW.out.hand hxm.out.1 hxm.out.2)
    generalize wr.alloc (.cells #[.int .i64 x.fr,.int .i64 x.til,.int .i64 x.pc,.int .i64 x.cls] 108)=V at *
    have s0:=HC.out.q0 FA0.out
    have hqv:=cell_lt s0
    have s2:V.cell? ⟨wr.heap.size,2,none⟩=some (.int .i64 x.pc):=by rw [cell_blk ZB.out];rfl
    have s3:V.cell? ⟨wr.heap.size,3,none⟩=some (.int .i64 x.cls):=by rw [cell_blk ZB.out];rfl
    refine wp_region_held_drew (S:=fun w'=>w'.cell? ⟨g.q,0,none⟩=some (.pointer (some ⟨g.p,0,none⟩))∧w'.cell? ⟨wr.heap.size,2,none⟩=some (.int .i64 x.pc)∧w'.cell? ⟨wr.heap.size,3,none⟩=some (.int .i64 x.cls)) (by kernel_rfl) ?_ (fun hHeld0=>?_)
    ·exact ⟨s0,s2,s3⟩
    clear s0 s2 s3
    iterate 8 (refine tn rfl (by kernel_rfl) (fun _ _ _ h=>h) (by intro _ h;go_split_ands;go_simp<;>with_reducible rfl) hHeld0 ?_;try simp only [aZ])
    refine rd1 (i:=8) (by kernel_rfl) rfl fun K hK=>?_
    go_simp
    go_at_call 209
    refine (fref_any x.cls V.drew).mono ?_
    rintro e w3 ⟨rfl,b3⟩
    have B3:=hid ((Bl.refl V).drew.trans b3)
    clear b3
    have Z3:=hid (bl_blk B3.out ZB.out)
    have F3:=hid (FA0.out.bl B3.out)
    have h3s:∀o,(w3.alloc o).cell? ⟨g.q,0,none⟩=some (.pointer (some ⟨g.p,0,none⟩))∧(w3.alloc o).cell? ⟨wr.heap.size,2,none⟩=some (.int .i64 x.pc)∧(w3.alloc o).cell? ⟨wr.heap.size,3,none⟩=some (.int .i64 x.cls):=fun o=>⟨((Bl.refl w3).alloc o).cell (HC.out.q0 F3.out),((Bl.refl w3).alloc o).cell (by rw [cell_blk Z3.out];rfl),((Bl.refl w3).alloc o).cell (by rw [cell_blk Z3.out];rfl)⟩
    replace h3s:=hid h3s
    refine hK.out _ _ ⟨HC.out.q0 F3.out,by rw [cell_blk Z3.out];rfl,by rw [cell_blk Z3.out];rfl⟩ (fun hHeld1=>?_)
    try simp only [aZ]
    refine rd1 (i:=9) (by kernel_rfl) rfl fun K hK=>?_
    go_simp
    refine hK.out _ _ (h3s.out _) (fun hHeld2=>?_)
    try simp only [aZ]
    refine rd1 (i:=10) (by kernel_rfl) rfl fun K hK=>?_
    go_simp
    go_at_call 205
    obtain ⟨rv,vw,sp,F5⟩:=id F3.out
    have F4:=F5.bl ((Bl.refl w3).alloc (.cells #[.int .i64 3,.int .i64 x.cls] 233))
    refine (fleadW_any HC.out x.pc _ [⟨3,x.cls⟩] F4 RR.out.2.1 ?su WN.out HW.out.wq).mono ?_
    case su =>
     refine ⟨_,_,rfl,by show 1≤1000;omega,Or.inr ⟨w3.heap.size,rfl,⟨fun j hj=>?_⟩,fun r hr e=>?_⟩⟩
     ·have:j=0:=by simpa using hj
      subst this
      have hb:=mblk (w:=w3) (cs:=#[.int .i64 3,.int .i64 x.cls]) (t:=233) rfl
      exact ⟨c0_of hb,c1_of hb⟩
     ·have:=F5.lt0 _ _ e
      omega
    rintro e w5 (⟨rfl,f5⟩|⟨st2,wt2,rfl,f5,g5,l5,p5⟩)
    ·exact ⟨rfl,Or.inl ⟨rfl,FE.back HH.out B2.out (FE.back RR.out.1 BA.out f5)⟩⟩
    have Z5:=hid (f5.box (Nat.le_refl _) hwl ZB.out)
    have N5:Hid (FX (Xf X w.heap.size w2.heap.size) w2 w1 g b0 w5 cur at' st2 wt2∧Gs f m st2 wt2∧Led f.classes st wt st2 wt2∧∀j,j<q+1→m.stack≠0∧Leads f.classes st2 (nth hd0 l j).pc ⟨cur.slots,[⟨3,(nth hd0 l j).cls⟩]⟩):=⟨RR.out.1.back BA.out f5,g5,RR.out.2.2.1.trans HT.out l5,LS.out (fun y=>m.stack≠0∧Leads f.classes st2 y.pc ⟨cur.slots,[⟨3,y.cls⟩]⟩) (fun j hj=>⟨HS.out,l5.leads HT.out (RR.out.2.2.2 j hj).2⟩) ⟨HS.out,p5⟩⟩
    have q5:=HC.out.q0 f5
    refine hK.out _ _ ⟨q5,by rw [cell_blk Z5.out];rfl,by rw [cell_blk Z5.out];rfl⟩ (fun hHeld3=>?_)
    clear f5 g5 l5 p5 F4 F5 q5 hHeld0 hHeld1 hHeld2 hHeld3 hK
    try simp only [aZ]
    refine wpAnyH_done (by kernel_rfl) ?_ _
    have h8:=HL.out
    go_wp2
    go_roundw
    case rel=>exact ⟨q+1,st2,wt2,by omega,by go_num,N5⟩
    case measure=>simp [intOf];omega
  ·have hqe:q=l.length:=by omega
   subst hqe
   go_wp2
   go_end0
   exact Or.inr ⟨st',wt',rfl,HH.out.back B2.out RR.out.1,RR.out.2.1,RR.out.2.2.1,fun x hx=>by
    obtain ⟨j,hj,rfl⟩:=List.getElem_of_mem hx
    have:=RR.out.2.2.2 j hj
    rw [nth_get hj] at this
    exact this⟩
end
end
section
section
variable {X:Nat→Prop} {wx w0 w1:World} {g:Gf} {b0:Nat} {w:World} {cur s:As} {at':Int} {st:List (Option As)} {wt:List Int} {f:Fi} {m:Me} {v t:Ty} {k:Int}
theorem fwork1 (C:Cx w0 w1 g f m) (W:Wq f m cur) (ia ib:Int) (ic ii:Int) (A0:Option Addr) (n0 k0:Nat) (H:FX X wx w1 g b0 w cur at' st wt) :
  Calls Tryz.prog 176 #[.pointer (some ⟨g.q,0,none⟩),insV 1 ia ib ic ii (.slice A0 n0 k0)] w fun e w'=>AsQ X wx w1 g b0 at' st wt (putT m.stack ⟨1,0⟩ cur) e w':=by
 have HB:Hid (Bl w (w.alloc (insO 1 ia ib ic ii (.slice A0 n0 k0)))):=(Bl.refl w).alloc _
 have hm30:m.stack≤30:=(smeP C.me).2.1
 have F0:=hid (H.wide HB.out)
 have HC:=hid C
 have HH:=hid H
 have W0:=hid W
 have ZB:=hid (mblk (w:=w) (cs:=#[.int .i64 1,.int .i64 ia,.int .i64 ib,.int .i64 ic,.int .i64 ii,.slice A0 n0 k0]) (t:=55) rfl)
 obtain ⟨r,hr⟩:∃r,r=(putT m.stack ⟨1,0⟩ cur):=⟨_,rfl⟩
 rw [←hr]
 replace hr:=hid hr
 clear C W H
 cases h1:putT m.stack ⟨1,0⟩ cur with
 | none =>
  have H1:=hid h1
  clear h1
  have EE:Hid (r=none):=by show r=_;rw [hr.out];simp only [H1.out,Option.bind_some,Option.bind_none]
  go_enter Tryz.func176,Tryz.ntmps176
  go_wp2_with (first
   | (have:=P0i;go_at_call 213;refine (fput_n HC.out W0.out (tok1 _) P0i.out H1.out).mono ?_;rintro e wz ⟨rfl,fz⟩)
   | (have:=F0;go_at_call 214;refine (fint_any _).mono ?_;rintro e wp0 ⟨rfl,bp0⟩;have P0i:=hid (FX.bl F0.out bp0);have Zp0:=hid (P0i.out.box (Nat.le_refl _) (by simp) ZB.out);clear bp0))
  refine ⟨rfl,?_⟩
  rw [EE.out]
  exact ⟨rfl,FE.back HH.out HB.out fz⟩
 | some s1 =>
  have H1:=hid h1
  clear h1
  have EE:Hid (r=some s1):=by show r=_;rw [hr.out];simp only [H1.out,Option.bind_some]
  go_enter Tryz.func176,Tryz.ntmps176
  go_wp2_with (first
   | (have:=P0i;go_at_call 213;refine (fput_y HC.out W0.out (tok1 _) P0i.out H1.out).mono ?_;rintro e y1 ⟨rfl,f1⟩;have F1:=hid f1;have Z1:=hid (f1.box (Nat.le_refl _) (by simp) ZB.out);have c1_0:=(cell_blk (i:=0) Z1.out).trans rfl;have c1_1:=(cell_blk (i:=1) Z1.out).trans rfl;have c1_2:=(cell_blk (i:=2) Z1.out).trans rfl;have c1_3:=(cell_blk (i:=3) Z1.out).trans rfl;have c1_4:=(cell_blk (i:=4) Z1.out).trans rfl;have c1_5:=(cell_blk (i:=5) Z1.out).trans rfl;clear f1)
   | (have:=F0;go_at_call 214;refine (fint_any _).mono ?_;rintro e wp0 ⟨rfl,bp0⟩;have P0i:=hid (FX.bl F0.out bp0);have Zp0:=hid (P0i.out.box (Nat.le_refl _) (by simp) ZB.out);clear bp0))
  go_end0
  rw [EE.out]
  exact ⟨rfl,FX.back HH.out HB.out F1.out⟩
theorem fwork2 (C:Cx w0 w1 g f m) (W:Wq f m cur) (ia ib:Int) (ic ii:Int) (A0:Option Addr) (n0 k0:Nat) (H:FX X wx w1 g b0 w cur at' st wt) :
  Calls Tryz.prog 176 #[.pointer (some ⟨g.q,0,none⟩),insV 2 ia ib ic ii (.slice A0 n0 k0)] w fun e w'=>AsQ X wx w1 g b0 at' st wt (putT m.stack ⟨2,0⟩ cur) e w':=by
 have HB:Hid (Bl w (w.alloc (insO 2 ia ib ic ii (.slice A0 n0 k0)))):=(Bl.refl w).alloc _
 have hm30:m.stack≤30:=(smeP C.me).2.1
 have F0:=hid (H.wide HB.out)
 have HC:=hid C
 have HH:=hid H
 have W0:=hid W
 have ZB:=hid (mblk (w:=w) (cs:=#[.int .i64 2,.int .i64 ia,.int .i64 ib,.int .i64 ic,.int .i64 ii,.slice A0 n0 k0]) (t:=55) rfl)
 obtain ⟨r,hr⟩:∃r,r=(putT m.stack ⟨2,0⟩ cur):=⟨_,rfl⟩
 rw [←hr]
 replace hr:=hid hr
 clear C W H
 cases h1:putT m.stack ⟨2,0⟩ cur with
 | none =>
  have H1:=hid h1
  clear h1
  have EE:Hid (r=none):=by show r=_;rw [hr.out];simp only [H1.out,Option.bind_some,Option.bind_none]
  go_enter Tryz.func176,Tryz.ntmps176
  go_wp2_with (first
   | (have:=P0l;go_at_call 213;refine (fput_n HC.out W0.out (tok2 _) P0l.out H1.out).mono ?_;rintro e wz ⟨rfl,fz⟩)
   | (have:=F0;go_at_call 215;refine (flong_any _).mono ?_;rintro e wp0 ⟨rfl,bp0⟩;have P0l:=hid (FX.bl F0.out bp0);have Zp0:=hid (P0l.out.box (Nat.le_refl _) (by simp) ZB.out);clear bp0))
  refine ⟨rfl,?_⟩
  rw [EE.out]
  exact ⟨rfl,FE.back HH.out HB.out fz⟩
 | some s1 =>
  have H1:=hid h1
  clear h1
  have EE:Hid (r=some s1):=by show r=_;rw [hr.out];simp only [H1.out,Option.bind_some]
  go_enter Tryz.func176,Tryz.ntmps176
  go_wp2_with (first
   | (have:=P0l;go_at_call 213;refine (fput_y HC.out W0.out (tok2 _) P0l.out H1.out).mono ?_;rintro e y1 ⟨rfl,f1⟩;have F1:=hid f1;have Z1:=hid (f1.box (Nat.le_refl _) (by simp) ZB.out);have c1_0:=(cell_blk (i:=0) Z1.out).trans rfl;have c1_1:=(cell_blk (i:=1) Z1.out).trans rfl;have c1_2:=(cell_blk (i:=2) Z1.out).trans rfl;have c1_3:=(cell_blk (i:=3) Z1.out).trans rfl;have c1_4:=(cell_blk (i:=4) Z1.out).trans rfl;have c1_5:=(cell_blk (i:=5) Z1.out).trans rfl;clear f1)
   | (have:=F0;go_at_call 215;refine (flong_any _).mono ?_;rintro e wp0 ⟨rfl,bp0⟩;have P0l:=hid (FX.bl F0.out bp0);have Zp0:=hid (P0l.out.box (Nat.le_refl _) (by simp) ZB.out);clear bp0))
  go_end0
  rw [EE.out]
  exact ⟨rfl,FX.back HH.out HB.out F1.out⟩
theorem fwork25 (C:Cx w0 w1 g f m) (W:Wq f m cur) (ia ib:Int) (ic ii:Int) (A0:Option Addr) (n0 k0:Nat) (H:FX X wx w1 g b0 w cur at' st wt) :
  Calls Tryz.prog 176 #[.pointer (some ⟨g.q,0,none⟩),insV 25 ia ib ic ii (.slice A0 n0 k0)] w fun e w'=>AsQ X wx w1 g b0 at' st wt (putT m.stack ⟨2,0⟩ cur) e w':=by
 have HB:Hid (Bl w (w.alloc (insO 25 ia ib ic ii (.slice A0 n0 k0)))):=(Bl.refl w).alloc _
 have hm30:m.stack≤30:=(smeP C.me).2.1
 have F0:=hid (H.wide HB.out)
 have HC:=hid C
 have HH:=hid H
 have W0:=hid W
 have ZB:=hid (mblk (w:=w) (cs:=#[.int .i64 25,.int .i64 ia,.int .i64 ib,.int .i64 ic,.int .i64 ii,.slice A0 n0 k0]) (t:=55) rfl)
 obtain ⟨r,hr⟩:∃r,r=(putT m.stack ⟨2,0⟩ cur):=⟨_,rfl⟩
 rw [←hr]
 replace hr:=hid hr
 clear C W H
 cases h1:putT m.stack ⟨2,0⟩ cur with
 | none =>
  have H1:=hid h1
  clear h1
  have EE:Hid (r=none):=by show r=_;rw [hr.out];simp only [H1.out,Option.bind_some,Option.bind_none]
  go_enter Tryz.func176,Tryz.ntmps176
  go_wp2_with (first
   | (have:=P0l;go_at_call 213;refine (fput_n HC.out W0.out (tok2 _) P0l.out H1.out).mono ?_;rintro e wz ⟨rfl,fz⟩)
   | (have:=F0;go_at_call 215;refine (flong_any _).mono ?_;rintro e wp0 ⟨rfl,bp0⟩;have P0l:=hid (FX.bl F0.out bp0);have Zp0:=hid (P0l.out.box (Nat.le_refl _) (by simp) ZB.out);clear bp0))
  refine ⟨rfl,?_⟩
  rw [EE.out]
  exact ⟨rfl,FE.back HH.out HB.out fz⟩
 | some s1 =>
  have H1:=hid h1
  clear h1
  have EE:Hid (r=some s1):=by show r=_;rw [hr.out];simp only [H1.out,Option.bind_some]
  go_enter Tryz.func176,Tryz.ntmps176
  go_wp2_with (first
   | (have:=P0l;go_at_call 213;refine (fput_y HC.out W0.out (tok2 _) P0l.out H1.out).mono ?_;rintro e y1 ⟨rfl,f1⟩;have F1:=hid f1;have Z1:=hid (f1.box (Nat.le_refl _) (by simp) ZB.out);have c1_0:=(cell_blk (i:=0) Z1.out).trans rfl;have c1_1:=(cell_blk (i:=1) Z1.out).trans rfl;have c1_2:=(cell_blk (i:=2) Z1.out).trans rfl;have c1_3:=(cell_blk (i:=3) Z1.out).trans rfl;have c1_4:=(cell_blk (i:=4) Z1.out).trans rfl;have c1_5:=(cell_blk (i:=5) Z1.out).trans rfl;clear f1)
   | (have:=F0;go_at_call 215;refine (flong_any _).mono ?_;rintro e wp0 ⟨rfl,bp0⟩;have P0l:=hid (FX.bl F0.out bp0);have Zp0:=hid (P0l.out.box (Nat.le_refl _) (by simp) ZB.out);clear bp0))
  go_end0
  rw [EE.out]
  exact ⟨rfl,FX.back HH.out HB.out F1.out⟩
theorem fwork3 (C:Cx w0 w1 g f m) (W:Wq f m cur) (ia ib:Int) (ic ii:Int) (A0:Option Addr) (n0 k0:Nat) (H:FX X wx w1 g b0 w cur at' st wt) :
  Calls Tryz.prog 176 #[.pointer (some ⟨g.q,0,none⟩),insV 3 ia ib ic ii (.slice A0 n0 k0)] w fun e w'=>AsQ X wx w1 g b0 at' st wt (putT m.stack ⟨3,-1⟩ cur) e w':=by
 have HB:Hid (Bl w (w.alloc (insO 3 ia ib ic ii (.slice A0 n0 k0)))):=(Bl.refl w).alloc _
 have hm30:m.stack≤30:=(smeP C.me).2.1
 have F0:=hid (H.wide HB.out)
 have HC:=hid C
 have HH:=hid H
 have W0:=hid W
 have ZB:=hid (mblk (w:=w) (cs:=#[.int .i64 3,.int .i64 ia,.int .i64 ib,.int .i64 ic,.int .i64 ii,.slice A0 n0 k0]) (t:=55) rfl)
 obtain ⟨r,hr⟩:∃r,r=(putT m.stack ⟨3,-1⟩ cur):=⟨_,rfl⟩
 rw [←hr]
 replace hr:=hid hr
 clear C W H
 cases h1:putT m.stack ⟨3,-1⟩ cur with
 | none =>
  have H1:=hid h1
  clear h1
  have EE:Hid (r=none):=by show r=_;rw [hr.out];simp only [H1.out,Option.bind_some,Option.bind_none]
  go_enter Tryz.func176,Tryz.ntmps176
  go_wp2_with (first
   | (have:=P0n;go_at_call 213;refine (fput_n HC.out W0.out (tok3 _) P0n.out H1.out).mono ?_;rintro e wz ⟨rfl,fz⟩)
   | (have:=F0;go_at_call 216;refine (fnot_any _).mono ?_;rintro e wp0 ⟨rfl,bp0⟩;have P0n:=hid (FX.bl F0.out bp0);have Zp0:=hid (P0n.out.box (Nat.le_refl _) (by simp) ZB.out);clear bp0))
  refine ⟨rfl,?_⟩
  rw [EE.out]
  exact ⟨rfl,FE.back HH.out HB.out fz⟩
 | some s1 =>
  have H1:=hid h1
  clear h1
  have EE:Hid (r=some s1):=by show r=_;rw [hr.out];simp only [H1.out,Option.bind_some]
  go_enter Tryz.func176,Tryz.ntmps176
  go_wp2_with (first
   | (have:=P0n;go_at_call 213;refine (fput_y HC.out W0.out (tok3 _) P0n.out H1.out).mono ?_;rintro e y1 ⟨rfl,f1⟩;have F1:=hid f1;have Z1:=hid (f1.box (Nat.le_refl _) (by simp) ZB.out);have c1_0:=(cell_blk (i:=0) Z1.out).trans rfl;have c1_1:=(cell_blk (i:=1) Z1.out).trans rfl;have c1_2:=(cell_blk (i:=2) Z1.out).trans rfl;have c1_3:=(cell_blk (i:=3) Z1.out).trans rfl;have c1_4:=(cell_blk (i:=4) Z1.out).trans rfl;have c1_5:=(cell_blk (i:=5) Z1.out).trans rfl;clear f1)
   | (have:=F0;go_at_call 216;refine (fnot_any _).mono ?_;rintro e wp0 ⟨rfl,bp0⟩;have P0n:=hid (FX.bl F0.out bp0);have Zp0:=hid (P0n.out.box (Nat.le_refl _) (by simp) ZB.out);clear bp0))
  go_end0
  rw [EE.out]
  exact ⟨rfl,FX.back HH.out HB.out F1.out⟩
theorem fwork22 (C:Cx w0 w1 g f m) (W:Wq f m cur) (ia ib:Int) (ic ii:Int) (A0:Option Addr) (n0 k0:Nat) (H:FX X wx w1 g b0 w cur at' st wt) :
  Calls Tryz.prog 176 #[.pointer (some ⟨g.q,0,none⟩),insV 22 ia ib ic ii (.slice A0 n0 k0)] w fun e w'=>AsQ X wx w1 g b0 at' st wt ((takeT cur).bind fun p=>some p.2) e w':=by
 have HB:Hid (Bl w (w.alloc (insO 22 ia ib ic ii (.slice A0 n0 k0)))):=(Bl.refl w).alloc _
 have hm30:m.stack≤30:=(smeP C.me).2.1
 have F0:=hid (H.wide HB.out)
 have HC:=hid C
 have HH:=hid H
 have W0:=hid W
 have ZB:=hid (mblk (w:=w) (cs:=#[.int .i64 22,.int .i64 ia,.int .i64 ib,.int .i64 ic,.int .i64 ii,.slice A0 n0 k0]) (t:=55) rfl)
 obtain ⟨r,hr⟩:∃r,r=((takeT cur).bind fun p=>some p.2):=⟨_,rfl⟩
 rw [←hr]
 replace hr:=hid hr
 clear C W H
 cases h1:takeT cur with
 | none =>
  have H1:=hid h1
  clear h1
  have EE:Hid (r=none):=by show r=_;rw [hr.out];simp only [H1.out,Option.bind_some,Option.bind_none]
  go_enter Tryz.func176,Tryz.ntmps176
  go_wp2_with (first
   | (have:=F0;go_at_call 210;refine (ftake_n HC.out W0.out F0.out H1.out).mono ?_;rintro e wz ⟨rfl,fz⟩))
  refine ⟨rfl,?_⟩
  rw [EE.out]
  exact ⟨rfl,FE.back HH.out HB.out fz⟩
 | some p1 =>
  obtain ⟨v1,s1⟩:=p1
  have H1:=hid h1
  clear h1
  have EE:Hid (r=some s1):=by show r=_;rw [hr.out];simp only [H1.out,Option.bind_some]
  go_enter Tryz.func176,Tryz.ntmps176
  go_wp2_with (first
   | (have:=F0;go_at_call 210;refine (ftake_y HC.out W0.out F0.out H1.out).mono ?_;rintro e y1 ⟨rfl,f1⟩;have F1:=hid f1;have Z1:=hid (f1.box (Nat.le_refl _) (by simp) ZB.out);have c1_0:=(cell_blk (i:=0) Z1.out).trans rfl;have c1_1:=(cell_blk (i:=1) Z1.out).trans rfl;have c1_2:=(cell_blk (i:=2) Z1.out).trans rfl;have c1_3:=(cell_blk (i:=3) Z1.out).trans rfl;have c1_4:=(cell_blk (i:=4) Z1.out).trans rfl;have c1_5:=(cell_blk (i:=5) Z1.out).trans rfl;clear f1))
  go_end0
  rw [EE.out]
  exact ⟨rfl,FX.back HH.out HB.out F1.out⟩
theorem fwork24 (C:Cx w0 w1 g f m) (W:Wq f m cur) (ia ib:Int) (ic ii:Int) (A0:Option Addr) (n0 k0:Nat) (H:FX X wx w1 g b0 w cur at' st wt) :
  Calls Tryz.prog 176 #[.pointer (some ⟨g.q,0,none⟩),insV 24 ia ib ic ii (.slice A0 n0 k0)] w fun e w'=>AsQ X wx w1 g b0 at' st wt ((takeK ia cur).bind fun p=>some p.2) e w':=by
 have HB:Hid (Bl w (w.alloc (insO 24 ia ib ic ii (.slice A0 n0 k0)))):=(Bl.refl w).alloc _
 have hm30:m.stack≤30:=(smeP C.me).2.1
 have F0:=hid (H.wide HB.out)
 have HC:=hid C
 have HH:=hid H
 have W0:=hid W
 have ZB:=hid (mblk (w:=w) (cs:=#[.int .i64 24,.int .i64 ia,.int .i64 ib,.int .i64 ic,.int .i64 ii,.slice A0 n0 k0]) (t:=55) rfl)
 obtain ⟨r,hr⟩:∃r,r=((takeK ia cur).bind fun p=>some p.2):=⟨_,rfl⟩
 rw [←hr]
 replace hr:=hid hr
 clear C W H
 cases h1:takeK ia cur with
 | none =>
  have H1:=hid h1
  clear h1
  have EE:Hid (r=none):=by show r=_;rw [hr.out];simp only [H1.out,Option.bind_some,Option.bind_none]
  go_enter Tryz.func176,Tryz.ntmps176
  go_wp2_with (first
   | (have:=F0;go_at_call 173;refine (ftakeK_n HC.out W0.out F0.out H1.out).mono ?_;rintro e wz ⟨rfl,fz⟩))
  refine ⟨rfl,?_⟩
  rw [EE.out]
  exact ⟨rfl,FE.back HH.out HB.out fz⟩
 | some p1 =>
  obtain ⟨v1,s1⟩:=p1
  have H1:=hid h1
  clear h1
  have EE:Hid (r=some s1):=by show r=_;rw [hr.out];simp only [H1.out,Option.bind_some]
  go_enter Tryz.func176,Tryz.ntmps176
  go_wp2_with (first
   | (have:=F0;go_at_call 173;refine (ftakeK_y HC.out W0.out F0.out H1.out).mono ?_;rintro e y1 ⟨rfl,f1⟩;have F1:=hid f1;have Z1:=hid (f1.box (Nat.le_refl _) (by simp) ZB.out);have c1_0:=(cell_blk (i:=0) Z1.out).trans rfl;have c1_1:=(cell_blk (i:=1) Z1.out).trans rfl;have c1_2:=(cell_blk (i:=2) Z1.out).trans rfl;have c1_3:=(cell_blk (i:=3) Z1.out).trans rfl;have c1_4:=(cell_blk (i:=4) Z1.out).trans rfl;have c1_5:=(cell_blk (i:=5) Z1.out).trans rfl;clear f1))
  go_end0
  rw [EE.out]
  exact ⟨rfl,FX.back HH.out HB.out F1.out⟩
end
end
section
section
variable {X:Nat→Prop} {wx w0 w1:World} {g:Gf} {b0:Nat} {w:World} {cur s:As} {at':Int} {st:List (Option As)} {wt:List Int} {f:Fi} {m:Me} {v t:Ty} {k:Int}
theorem fwork19 (C:Cx w0 w1 g f m) (W:Wq f m cur) (ia:Nat) (ib ic ii:Int) (A0:Option Addr) (n0 k0:Nat) (ha:ia<f.methods.length) (H:FX X wx w1 g b0 w cur at' st wt) :
  Calls Tryz.prog 176 #[.pointer (some ⟨g.q,0,none⟩),insV 19 ia ib ic ii (.slice A0 n0 k0)] w fun e w'=>AsQ X wx w1 g b0 at' st wt ((takesY f.classes (nth me0 f.methods ia).params (nth me0 f.methods ia).params.length cur).bind fun q=>if (nth me0 f.methods ia).ret.kind=0 then some q else putT m.stack (nth me0 f.methods ia).ret q) e w':=by
 have HB:Hid (Bl w (w.alloc (insO 19 ia ib ic ii (.slice A0 n0 k0)))):=(Bl.refl w).alloc _
 have F0:=hid ((H.wide HB.out).bl (Bl.refl _).drew)
 have HC:=hid C
 have HH:=hid H
 have W0:=hid W
 have ZB:=hid (mblk (w:=w) (cs:=#[.int .i64 19,.int .i64 (ia:Int),.int .i64 ib,.int .i64 ic,.int .i64 ii,.slice A0 n0 k0]) (t:=55) rfl)
 have z1:(w.alloc (insO 19 ia ib ic ii (.slice A0 n0 k0))).cell? ⟨w.heap.size,1,none⟩=some (.int .i64 (ia:Int)):=(cell_blk ZB.out).trans rfl
 have HME:=hid (C.mes _ (nth_mem (d:=me0) ha))
 obtain ⟨A,mc,hq,hM⟩:=C.q
 rcases hM.2 with h0|⟨mb,mo,rfl,hml⟩
 ·omega
 obtain ⟨P,Cd,Kh,pc,cc,kc,m0,m1,m2,m3,m4,m5,m6,m7,hme⟩:=hml ia ha
 have HP:=hid hme.1
 have HS:=hid (fun (w':World) (s':As) (hf:FX (Xf X w.heap.size (w.alloc (insO 19 ia ib ic ii (.slice A0 n0 k0))).heap.size) (w.alloc (insO 19 ia ib ic ii (.slice A0 n0 k0))) w1 g b0 w' s' at' st wt)=>show w'.cell? ⟨g.q,1,none⟩=some (.slice (some ⟨mb,mo,none⟩) f.methods.length mc)∧w'.cell? ⟨w.heap.size,1,none⟩=some (.int .i64 (ia:Int))∧w'.cell? ⟨mb,mo+ia*8,none⟩=_∧w'.cell? ⟨mb,mo+ia*8+1,none⟩=_∧w'.cell? ⟨mb,mo+ia*8+2,none⟩=_∧w'.cell? ⟨mb,mo+ia*8+3,none⟩=_∧w'.cell? ⟨mb,mo+ia*8+4,none⟩=_∧w'.cell? ⟨mb,mo+ia*8+5,none⟩=_∧w'.cell? ⟨mb,mo+ia*8+6,none⟩=_∧w'.cell? ⟨mb,mo+ia*8+7,none⟩=_ from
  ⟨c1_of (hf.old hq C.qp C.qs),(cell_blk (hf.box (Nat.le_refl _) (by simp) ZB.out)).trans rfl,(C.bl0 hf).cell m0,(C.bl0 hf).cell m1,(C.bl0 hf).cell m2,(C.bl0 hf).cell m3,(C.bl0 hf).cell m4,(C.bl0 hf).cell m5,(C.bl0 hf).cell m6,(C.bl0 hf).cell m7⟩)
 have ha0:(0:Int)≤(ia:Int):=by omega
 have ha1:(ia:Int)<(f.methods.length:Int):=by omega
 have HX:=hid (fcall_any C W (nth me0 f.methods ia) HME.out P Cd Kh pc cc kc HP.out F0.out)
 generalize nth me0 f.methods ia=x at *
 obtain ⟨r,hr⟩:∃r,r=((takesY f.classes x.params x.params.length cur).bind fun q=>if x.ret.kind=0 then some q else putT m.stack x.ret q):=⟨_,rfl⟩
 rw [←hr] at HX ⊢
 clear C W H ha hM hml hme hq hr m0 m1 m2 m3 m4 m5 m6 m7
 generalize f.methods.length=nm at *
 go_enter Tryz.func176,Tryz.ntmps176
 go_wp2
 refine wp_region_held_drew (S:=fun w'=>w'.cell? ⟨g.q,1,none⟩=some (.slice (some ⟨mb,mo,none⟩) nm mc)∧w'.cell? ⟨w.heap.size,1,none⟩=some (.int .i64 (ia:Int))∧w'.cell? ⟨mb,mo+ia*8,none⟩=some (.slice P x.params.length pc)∧w'.cell? ⟨mb,mo+ia*8+1,none⟩=some (.int .i64 x.ret.kind)∧w'.cell? ⟨mb,mo+ia*8+2,none⟩=some (.int .i64 x.ret.cls)∧w'.cell? ⟨mb,mo+ia*8+3,none⟩=some (.int .i64 x.stack)∧w'.cell? ⟨mb,mo+ia*8+4,none⟩=some (.int .i64 x.locs)∧w'.cell? ⟨mb,mo+ia*8+5,none⟩=some (.int .i64 x.regs)∧w'.cell? ⟨mb,mo+ia*8+6,none⟩=some (.slice Cd x.code.length cc)∧w'.cell? ⟨mb,mo+ia*8+7,none⟩=some (.slice Kh x.hands.length kc)) (by kernel_rfl) ?_ (fun hHeld0=>?_)
 ·exact HS.out _ _ F0.out
 iterate 9 (refine tn rfl (by kernel_rfl) (fun _ _ _ h=>h) (by intro _ h;go_split_ands;go_simp<;>with_reducible rfl) hHeld0 ?_;try simp only [aZ])
 refine rd1 (i:=9) (by kernel_rfl) rfl fun K hK=>?_
 go_simp
 go_at_call 218
 refine HX.out.mono ?_
 intro e w2 hq2
 cases r with
 | none =>
  obtain ⟨rfl,f2⟩:=hq2
  exact ⟨rfl,rfl,FE.back HH.out HB.out f2⟩
 | some s2 =>
  obtain ⟨rfl,f2⟩:=hq2
  refine hK.out _ _ (HS.out _ _ f2) (fun hHeld1=>?_)
  try simp only [aZ]
  refine wpAnyH_done (by kernel_rfl) ?_ _
  have F2:=hid f2
  clear f2 hHeld0 hHeld1
  go_wp2
  go_end0
  exact ⟨rfl,FX.back HH.out HB.out F2.out⟩
theorem two_bind {k:Int} {s:As} {h:As→Option As}:((takeK k s).bind fun p=>(takeK k p.2).bind fun q=>h q.2)=(takeTwo k s).bind h:=by
 unfold takeTwo
 cases takeK k s with
 | none=>rfl
 | some p =>
  show (takeK k p.2).bind (fun q=>h q.2)=((takeK k p.2).bind fun q=>some q.2).bind h
  cases takeK k p.2<;>rfl
theorem fwork_reck (op:Int) (hop:op=6∨op=7∨op=8∨op=9∨op=10) (ia ib ic ii:Int) (A0:Option Addr) (n0 k0:Nat) (r:Option As) (H:FX X wx w1 g b0 w cur at' st wt)
  (HX:∀X wx w,FX X wx w1 g b0 w cur at' st wt→Calls Tryz.prog 219 #[.pointer (some ⟨g.q,0,none⟩),insV op ia ib ic ii (.slice A0 n0 k0)] w fun e w'=>AsQ X wx w1 g b0 at' st wt r e w') :
  Calls Tryz.prog 176 #[.pointer (some ⟨g.q,0,none⟩),insV op ia ib ic ii (.slice A0 n0 k0)] w fun e w'=>AsQ X wx w1 g b0 at' st wt r e w':=by
 have HB:Hid (Bl w (w.alloc (insO op ia ib ic ii (.slice A0 n0 k0)))):=(Bl.refl w).alloc _
 have HH:=hid H
 have HC:=hid (HX _ _ _ (H.wide HB.out))
 clear HX H
 rcases hop with rfl|rfl|rfl|rfl|rfl
 all_goals
  cases r with
  | none =>
   have HC:Hid (Calls Tryz.prog 219 _ _ fun e w'=>e=upE∧FE _ _ w1 g w'):=HC
   go_enter Tryz.func176,Tryz.ntmps176
   go_wp2_with (go_at_call 219;refine HC.out.mono ?_;rintro e wz ⟨rfl,fz⟩)
   exact ⟨rfl,rfl,FE.back HH.out HB.out fz⟩
  | some s2 =>
   have HC:Hid (Calls Tryz.prog 219 _ _ fun e w'=>e=.returned (.tuple #[])∧FX _ _ w1 g b0 w' s2 at' st wt):=HC
   go_enter Tryz.func176,Tryz.ntmps176
   go_wp2_with (go_at_call 219;refine HC.out.mono ?_;rintro e wz ⟨rfl,fz⟩)
   go_end0
   exact ⟨rfl,FX.back HH.out HB.out fz⟩
theorem fwork_hand (op:Int) (hop:op=14∨op=15∨op=16∨op=17∨op=18) (ia ib ic ii:Int) (A0:Option Addr) (n0 k0:Nat) (r:Option As) (H:FX X wx w1 g b0 w cur at' st wt)
  (HX:∀X wx w,FX X wx w1 g b0 w cur at' st wt→Calls Tryz.prog 220 #[.pointer (some ⟨g.q,0,none⟩),insV op ia ib ic ii (.slice A0 n0 k0)] w fun e w'=>AsQ X wx w1 g b0 at' st wt r e w') :
  Calls Tryz.prog 176 #[.pointer (some ⟨g.q,0,none⟩),insV op ia ib ic ii (.slice A0 n0 k0)] w fun e w'=>AsQ X wx w1 g b0 at' st wt r e w':=by
 have HB:Hid (Bl w (w.alloc (insO op ia ib ic ii (.slice A0 n0 k0)))):=(Bl.refl w).alloc _
 have HH:=hid H
 have HC:=hid (HX _ _ _ (H.wide HB.out))
 clear HX H
 rcases hop with rfl|rfl|rfl|rfl|rfl
 all_goals
  cases r with
  | none =>
   have HC:Hid (Calls Tryz.prog 220 _ _ fun e w'=>e=upE∧FE _ _ w1 g w'):=HC
   go_enter Tryz.func176,Tryz.ntmps176
   go_wp2_with (go_at_call 220;refine HC.out.mono ?_;rintro e wz ⟨rfl,fz⟩)
   exact ⟨rfl,rfl,FE.back HH.out HB.out fz⟩
  | some s2 =>
   have HC:Hid (Calls Tryz.prog 220 _ _ fun e w'=>e=.returned (.tuple #[])∧FX _ _ w1 g b0 w' s2 at' st wt):=HC
   go_enter Tryz.func176,Tryz.ntmps176
   go_wp2_with (go_at_call 220;refine HC.out.mono ?_;rintro e wz ⟨rfl,fz⟩)
   go_end0
   exact ⟨rfl,FX.back HH.out HB.out fz⟩
end
end
section
section
variable {X:Nat→Prop} {wx w0 w1:World} {g:Gf} {b0:Nat} {w:World} {cur s:As} {at':Int} {st:List (Option As)} {wt:List Int} {f:Fi} {m:Me} {v t:Ty} {k:Int}
theorem fwork_any (C:Cx w0 w1 g f m) (W:Wq f m cur) (i:In) (A0:Option Addr) (n0 k0:Nat) (ok:InOk f.classes f.methods.length m.code.length m.locs i) (hop:i.op≠11∧i.op≠12∧i.op≠13∧i.op≠20∧i.op≠21) (hb0:w1.heap.size≤b0) (H:FX X wx w1 g b0 w cur at' st wt) :
  Calls Tryz.prog 176 #[.pointer (some ⟨g.q,0,none⟩),insV i.op i.a i.b i.c i.n (.slice A0 n0 k0)] w fun e w'=>AsQ X wx w1 g b0 at' st wt (workT f m i cur) e w':=by
 obtain ⟨op,a,b,c,n,args⟩:=i
 have o1:=ok.op
 have o2:=ok.slot
 have o3:=ok.kind
 have o4:=ok.fld
 have o5:=ok.cls
 have o6:=ok.call
 clear ok
 dsimp only at *
 have hlen:=W.wf.len
 have hl60:=(smeP C.me).2.2.2.1
 obtain ⟨n11,n12,n13,n20,n21⟩:=hop
 unfold workT
 dsimp only
 by_cases e1:op=1
 ·subst e1;rw [if_pos rfl];exact fwork1 C W a b c n A0 n0 k0 H
 rw [if_neg e1]
 by_cases e2:op=2
 ·subst e2;rw [if_pos (Or.inl rfl)];exact fwork2 C W a b c n A0 n0 k0 H
 by_cases e25:op=25
 ·subst e25;rw [if_pos (Or.inr rfl)];exact fwork25 C W a b c n A0 n0 k0 H
 rw [if_neg (by omega)]
 by_cases e3:op=3
 ·subst e3;rw [if_pos rfl];exact fwork3 C W a b c n A0 n0 k0 H
 rw [if_neg e3]
 by_cases e4:op=4
 ·subst e4
  rw [if_pos rfl]
  have h1:=o2 (Or.inl rfl)
  have h2:=o3 (Or.inl rfl)
  obtain ⟨ia,rfl⟩:∃ia:Nat,a=ia:=⟨a.toNat,by omega⟩
  rw [Int.toNat_natCast]
  exact fwork4 C W ia b c n A0 n0 k0 (by omega) h2 H
 rw [if_neg e4]
 by_cases e5:op=5
 ·subst e5
  rw [if_pos rfl]
  have h1:=o2 (Or.inr rfl)
  obtain ⟨ia,rfl⟩:∃ia:Nat,a=ia:=⟨a.toNat,by omega⟩
  rw [Int.toNat_natCast]
  exact fwork5 C W ia b c n A0 n0 k0 (by omega) (fun e=>by omega) hb0 (by omega) H
 rw [if_neg e5]
 by_cases e22:op=22
 ·subst e22;rw [if_pos rfl];exact fwork22 C W a b c n A0 n0 k0 H
 rw [if_neg e22]
 by_cases e23:op=23
 ·subst e23;rw [if_pos rfl];exact fwork23 C W a b c n A0 n0 k0 H
 rw [if_neg e23]
 by_cases e24:op=24
 ·subst e24;rw [if_pos rfl];exact fwork24 C W a b c n A0 n0 k0 H
 rw [if_neg e24]
 by_cases e19:op=19
 ·subst e19
  rw [if_pos rfl]
  have h1:=o6 rfl
  obtain ⟨ia,rfl⟩:∃ia:Nat,a=ia:=⟨a.toNat,by omega⟩
  rw [Int.toNat_natCast]
  exact fwork19 C W ia b c n A0 n0 k0 (by omega) H
 rw [if_neg e19]
 by_cases e6:op=6
 ·subst e6
  rw [if_pos rfl,two_bind (h:=fun q=>putT m.stack ⟨1,0⟩ q)]
  exact fwork_reck 6 (Or.inl rfl) a b c n A0 n0 k0 _ H (fun X wx w H=>freck6 C W a b c n A0 n0 k0 H)
 rw [if_neg e6]
 by_cases e7:op=7
 ·subst e7
  rw [if_pos rfl,two_bind (h:=fun q=>putT m.stack ⟨2,0⟩ q)]
  exact fwork_reck 7 (Or.inr (Or.inl rfl)) a b c n A0 n0 k0 _ H (fun X wx w H=>freck7 C W a b c n A0 n0 k0 H)
 rw [if_neg e7]
 by_cases e8:op=8
 ·subst e8
  rw [if_pos rfl]
  exact fwork_reck 8 (Or.inr (Or.inr (Or.inl rfl))) a b c n A0 n0 k0 _ H (fun X wx w H=>freck8 C W a b c n A0 n0 k0 H)
 rw [if_neg e8]
 by_cases e9:op=9
 ·subst e9
  rw [if_pos rfl]
  exact fwork_reck 9 (Or.inr (Or.inr (Or.inr (Or.inl rfl)))) a b c n A0 n0 k0 _ H (fun X wx w H=>freck9 C W a b c n A0 n0 k0 H)
 rw [if_neg e9]
 by_cases e10:op=10
 ·subst e10
  rw [if_pos rfl,two_bind (h:=fun q=>putT m.stack ⟨1,0⟩ q)]
  exact fwork_reck 10 (Or.inr (Or.inr (Or.inr (Or.inr rfl)))) a b c n A0 n0 k0 _ H (fun X wx w H=>freck10 C W a b c n A0 n0 k0 H)
 rw [if_neg e10]
 by_cases e14:op=14
 ·subst e14
  rw [if_pos rfl]
  exact fwork_hand 14 (Or.inl rfl) a b c n A0 n0 k0 _ H (fun X wx w H=>fhand14 C W a (o5 (Or.inl rfl)) b c n A0 n0 k0 H)
 rw [if_neg e14]
 by_cases e15:op=15
 ·subst e15
  rw [if_pos rfl]
  have h1:=o4 (Or.inl rfl)
  obtain ⟨ia,rfl⟩:∃ia:Nat,a=ia:=⟨a.toNat,by omega⟩
  obtain ⟨ib,rfl⟩:∃ib:Nat,b=ib:=⟨b.toNat,by omega⟩
  rw [Int.toNat_natCast] at h1
  unfold fieldT
  rw [Int.toNat_natCast,Int.toNat_natCast]
  exact fwork_hand 15 (Or.inr (Or.inl rfl)) ia ib c n A0 n0 k0 _ H (fun X wx w H=>fhand15 C W ia ib (by omega) (by omega) c n A0 n0 k0 H)
 rw [if_neg e15]
 by_cases e16:op=16
 ·subst e16
  rw [if_pos rfl]
  have h1:=o4 (Or.inr rfl)
  obtain ⟨ia,rfl⟩:∃ia:Nat,a=ia:=⟨a.toNat,by omega⟩
  obtain ⟨ib,rfl⟩:∃ib:Nat,b=ib:=⟨b.toNat,by omega⟩
  rw [Int.toNat_natCast] at h1
  unfold fieldT
  rw [Int.toNat_natCast,Int.toNat_natCast]
  exact fwork_hand 16 (Or.inr (Or.inr (Or.inl rfl))) ia ib c n A0 n0 k0 _ H (fun X wx w H=>fhand16 C W ia ib (by omega) (by omega) c n A0 n0 k0 H)
 rw [if_neg e16]
 by_cases e17:op=17
 ·subst e17
  rw [if_pos rfl]
  exact fwork_hand 17 (Or.inr (Or.inr (Or.inr (Or.inl rfl)))) a b c n A0 n0 k0 _ H (fun X wx w H=>fhand17 C W a (o5 (Or.inr (Or.inl rfl))) b c n A0 n0 k0 H)
 rw [if_neg e17]
 by_cases e18:op=18
 ·subst e18
  rw [if_pos rfl]
  exact fwork_hand 18 (Or.inr (Or.inr (Or.inr (Or.inr rfl)))) a b c n A0 n0 k0 _ H (fun X wx w H=>fhand18 C W a (o5 (Or.inr (Or.inr rfl))) b c n A0 n0 k0 H)
 omega
theorem fgive_any (C:Cx w0 w1 g f m) (W:Wq f m cur) (H:FX X wx w1 g b0 w cur at' st wt) :
  Calls Tryz.prog 175 #[.pointer (some ⟨g.q,0,none⟩)] w fun e w'=>AsQ X wx w1 g b0 at' st wt (if m.ret.kind=0 then some cur else takeY f.classes m.ret cur) e w':=by
 have HC:=hid C
 have HH:=hid H
 have W0:=hid W
 have q0:=C.q0 H
 have p4:=H.pc.2.1
 have p5:=H.pc.2.2.1
 rw [C.ret.1] at p4
 rw [C.ret.2] at p5
 have hq:=cell_lt q0
 have hp:=cell_lt p4
 have hrt:=(smeP C.me).2.2.2.2.2.2.2.2.2.2
 clear C W H
 by_cases hk:m.ret.kind=0
 ·rw [if_pos hk]
  have hz:(m.ret.kind !=0)=false:=by simpa using hk
  clear hk hrt
  go_enter Tryz.func175,Tryz.ntmps175
  go_wp2
  go_end0
  exact ⟨rfl,HH.out⟩
 ·rw [if_neg hk]
  have hz:(m.ret.kind !=0)=true:=by simpa using hk
  have HT:Hid (m.ret.kind=3→0≤m.ret.cls∧m.ret.cls<f.classes.length):=fun e=>by
   unfold retB at hrt
   rw [Bool.or_eq_true] at hrt
   rcases hrt with h|h
   ·exact absurd (of_decide_eq_true h).1 hk
   ·have:=of_decide_eq_true h;omega
  clear hk hrt
  cases h2:takeY f.classes m.ret cur with
  | none =>
   have H2:=hid h2
   clear h2
   show Calls _ _ _ _ fun e w'=>e=upE∧FE X wx w1 g w'
   go_enter Tryz.func175,Tryz.ntmps175
   go_wp2_with (go_at_call 212;refine (ftakeY_n HC.out W0.out HT.out HH.out H2.out).mono ?_;rintro e wz ⟨rfl,fz⟩)
   exact ⟨rfl,rfl,fz⟩
  | some s2 =>
   have H2:=hid h2
   clear h2
   show Calls _ _ _ _ fun e w'=>e=.returned (.tuple #[])∧FX X wx w1 g b0 w' s2 at' st wt
   go_enter Tryz.func175,Tryz.ntmps175
   go_wp2_with (go_at_call 212;refine (ftakeY_y HC.out W0.out HT.out HH.out H2.out).mono ?_;rintro e wz ⟨rfl,fz⟩)
   go_end0
   exact ⟨rfl,fz⟩
end
end
end Go.Proofs.YtgiiapenmjollaaGreat
