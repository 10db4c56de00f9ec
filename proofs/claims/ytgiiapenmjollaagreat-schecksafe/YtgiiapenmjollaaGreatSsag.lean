import Derived.Test.YtgiiapenmjollaaGreatSsaf
import Derived.RangeFuncNested
import Derived.RangeFuncBound
import Derived.RangeFuncCalls
import Derived.RangeFuncLeaves
import Derived.RangeFuncFrom
import Derived.Shelf.Abstract
import Derived.Shelf.RegionOpen
import Derived.WalkKit
import Derived.OwnWalkIn
import Derived.TacticsInMore
import Derived.LoopNIn
import Derived.LoopIn
import Derived.Test.YtgiiapenmjollaaGreatChecked
import Derived.Handy
namespace Go.Proofs.YtgiiapenmjollaaGreat
set_option linter.all false
set_option maxHeartbeats 40000000
set_option maxRecDepth 100000
open Go.RowKit
theorem does_len (h:Hp) (c:Cal) (i:In):(doesP h c i).c.locs.length=c.locs.length:=by
 have cm:∀k,(c.cut k).locs=c.locs:=fun k=>(cut_m c k).2.2
 unfold doesP
 split;rfl
 split;(show (c.cut 1).locs.length=_;rw [cm])
 split;(show (c.cut 1).locs.length=_;rw [cm])
 split;(show (c.cut 1).locs.length=_;rw [cm])
 split
 ·unfold loadP;dsimp only;split<;>rfl
 split
 ·unfold storeP;dsimp only;split
  ·exact stoP_length _ _ _
  ·rw [cm]
 split;(show (c.cut 1).locs.length=_;rw [cm])
 split
 ·unfold dupP;dsimp only;split
  ·rw [cm]
  ·show (c.cut 1).locs.length=_;rw [cm]
 split;(show (c.cut 1).locs.length=_;rw [cm])
 split;(show (c.cut 2).locs.length=_;rw [cm])
 ·unfold givesP;dsimp only;split
  ·rw [cm]
  ·show (c.cut _).locs.length=_;rw [cm]
theorem does_went {f:Fi} {st:List (Option As)} {h:Hp} {c:Cal} {u:As} (a:At f st h c) (hu:WfA f.classes.length c.m.locs u) (hs:StepAt f c.m st c.pc.toNat u) (fs:Fits h u c) (hpc:0≤c.pc) (ok:InOk h.file.classes h.file.methods.length c.m.code.length c.locs.length (nth in0 c.m.code c.pc.toNat)) (n19:(nth in0 c.m.code c.pc.toNat).op≠19) (n20:(nth in0 c.m.code c.pc.toNat).op≠20):Went f st h c u (doesP h c (nth in0 c.m.code c.pc.toNat)):=by
 have g:=a.hg
 have le:=does_leS h c (nth in0 c.m.code c.pc.toNat)
 have ln:=does_len h c (nth in0 c.m.code c.pc.toNat)
 have out:=hs.out
 have hpn:((c.pc.toNat+1:Nat):Int)=c.pc+1:=by omega
 generalize nth in0 c.m.code c.pc.toNat=i at *
 unfold OutOk at out
 by_cases e11:i.op=11
 ·rw [if_pos e11] at out
  have e:doesP h c i=⟨h,c,i.a⟩:=by unfold doesP;rw [if_pos e11]
  rw [e] at le ln ⊢
  exact ⟨g.ok,Ext.refl h,g.ty,rfl,rfl,rfl,Int.le_refl _,rfl,fun _=>Or.inl ⟨g.th,u,out,fs⟩⟩
 rw [if_neg e11] at out
 by_cases e12:i.op=12
 ·rw [if_pos e12] at out
  obtain ⟨p,t1,l1,l2⟩:=out
  rw [hpn] at l2
  have e:doesP h c i=ifP h c i:=by unfold doesP;rw [if_neg e11,if_pos e12]
  rw [e] at le ln ⊢
  obtain ⟨a1,a2,a3⟩:=takeK_app t1
  obtain ⟨v,b1,b2,b3,b4,b5,b6,b7⟩:=fs.take1 a1 a2
  have hkv:=b3.siz (mem_r (a1▸hu.st)).2
  unfold ifP at le ln ⊢
  dsimp only at le ln ⊢
  rw [must_t b1,b2,must_t (decide_eq_true (hkv.trans a3))] at le ⊢
  refine ⟨g.ok,Ext.refl h,g.ty,b6,b7,rfl,Int.le_refl _,ln,fun _=>Or.inl ⟨g.th,p.2,?_,b4⟩⟩
  dsimp only
  split
  ·exact l1
  ·exact l2
 rw [if_neg e12] at out
 by_cases e13:i.op=13
 ·rw [if_pos e13] at out
  obtain ⟨p,t1,l1,l2⟩:=out
  rw [hpn] at l2
  have e:doesP h c i=ifnP h c i:=by unfold doesP;rw [if_neg e11,if_neg e12,if_pos e13]
  rw [e] at le ln ⊢
  obtain ⟨a1,a2,a3⟩:=takeK_app t1
  obtain ⟨v,b1,b2,b3,b4,b5,b6,b7⟩:=fs.take1 a1 a2
  have hkv:=b3.siz (mem_r (a1▸hu.st)).2
  have hr:isRef v=true:=decide_eq_true (hkv.trans a3)
  unfold ifnP at le ln ⊢
  dsimp only at le ln ⊢
  rw [must_t b1,b2,must_t hr] at le ⊢
  refine ⟨g.ok,Ext.refl h,g.ty,b6,b7,rfl,Int.le_refl _,ln,fun _=>Or.inl ⟨g.th,p.2,?_,b4⟩⟩
  dsimp only
  split
  ·exact l1
  ·exact l2
 rw [if_neg e13,if_neg n20] at out
 by_cases e21:i.op=21
 ·rw [if_pos e21] at out
  obtain ⟨p,t1⟩:=out
  have e:doesP h c i=thrP h c i:=by unfold doesP;rw [if_neg e11,if_neg e12,if_neg e13,if_pos e21]
  rw [e] at le ln ⊢
  obtain ⟨a1,a2,a3⟩:=takeK_app t1
  obtain ⟨v,b1,b2,b3,b4,b5,b6,b7⟩:=fs.take1 a1 a2
  have hkv:=b3.siz (mem_r (a1▸hu.st)).2
  have hr:isRef v=true:=decide_eq_true (hkv.trans a3)
  unfold thrP at le ln ⊢
  dsimp only at le ln ⊢
  rw [must_t b1,b2,if_neg (by rw [g.ov];decide)] at le ⊢
  have T:Thrw h (h.throw v):=by
   unfold Hp.throw
   rw [if_pos (g.mustB hr)]
   by_cases hn:v.n<0
   ·rw [if_pos hn];exact raise_thrw g.ty g.may g.ok (by have:=g.four;omega)
   ·rw [if_neg hn]
    have hlt:=((b3.ref a3).2 (by omega)).1
    exact ⟨Ok.of g.ov,Ext.same rfl rfl,g.ty.same rfl rfl,fun _=>⟨by dsimp only;omega,hlt⟩⟩
  exact ⟨T.ok,T.ext,T.ty,b6,b7,le.fuel,le.steps,ln,fun ho=>Or.inr ⟨(T.thr ho).1,(T.thr ho).2,b5⟩⟩
 rw [if_neg e21] at out
 obtain ⟨s1,w1,l1⟩:=out
 rw [hpn] at l1
 have D:=work_safe (s1:=s1) g (by rw [a.file,a.len];exact hu) fs ok ⟨e11,e12,e13,n19,n20,e21⟩ (by rw [a.file];exact w1)
 exact ⟨D.ok,D.ext,D.ty,D.m,D.pc,le.fuel,le.steps,ln,fun ho=>(D.go ho).elim (fun x=>Or.inl ⟨x.1,s1,by rw [D.nx];exact l1,x.2⟩) Or.inr⟩
theorem takesY_app {cs:List Cl} {ts:List Ty}:∀(k:Nat) {s s1:As},takesY cs ts k s=some s1→∃xs,s.stk=s1.stk++xs∧xs.length=k∧s1.slots=s.slots∧∀j,j<k→fitB cs (nth ty0 xs j) (nth ty0 ts j)=true
 | 0,s,s1,h=>by
  have h:=Option.some.inj h;subst h
  exact ⟨[],by simp,rfl,rfl,fun j hj=>by omega⟩
 | k+1,s,s1,h=>by
  unfold takesY at h
  rw [Option.bind_eq_some_iff] at h
  obtain ⟨q,h1,h2⟩:=h
  obtain ⟨x,a1,a2,a3⟩:=takeY_app h1
  obtain ⟨xs,b1,b2,b3,b4⟩:=takesY_app k h2
  refine ⟨xs++[x],by rw [a1,b1];simp,by simp [b2],b3.trans a2,fun j hj=>?_⟩
  by_cases e:j<k
  ·rw [nth_app_l (by omega)];exact b4 j e
  ·obtain rfl:j=xs.length:=by omega
   rw [nth_one,b2];exact a3
theorem FitL.app {h:Hp} {ts xs:List Ty} {vs:List Va} (g:FitL h (ts++xs) vs):∃us ws,vs=us++ws∧FitL h ts us∧FitL h xs ws:=by
 have hl:=g.1
 rw [List.length_append] at hl
 refine ⟨vs.take ts.length,vs.drop ts.length,(List.take_append_drop _ _).symm,⟨by rw [List.length_take];omega,fun j hj=>?_⟩,⟨by rw [List.length_drop];omega,fun j hj=>?_⟩⟩
 ·have:=g.2 j (by rw [List.length_append];omega)
  rw [nth_app_l hj] at this
  rw [nth_take hj];exact this
 ·have:=g.2 (ts.length+j) (by rw [List.length_append];omega)
  rw [nth_app_r (by omega),show ts.length+j-ts.length=j by omega] at this
  rw [nth_drop];exact this
theorem args_fit {h:Hp} {n:Nat}:∀(ps:List Ty) (vs:List Va) (ts:List Ty) (ls:List Va) (at':Nat),FitL h ps vs→(∀t∈ps,tyB n t=true)→FitL h ts ls→PairT ts→PairV ls→at'+slotsN ps≤ts.length→FitL h (argsT ts at' ps) (argsP ls at' vs)∧PairV (argsP ls at' vs)
 | [],vs,ts,ls,at',g,_,h1,_,h3,_=>by
  have:vs=[]:=List.length_eq_zero_iff.1 g.1.symm
  subst this;exact ⟨h1,h3⟩
 | t::ps,vs,ts,ls,at',g,hty,h1,h2,h3,hr=>by
  cases vs with
  | nil=>have:=g.1;simp at this
  | cons v vs =>
   have ht:=of_decide_eq_true (hty t (by simp))
   have fv:FitV h t v:=g.2 0 (by simp)
   have hk:=fv.siz (by omega)
   have hz:slotsN (t::ps)=(if t.kind=2 then 2 else 1)+slotsN ps:=rfl
   have hz1:slotsN [t]=if t.kind=2 then 2 else 1:=by simp [slotsN]
   have hlt:at'<ts.length:=by rw [hz] at hr;split at hr<;>omega
   have hl2:t.kind=2→at'+1<ts.length:=fun e=>by rw [hz,if_pos e] at hr;omega
   have hle:=h1.1
   have ih:=args_fit ps vs (wrT ts at' t) (stoP ls at' v) (at'+slotsN [t]) ⟨by have:=g.1;simp at this;exact this,fun j hj=>g.2 (j+1) (by simp;exact hj)⟩ (fun x hx=>hty x (List.mem_cons_of_mem _ hx)) (sto_fit h1 h2 h3 hlt hl2 hk (by omega) (by omega) fv) (wrT_pair h2 hlt hl2 (by omega)) (stoP_pair h3 (by omega) (fun e=>by have:=hl2 (by omega);omega) (by omega)) (by rw [wrT_length,hz1];rw [hz] at hr;omega)
   have e:at'+slotsN [t]=at'+sizP [v]:=by rw [hz1,siz_one,hk]
   show FitL h (argsT (wrT ts at' t) (at'+slotsN [t]) ps) (argsP (stoP ls at' v) (at'+sizP [v]) vs)∧PairV (argsP (stoP ls at' v) (at'+sizP [v]) vs)
   rw [←e]
   exact ih
theorem rep_fit (h:Hp) (n:Nat):FitL h (List.replicate n ty0) (List.replicate n va0):=by
 refine ⟨by simp,fun j hj=>?_⟩
 have e:nth ty0 (List.replicate n ty0) j=ty0:=by simp [nth,List.getD,List.getElem?_replicate];split<;>rfl
 rw [e];exact FitV.any h _
theorem rep_pairT (n:Nat):PairT (List.replicate n ty0):=by
 have e:∀j,nth ty0 (List.replicate n ty0) j=ty0:=fun j=>by simp [nth,List.getD,List.getElem?_replicate];split<;>rfl
 exact ⟨fun i _ hk=>by dsimp only at hk;rw [e] at hk;exact absurd hk (by decide),fun i _ hk=>by dsimp only at hk;rw [e] at hk;exact absurd hk (by decide)⟩
theorem rep_pairV (n:Nat):PairV (List.replicate n va0):=by
 have e:∀j,nth va0 (List.replicate n va0) j=va0:=fun j=>by simp [nth,List.getD,List.getElem?_replicate];split<;>rfl
 exact ⟨fun i _ hk=>by dsimp only at hk;rw [e] at hk;exact absurd hk (by decide),fun i _ hk=>by dsimp only at hk;rw [e] at hk;exact absurd hk (by decide)⟩
theorem enter_of {h:Hp} {n:Nat}:∀(ps:List Ty) (vs:List Va),h.file.classes.length=n→FitL h ps vs→(∀t∈ps,tyB n t=true)→h.enterL vs ps=true
 | [],vs,_,g,_=>by
  have:vs=[]:=List.length_eq_zero_iff.1 g.1.symm
  subst this;rfl
 | t::ps,vs,hn,g,hty=>by
  cases vs with
  | nil=>have:=g.1;simp at this
  | cons v vs =>
   unfold Hp.enterL
   rw [Bool.and_eq_true]
   refine ⟨(g.2 0 (by simp):FitV h t v).of (by rw [hn];exact hty t (by simp)),enter_of ps vs hn ⟨by have:=g.1;simp at this;exact this,fun j hj=>g.2 (j+1) (by simp;exact hj)⟩ (fun x hx=>hty x (List.mem_cons_of_mem _ hx))⟩
theorem run_safe {f:Fi} {n:Nat} {go:Hp→Cal→Hp×Va} (G:GoS f n go) (ck:Checked f) {h:Hp} {m:Me} {l:List Va} (hf:h.file=f) (g:Hg h) (hm:m∈f.methods) (hl:FitL h m.params l) (hn:h.fuel-h.sh.steps≤n):LeftS h m.ret (runP go h m l):=by
 have hme:=smeP (ck.me m hm)
 have hen:h.enterL l m.params=true:=enter_of (n:=f.classes.length) m.params l (by rw [hf]) hl hme.2.2.2.2.2.2.2.2.1
 unfold runP
 split
 ·rename_i hb
  unfold Hp.enterB at hb
  rw [Bool.and_eq_true] at hb
  have hd:h.deep=false:=by simpa using hb.2
  have he:h.enterH m l={ h with calls:=h.calls+1 }:=by unfold Hp.enterH;rw [if_neg (by rw [hen];decide),if_neg (by rw [hd];decide)]
  rw [he]
  have e1:Ext h { h with calls:=h.calls+1 }:=Ext.same rfl rfl
  obtain ⟨st,s1,s2,s3⟩:=ck.sound m hm
  obtain ⟨A1,A2⟩:=args_fit (h:={ h with calls:=h.calls+1 }) (n:=f.classes.length) m.params l (List.replicate m.locs.toNat ty0) (List.replicate m.locs.toNat va0) 0 (hl.ext e1) hme.2.2.2.2.2.2.2.2.1 (rep_fit _ _) (rep_pairT _) (rep_pairV _) (by rw [List.length_replicate];omega)
  have hlen:∀(vs:List Va) (ls:List Va) (k:Nat),(argsP ls k vs).length=ls.length:=fun vs=>by
   induction vs with
   | nil=>intro ls k;rfl
   | cons v vs ih=>intro ls k;show (argsP (stoP ls k v) _ vs).length=_;rw [ih,stoP_length]
  refine LeftS.from e1 rfl (Int.le_refl _) (G st { h with calls:=h.calls+1 } (newCal m l) ⟨hf,⟨g.may,g.ty.same rfl rfl,g.ov,g.th⟩,hm,⟨s1,s2⟩,⟨firstT m m.locs,s3,⟨A1,FitL.nil _,A2⟩⟩,?_⟩ hn)
  show ((argsP (List.replicate m.locs.toNat va0) 0 l).length:Int)=m.locs
  rw [hlen,List.length_replicate];omega
 ·rename_i hb
  have hd:h.deep=true:=by
   unfold Hp.enterB at hb
   rw [hen] at hb
   cases hx:h.deep
   ·rw [hx] at hb;exact absurd rfl hb
   ·rfl
  have he:h.enterH m l=h.fin 5:=by unfold Hp.enterH;rw [if_neg (by rw [hen];decide),if_pos hd]
  rw [he]
  have lf:=fin_le h 5
  exact ⟨g.ok.fin (by decide),fin_ext h 5,fin_ty g.ty 5,lf.fuel,lf.steps,fun ho=>by rw [fin_over'] at ho;exact absurd ho (by decide)⟩
theorem call_went {f:Fi} {n:Nat} {go:Hp→Cal→Hp×Va} (G:GoS f n go) (ck:Checked f) {st:List (Option As)} {h:Hp} {c:Cal} {u:As} (a:At f st h c) (hu:WfA f.classes.length c.m.locs u) (hs:StepAt f c.m st c.pc.toNat u) (fs:Fits h u c) (hpc:0≤c.pc) (ok:InOk h.file.classes h.file.methods.length c.m.code.length c.locs.length (nth in0 c.m.code c.pc.toNat)) (e19:(nth in0 c.m.code c.pc.toNat).op=19) (hn:h.fuel-h.sh.steps≤n):Went f st h c u (callP go h c (nth in0 c.m.code c.pc.toNat)):=by
 have g:=a.hg
 have out:=hs.out
 have hpn:((c.pc.toNat+1:Nat):Int)=c.pc+1:=by omega
 have o:=ok.call e19
 generalize nth in0 c.m.code c.pc.toNat=i at *
 unfold OutOk at out
 rw [if_neg (by omega),if_neg (by omega),if_neg (by omega),if_neg (by omega),if_neg (by omega)] at out
 obtain ⟨s1,w1,l1⟩:=out
 rw [hpn] at l1
 unfold workT at w1
 rw [if_neg (by omega),if_neg (by omega),if_neg (by omega),if_neg (by omega),if_neg (by omega),if_neg (by omega),if_neg (by omega),if_neg (by omega),if_pos e19,Option.bind_eq_some_iff] at w1
 obtain ⟨q,w1,w2⟩:=w1
 unfold callP
 dsimp only
 rw [a.file]
 have hmm:nth me0 f.methods i.a.toNat∈f.methods:=nth_mem (by rw [←a.file];omega)
 generalize nth me0 f.methods i.a.toNat=m at *
 have hme:=smeP (ck.me m hmm)
 obtain ⟨xs,x1,x2,x3,x4⟩:=takesY_app _ w1
 have fst:=fs.st
 rw [x1] at fst
 obtain ⟨us,ws,y1,y2,y3⟩:=fst.app
 obtain ⟨t1,t2,t3⟩:=top_app y1
 have hwl:ws.length=m.params.length:=by rw [←y3.1];exact x2
 rw [hwl] at t1 t2 t3
 rw [must_t t1,if_neg (by rw [g.ov];decide),t2,t3]
 have hkx:∀x∈xs,refOk f.classes.length x∧1≤x.kind∧x.kind≤3:=fun x hx=>hu.st x (by rw [x1];exact List.mem_append_right _ hx)
 have hkq:∀x∈q.stk,1≤x.kind∧x.kind≤3:=fun x hx=>(hu.st x (by rw [x1];exact List.mem_append_left _ hx)).2
 have fl:FitL h m.params ws:=⟨hwl.symm,fun j hj=>by
  have hjx:j<xs.length:=by omega
  have:=fit_of (h:=h) g.tree (y3.2 j hjx) (by rw [a.file];exact (hkx _ (nth_mem hjx)).1) (t:=nth ty0 m.params j) (by rw [a.file];exact hme.2.2.2.2.2.2.2.2.1 _ (nth_mem hj)) (by rw [a.file];exact x4 j hj)
  exact this⟩
 have r:=run_safe G ck a.file g hmm fl hn
 generalize runP go h m ws=R at *
 have fq:Fits R.1 q { c with stk:=us }:=⟨by rw [x3];exact fs.sl.ext r.ext,y2.ext r.ext,fs.pr⟩
 split
 ·rename_i hst
  have hov:R.1.over=false:=by have:=hst.1;unfold Hp.stops at this;simp at this;exact this.1
  have hth:¬0≤R.1.thrown:=by have:=hst.1;unfold Hp.stops at this;simp at this;omega
  rcases r.go hov with ⟨g1,g2⟩|⟨g1,-⟩
  ·rw [if_neg hst.2] at w2
   have hrt:tyB f.classes.length m.ret=true:=by
    have:=hme.2.2.2.2.2.2.2.2.2.2
    unfold retB at this
    rw [Bool.or_eq_true] at this
    rcases this with this|this
    ·exact absurd (of_decide_eq_true this).1 hst.2
    ·exact this
   have hrk:=of_decide_eq_true hrt
   obtain ⟨p1,p2⟩:=fq.put (g2 hst.2) hkq (by omega) w2
   rw [p1]
   exact ⟨r.ok,r.ext,r.ty,rfl,rfl,r.fuel,r.steps,rfl,fun _=>Or.inl ⟨g1,s1,l1,p2⟩⟩
  ·exact absurd g1 hth
 ·rename_i hst
  refine ⟨r.ok,r.ext,r.ty,rfl,rfl,r.fuel,r.steps,rfl,fun ho=>?_⟩
  rcases r.go ho with ⟨g1,g2⟩|⟨g1,g2⟩
  ·have hk0:m.ret.kind=0:=by
    by_cases hk:m.ret.kind=0
    ·exact hk
    ·refine absurd ⟨?_,hk⟩ hst
     unfold Hp.stops
     have ho:R.1.over=false:=ho
     rw [ho,g1];rfl
   rw [if_pos hk0] at w2
   have w2:=Option.some.inj w2
   subst w2
   exact Or.inl ⟨g1,q,l1,fq⟩
  ·exact Or.inr ⟨g1,g2,rfl⟩
theorem ret_safe {f:Fi} (ck:Checked f) {st:List (Option As)} {h:Hp} {c:Cal} {u:As} (a:At f st h c) (hu:WfA f.classes.length c.m.locs u) (hs:StepAt f c.m st c.pc.toNat u) (fs:Fits h u c) (e20:(nth in0 c.m.code c.pc.toNat).op=20):LeftS h c.m.ret (retP h c):=by
 have g:=a.hg
 have out:=hs.out
 unfold OutOk at out
 rw [if_neg (by omega),if_neg (by omega),if_neg (by omega),if_pos e20] at out
 unfold retP;split
 ·rename_i hk
  exact LeftS.leave g.ok (Ext.refl h) g.ty rfl (Int.le_refl _) (fun _=>Or.inl ⟨g.th,fun hx=>absurd hk hx⟩)
 ·rename_i hk
  obtain ⟨p,t1⟩:=out hk
  obtain ⟨x,a1,a2,a3⟩:=takeY_app t1
  obtain ⟨v,b1,b2,b3,b4,b5,b6,b7⟩:=fs.take1 a1 a2
  have hme:=smeP (ck.me c.m a.m)
  have hrt:tyB f.classes.length c.m.ret=true:=by
   have:=hme.2.2.2.2.2.2.2.2.2.2
   unfold retB at this
   rw [Bool.or_eq_true] at this
   rcases this with this|this
   ·exact absurd (of_decide_eq_true this).1 hk
   ·exact this
  have fv:=fit_of (h:=h) g.tree b3 (by rw [a.file];exact (mem_r (a1▸hu.st)).1) (t:=c.m.ret) (by rw [a.file];exact hrt) (by rw [a.file];exact a3)
  dsimp only
  rw [must_t b1,b2]
  have hof:=fv.of (by rw [a.file];exact hrt)
  rw [must_t (by rw [g.ov,hof];rfl)]
  exact LeftS.leave g.ok (Ext.refl h) g.ty rfl (Int.le_refl _) (fun _=>Or.inl ⟨g.th,fun _=>fv⟩)
theorem loop_safe (f:Fi) (ck:Checked f):∀n:Nat,GoS f n (loopP n):=by
 intro n
 induction n with
 | zero =>
  intro st h c a hn
  show LeftS h c.m.ret (h.step.leave,va0)
  have hs:h.step=h.fin 0:=by
   unfold Hp.step;rw [if_neg (by rw [a.hg.ov];decide),if_pos (by omega)]
  rw [hs]
  have lf:=fin_le h 0
  exact LeftS.leave (a.hg.ok.fin (by decide)) (fin_ext h 0) (fin_ty a.hg.ty 0) lf.fuel lf.steps (fun ho=>by rw [fin_over'] at ho;exact absurd ho (by decide))
 | succ n ih =>
  intro st h c a hn
  unfold loopP
  split
  ·rename_i hb
   have hs:h.step=h.fin 0:=by
    unfold Hp.stepB at hb
    rw [a.hg.ov] at hb
    simp at hb
    unfold Hp.step;rw [if_neg (by rw [a.hg.ov];decide),if_pos (by omega)]
   rw [hs]
   have lf:=fin_le h 0
   exact LeftS.leave (a.hg.ok.fin (by decide)) (fin_ext h 0) (fin_ty a.hg.ty 0) lf.fuel lf.steps (fun ho=>by rw [fin_over'] at ho;exact absurd ho (by decide))
  ·rename_i hb
   have hs:h.step={ h with sh:={ h.sh with steps:=h.sh.steps+1 } }:=by
    unfold Hp.stepB at hb;simp at hb
    have:=hb.2
    unfold Hp.step;rw [if_neg (by rw [a.hg.ov];decide),if_neg (by omega)]
   rw [hs]
   have e1:Ext h { h with sh:={ h.sh with steps:=h.sh.steps+1 } }:=Ext.same rfl rfl
   refine LeftS.from e1 rfl (by dsimp only;omega) ?_
   obtain ⟨s0,l0,f0⟩:=a.lead
   have hg1:Hg { h with sh:={ h.sh with steps:=h.sh.steps+1 } }:=⟨a.hg.may,a.hg.ty.same rfl rfl,a.hg.ov,a.hg.th⟩
   have a1:At f st { h with sh:={ h.sh with steps:=h.sh.steps+1 } } c:=⟨a.file,hg1,a.m,a.sound,⟨s0,l0,f0.ext e1⟩,a.len⟩
   have hn1:({ h with sh:={ h.sh with steps:=h.sh.steps+1 } }:Hp).fuel-({ h with sh:={ h.sh with steps:=h.sh.steps+1 } }:Hp).sh.steps≤n:=by dsimp only;omega
   have f0:=f0.ext e1
   clear hs hb e1 hn
   generalize ({ h with sh:={ h.sh with steps:=h.sh.steps+1 } }:Hp)=h1 at *
   obtain ⟨p1,p2,u,q1,q2⟩:=l0
   obtain ⟨hu,hst⟩:=a.sound.2 _ u q1
   have fs:Fits h1 u c:=f0.le (by rw [←a1.file] at *;exact hg1.tree) (by rw [a1.file];exact q2)
   have hlt:c.pc<c.m.code.length:=by rw [←a.sound.1];exact p2
   have hme:=smeP (ck.me c.m a.m)
   have hin:=sin_ok (hme.2.2.2.2.2.2.2.1 _ (nth_mem (d:=in0) (i:=c.pc.toNat) (by omega)))
   have ok:InOk h1.file.classes h1.file.methods.length c.m.code.length c.locs.length (nth in0 c.m.code c.pc.toNat):=by rw [a1.file,a1.len];exact hin
   unfold stepP
   rw [if_neg (by rw [hg1.mustB (decide_eq_true hlt)];decide)]
   split
   ·rename_i e20
    exact ret_safe ck a1 hu hst fs e20
   ·rename_i e20
    split
    ·rename_i e19
     have W:=call_went ih ck a1 hu hst fs p1 ok e19 hn1
     exact next_safe ih ck.me a1 W fs p1 hst (by have:=W.fuel;have:=W.steps;omega)
    ·rename_i e19
     have W:=does_went a1 hu hst fs p1 ok e19 e20
     exact next_safe ih ck.me a1 W fs p1 hst (by have:=W.fuel;have:=W.steps;omega)
section
open Go.RowKit Go.Shelf
attribute [local go_sem] Oper.semAt_some
theorem up1_in (F:Fence) (n:Nat) (hf:F.fn 248) (hro:F.round=none) (hn:1≤n) (lp Bc Bs:Nat) (A:Option Addr) (c:Nat) (l:List Cl) (u:Nat) (ht:Tree l) (hu:u<l.length) (w:World) (J Jx:List Nat→World→Prop)
  (hY:∀pre x W,J pre W→pre.length<(ups l u).length→YieldAt F (n-1) Tryz.prog lp #[.int .i64 (x:Nat)] W fun e W' =>
   (e=.returned (.bool true)∧J (pre++[x]) W'∧Below w.heap.size W W')∨(e=.returned (.bool false)∧Jx (pre++[x]) W'))
  (hl:ClsAt w A l) (hBc:w.cell? ⟨Bc,0,none⟩=some (.int .i64 u)) (hBs:w.cell? ⟨Bs,0,none⟩=some (.slice A l.length c)) (W:World) (hW:Bl w W) (h0:J [] W) :
  CallsIn F n Tryz.prog 248 #[.func (.yield lp) #[] #[],.pointer (some ⟨Bc,0,none⟩),.pointer (some ⟨Bs,0,none⟩)] W fun e W'=>(∃v,e=.returned v) ∧
   ((∃ys,ys=ups l u∧J ys W')∨(∃pre,pre <+: ups l u∧Jx pre W')):=by
 have HT:Hid (Tree l):=ht
 have HL:Hid (ClsAt w A l):=hl
 have HBs:Hid (w.cell? ⟨Bs,0,none⟩=some (.slice A l.length c)):=hBs
 have hc0:=hW.cell hBc
 have HW:Hid (Bl w W):=hW
 clear ht hl hBs hBc hW
 refine callsIn_of_wp Tryz.func248 rfl hf ?_ hro
 simp only [Tryz.ntmps248,List.size_toArray,List.length_cons,List.length_nil,Nat.reduceAdd,Nat.reduceSub,Array.replicate_succ,Array.replicate_zero,List.push_toArray,List.append_toArray,List.nil_append,List.cons_append]
 gi_wp2
 clear hc0
 gi_loopw [4] (fun p wr=>∃(pre rest:List Nat) (z:Int),p=.int .i64 z∧Hid (ups l u=pre++rest)∧Hid ((z=-1∧rest=[])∨∃k:Nat,z=k∧k<l.length∧rest=ups l k)∧Hid (Bl w wr)∧J pre wr)
  (fun p _=>(intOf p+1).toNat)
 case atStart=>exact ⟨[],ups l u,_,rfl,rfl,.inr ⟨u,rfl,hu,rfl⟩,HW,h0⟩
 case round =>
  obtain ⟨pre,rest,z,rfl,hx,hz,hg,hJs⟩:=hrel
  rcases hz.out with ⟨rfl,rfl⟩|⟨k,rfl,hk,rfl⟩
  ·clear hz
   gi_wp2
   go_end0
   exact ⟨⟨_,rfl⟩,.inl ⟨pre,by simpa using hx.out.symm,hJs⟩⟩
  ·clear hz
   obtain ⟨fn,tmps,assign,body,hy,hR⟩:=hY pre k wr hJs (by
    rw [hx.out,List.length_append]
    have:=List.length_pos_of_mem (ups_head (l:=l) k)
    omega)
   gi_wp2
   refine hR.mono ?_
   rintro e W3 (⟨rfl,hJ3,hk3⟩|⟨rfl,hJx3⟩)
   ·have hg3:Bl w W3:=Below.trans hg.out hk3
    have hs3:=hg3.cell HBs.out
    obtain ⟨hm,hcl⟩:=HL.out
    unfold maxLen at hm
    rcases hcl with h1|⟨b,off,rfl,hcl⟩
    ·omega
    have hsup:=hg3.cell (hcl k hk).1
    by_cases hk0:k=0
    ·subst hk0
     rw [HT.out.zero,Nat.zero_mul,Nat.add_zero] at hsup
     have hx':Hid (ups l u=(pre++[0])++[]):=by rw [hx.out,ups_zero];simp [Hid]
     clear hcl hk3 hy hR hx
     have HG:Hid (Bl w W3):=hg3
     clear hg3
     gi_wp2
     go_roundw
     case rel=>exact ⟨pre++[0],[],-1,rfl,hx',.inl ⟨rfl,rfl⟩,HG,hJ3⟩
     case measure=>simp [intOf]
    ·rw [super_par HT.out (by omega) hk] at hsup
     have hp:=par_lt HT.out (by omega) hk
     have hx':Hid (ups l u=(pre++[k])++ups l (par l k)):=by rw [hx.out,ups_step HT.out (by omega) hk];simp [Hid]
     clear hcl hk3 hy hR hx
     have HG:Hid (Bl w W3):=hg3
     clear hg3
     gi_wp2
     go_roundw
     case rel=>exact ⟨pre++[k],_,_,rfl,hx',.inr ⟨par l k,rfl,by omega,rfl⟩,HG,hJ3⟩
     case measure=>simp [intOf];omega
   ·gi_wp2
    refine bodyPost_ret (results_none rfl _ _ _) rfl ?_
    refine ⟨⟨_,rfl⟩,.inr ⟨pre++[k],?_,hJx3⟩⟩
    rw [hx.out]
    by_cases hk0:k=0
    ·subst hk0;rw [ups_zero];exact List.prefix_rfl
    ·rw [ups_step HT.out (by omega) hk];exact ⟨ups l (par l k),by simp⟩
theorem upward_any (A:Option Addr) (n c:Nat) (x:Int) (w:World) :
  Calls Tryz.prog 236 #[.slice A n c,.int .i64 x] w fun e w' =>
   e=.returned (.func (.func 248) #[] #[.pointer (some ⟨w.heap.size+1,0,none⟩),.pointer (some ⟨w.heap.size,0,none⟩)])
   ∧ w'=(w.alloc (.cells #[.slice A n c] 22)).alloc (.cells #[.int .i64 x] 3):=by
 refine (callsIn_wide (n:=3)).1 ?_
 refine callsIn_of_wp Tryz.func236 rfl trivial ?_ rfl
 simp only [Tryz.ntmps236,List.size_toArray,List.length_cons,List.length_nil,Nat.reduceAdd,Nat.reduceSub,Array.replicate_succ,Array.replicate_zero,List.push_toArray,List.append_toArray,List.nil_append,List.cons_append]
 gi_wp2
 go_ret
 exact ⟨rfl,rfl⟩
theorem up_stops (n:Nat) (hn:1≤n) (Bc Bs:Nat) (A:Option Addr) (c:Nat) (l:List Cl) (u:Nat) (ht:Tree l) (hu:u<l.length) (w:World)
  (hl:ClsAt w A l) (hBc:w.cell? ⟨Bc,0,none⟩=some (.int .i64 u)) (hBs:w.cell? ⟨Bs,0,none⟩=some (.slice A l.length c)) :
  SeqStopsK Fence.wide n Tryz.prog 248 #[.pointer (some ⟨Bc,0,none⟩),.pointer (some ⟨Bs,0,none⟩)] (fun x:Nat=>#[Value.int .i64 x]) (Below w.heap.size) (fun ys=>ys=ups l u) (fun pre=>pre <+: ups l u) (ups l u).length w :=
 fun lp J Jx W hW _ _ hY h0=>up1_in Fence.wide n trivial rfl hn lp Bc Bs A c l u ht hu w J Jx hY hl hBc hBs W hW h0
end
theorem rbelow_any (A:Option Addr) (c:Nat) (l:List Cl) (x y:Int) (w:World) (hl:ClsAt w A l) (ht:Tree l) :
  Calls Tryz.prog 110 #[.slice A l.length c,.int .i64 x,.int .i64 y] w fun e w'=>e=.returned (.bool (clsI l x y&&belN l x.toNat y.toNat))∧w'=w:=by
 obtain ⟨hm,hl⟩:=hl
 unfold maxLen at hm
 by_cases hin:0≤x∧x<l.length∧0≤y∧y<l.length
 ·have hI:clsI l x y=true:=decide_eq_true hin
  rw [hI,Bool.true_and]
  clear hI
  obtain ⟨h1,h2,h3,h4⟩:=hin
  obtain ⟨u,rfl⟩:=Int.eq_ofNat_of_zero_le h1
  obtain ⟨d,rfl⟩:=Int.eq_ofNat_of_zero_le h3
  simp only [Int.toNat_natCast]
  have HT:Hid (Tree l):=ht
  rcases hl with hl|⟨b,off,rfl,hc⟩
  ·omega
  have hu:u<l.length:=by omega
  have hd:d<l.length:=by omega
  clear ht
  go_enter Tryz.func110,Tryz.ntmps110
  go_wp2
  go_loop [1] (fun i=>∃k:Nat,i=.int .i64 k∧k<l.length∧Hid (belN l u d=belN l k d)) (fun i=>(intOf i).toNat)
  case atStart=>exact ⟨u,rfl,hu,rfl⟩
  case round =>
   obtain ⟨k,rfl,hk,hb⟩:=hrel
   by_cases hlt:d<k
   ·have hsup:=(hc k hk).1
    rw [super_par HT.out (by omega) hk] at hsup
    have hp:=par_lt HT.out (by omega) hk
    have hs:=bel_step HT.out hk hlt
    have HS:Hid (belN l u d=belN l (par l k) d):=hb.out.trans hs
    clear hc hs hb
    go_wp2
    go_round
    case rel=>exact ⟨par l k,rfl,by omega,HS⟩
    case measure=>simp [intOf];omega
   ·have HS:Hid (belN l u d=decide (k=d)):=by
     refine hb.out.trans ?_
     by_cases he:k=d
     ·subst he;rw [bel_self,decide_eq_true rfl]
     ·rw [bel_low HT.out hk (by omega),decide_eq_false he]
    clear hc hb
    go_wp2
    go_ret
    refine ⟨ret_bool ?_,rfl⟩
    rw [HS.out,Bool.eq_iff_iff];simp;omega
 ·have hI:clsI l x y=false:=decide_eq_false hin
  rw [hI,Bool.false_and]
  clear hI hl ht
  go_enter Tryz.func110,Tryz.ntmps110
  go_wp2
  all_goals first
   | (go_ret;exact ⟨rfl,rfl⟩)
   | (exfalso;omega)
section
open Go.RowKit Go.Shelf
attribute [local go_sem] Oper.semAt_some
theorem below_any (A:Option Addr) (c:Nat) (l:List Cl) (u d:Nat) (ht:Tree l) (hu:u<l.length) (w:World) (hl:ClsAt w A l) :
  Calls Tryz.prog 233 #[.slice A l.length c,.int .i64 u,.int .i64 d] w fun e w'=>e=.returned (.bool (belN l u d))∧Bl w w':=by
 have HT:Hid (Tree l):=ht
 have HL:Hid (ClsAt w A l):=hl
 clear ht hl
 refine (callsIn_wide (n:=3)).1 ?_
 refine callsIn_of_wp_marks Tryz.func233 rfl trivial ?_ rfl
 simp only [Tryz.ntmps233,List.size_toArray,List.length_cons,List.length_nil,Nat.reduceAdd,Nat.reduceSub,Array.replicate_succ,Array.replicate_zero,List.push_toArray,List.append_toArray,List.nil_append,List.cons_append]
 gi_wp2_with (refine ⟨trivial,?_⟩;gi_at_call 236;refine (callsIn_wide.2 (upward_any _ _ _ _ _)).mono ?_;rintro e w' ⟨rfl,rfl⟩)
 have c0:=Boxed.new w 3 (.int .i64 (d:Int))
 have c1:=Boxed.new (w.alloc (.cells #[.int .i64 (d:Int)] 3)) 4 (.bool false)
 have c2:=Boxed.new ((w.alloc (.cells #[.int .i64 (d:Int)] 3)).alloc (.cells #[.bool false] 4)) 22 (.slice A l.length c)
 have c3:=Boxed.new (((w.alloc (.cells #[.int .i64 (d:Int)] 3)).alloc (.cells #[.bool false] 4)).alloc (.cells #[.slice A l.length c] 22)) 3 (.int .i64 (u:Int))
 simp only [World.size_alloc] at c1 c2 c3
 have hB0:Bl w ((((w.alloc (.cells #[.int .i64 (d:Int)] 3)).alloc (.cells #[.bool false] 4)).alloc (.cells #[.slice A l.length c] 22)).alloc (.cells #[.int .i64 (u:Int)] 3)):=((((Bl.refl w).alloc _).alloc _).alloc _).alloc _
 refine wpIn_rangeFunc_ownF (F:=Fence.wide) rfl (by omega) (gf:=248) (lb:=#[.pointer (some ⟨w.heap.size+1+1+1,0,none⟩),.pointer (some ⟨w.heap.size+1+1,0,none⟩)]) rfl trivial (enters_of Tryz.func248 (by kernel_rfl) rfl)
  (up_stops _ (by omega) (w.heap.size+1+1+1) (w.heap.size+1+1) A c l u HT.out hu _ (HL.out.bl hB0) c3.cell (c2.alloc _).cell) belowK_t (belowK_b (Nat.le_refl _)) (Below.refl _ _) (fun _=>rfl)
  (fun pre W=>((∀y∈pre,y≠d)∧Boxed W w.heap.size 3 (.int .i64 (d:Int))∧Boxed W (w.heap.size+1) 4 (.bool false))∧Below w.heap.size w W)
  (fun c pre W=>(c=.ret∧d∈pre∧Boxed W (w.heap.size+1) 4 (.bool true))∧Below w.heap.size w W)
  (OwnFrom.and (Own.from (fun s X Y row hs hg hr=>⟨hs.1,boxed_own _ _ (fun _=>_) s X Y row hs.2.1 hg hr,boxed_own _ _ (fun _=>_) s X Y row hs.2.2 hg hr⟩) _) (ownFrom_below (Nat.le_refl _) hB0.size))
  (fun c=>OwnFrom.and (Own.from (fun s X Y row hs hg hr=>⟨hs.1,hs.2.1,boxed_own _ _ (fun _=>_) s X Y row hs.2.2 hg hr⟩) _) (ownFrom_below (Nat.le_refl _) hB0.size))
  ⟨⟨by simp,((c0.alloc _).alloc _).alloc _,(c1.alloc _).alloc _⟩,hB0⟩
  (fun x=>{ tmps:=#[.slice A l.length c,.int .i64 u,.int .i64 d,undef,undef,.pointer (some ⟨w.heap.size,0,none⟩),.pointer (some ⟨w.heap.size+1,0,none⟩),.int .i64 (x:Int),.slice A l.length c,.int .i64 u,
   .func (.func 248) #[] #[.pointer (some ⟨w.heap.size+1+1+1,0,none⟩),.pointer (some ⟨w.heap.size+1+1,0,none⟩)],.int .i64 (x:Int),undef,undef,undef],defers:=[] }) ?assign ?body ?done ?stop
 case assign =>
  intro l x W K hK
  gi_wp2
  exact hK
 case body =>
  rintro lp pre x W ⟨⟨hp,hcw,hcr⟩,hB⟩ _
  have h1:=hcw.cell
  have h2:=hcr.cell
  have h3:=hcr.frozen
  have HB:Hid (Below w.heap.size w W):=hB
  have HC:Hid (Boxed W (w.heap.size+1) 4 (.bool false)):=hcr
  have HW:Hid (Boxed W w.heap.size 3 (.int .i64 (d:Int))):=hcw
  clear hB hcr hcw c0 c1 c2 c3 hB0
  by_cases hx:x=d
  ·subst hx
   gi_wp2
   exact ⟨KeepsOthers.setCell _ _ _,⟨rfl,List.mem_append.2 (.inr (by simp)),HC.out.set _⟩,HB.out.setCell (p:=⟨w.heap.size+1,0,none⟩) (by simp) _⟩
  ·have hx':((x:Int)==(d:Int))=false:=by simp;omega
   gi_wp2
   exact ⟨KeepsOthers.refl _,Below.refl _ _,⟨fun y hy=>(List.mem_append.1 hy).elim (hp y) (fun e=>by simp at e;subst e;exact hx),HW,HC⟩,HB⟩
 case done =>
  rintro D ys W hD rfl ⟨⟨hne,_,hcr⟩,hB⟩ hK
  have h2:=hcr.cell
  have h3:=hcr.frozen
  gi_wp2
  have hK':=(KeepsOthers.setCell W ⟨w.heap.size+1,0,none⟩ (.bool false)).same D _ hK rfl
  refine ⟨by simp,.inl ⟨_,_,rfl,run_takeDeferred hK',?_⟩⟩
  have hc5:=cell_kept (hcr.set (.bool false)).cell (grownBy_putObj' _ D (.deferred none)) (fun r e=>by cases e;exact ⟨_,hK',rfl⟩)
  refine ⟨.bool false,?_,by rw [show belN l u d=false from decide_eq_false (fun h=>hne d h rfl)],(hB.setCell (p:=⟨w.heap.size+1,0,none⟩) (by simp) _).trans (belowK_b (w:=w) (Nat.le_refl _) _ D _ _ (by simp at hD;omega) hK' rfl rfl)⟩
  simp [results,Tryz.f233,go_sem,hc5]
 case stop =>
  rintro D c pre W hD hpre ⟨⟨rfl,hin,hcr⟩,hB⟩ hK
  gi_wp2
  refine ⟨by simp,.inl ⟨_,_,rfl,run_takeDeferred hK,?_⟩⟩
  have hc5:=cell_kept hcr.cell (grownBy_putObj' _ D (.deferred none)) (fun r e=>by cases e;exact ⟨_,hK,rfl⟩)
  refine ⟨.bool true,?_,by rw [bel_iff.2 (hpre.subset hin)],hB.trans (belowK_b (w:=w) (Nat.le_refl _) W D _ _ (by simp at hD;omega) hK rfl rfl)⟩
  simp [results,Tryz.f233,go_sem,hc5]
end
section
open Go.RowKit Go.Shelf
attribute [local go_sem] Oper.semAt_some
theorem Bl.boxed {W W':World} (h:Bl W W') {B:Nat} {t:TypeId} {v:Value} (hb:Boxed W B t v):Boxed W' B t v:=(Below.block h B hb.lt).trans hb
theorem Bl.keeps {W W':World} (h:Bl W W'):KeepsOthers W W':=⟨h.size,fun i _ hi _=>(Below.block h i (Array.getElem?_eq_some_iff.1 hi).1).trans hi⟩
end
section
open Go.RowKit Go.Shelf
attribute [local go_sem] Oper.semAt_some
theorem join_any (A:Option Addr) (c:Nat) (l:List Cl) (u d:Nat) (ht:Tree l) (hu:u<l.length) (hd:d<l.length) (w:World) (hl:ClsAt w A l) :
  Calls Tryz.prog 203 #[.slice A l.length c,.int .i64 (u:Int),.int .i64 (d:Int)] w fun e w'=>e=.returned (.int .i64 ((joinN l u d:Nat):Int))∧Bl w w':=by
 have HL:Hid (ClsAt w A l):=hl
 clear hl
 have b0:=Boxed.new w 22 (.slice A l.length c)
 have b1:=Boxed.new (w.alloc (.cells #[.slice A l.length c] 22)) 3 (.int .i64 (d:Int))
 have b2:=Boxed.new ((w.alloc (.cells #[.slice A l.length c] 22)).alloc (.cells #[.int .i64 (d:Int)] 3)) 3 (.int .i64 0)
 simp only [World.size_alloc] at b1 b2
 have HB0:Hid (Boxed (((w.alloc (.cells #[.slice A l.length c] 22)).alloc (.cells #[.int .i64 (d:Int)] 3)).alloc (.cells #[.int .i64 0] 3)) w.heap.size 22 (.slice A l.length c)):=(b0.alloc _).alloc _
 have HB1:Hid (Boxed (((w.alloc (.cells #[.slice A l.length c] 22)).alloc (.cells #[.int .i64 (d:Int)] 3)).alloc (.cells #[.int .i64 0] 3)) (w.heap.size+1) 3 (.int .i64 (d:Int))):=b1.alloc _
 have HB2:Hid (Boxed (((w.alloc (.cells #[.slice A l.length c] 22)).alloc (.cells #[.int .i64 (d:Int)] 3)).alloc (.cells #[.int .i64 0] 3)) (w.heap.size+1+1) 3 (.int .i64 0)):=b2
 clear b0 b1 b2
 have HW:Hid (Bl w (((w.alloc (.cells #[.slice A l.length c] 22)).alloc (.cells #[.int .i64 (d:Int)] 3)).alloc (.cells #[.int .i64 0] 3))):=(((Bl.refl w).alloc _).alloc _).alloc _
 refine (callsIn_wide (n:=3)).1 ?_
 refine callsIn_of_wp_marks Tryz.func203 rfl trivial ?_ rfl
 simp only [Tryz.ntmps203,List.size_toArray,List.length_cons,List.length_nil,Nat.reduceAdd,Nat.reduceSub,Array.replicate_succ,Array.replicate_zero,List.push_toArray,List.append_toArray,List.nil_append,List.cons_append]
 have HT:Hid (Tree l):=ht
 clear ht
 gi_wp2_with (refine ⟨trivial,?_⟩;gi_at_call 236;refine (callsIn_wide.2 (upward_any _ _ _ _ _)).mono ?_;rintro e w' ⟨rfl,rfl⟩)
 have s3:(((w.alloc (.cells #[.slice A l.length c] 22)).alloc (.cells #[.int .i64 (d:Int)] 3)).alloc (.cells #[.int .i64 0] 3)).heap.size=w.heap.size+1+1+1:=by simp
 have b0:=(HB0.out.alloc (.cells #[.slice A l.length c] 22)).alloc (.cells #[.int .i64 (u:Int)] 3)
 have b1:=(HB1.out.alloc (.cells #[.slice A l.length c] 22)).alloc (.cells #[.int .i64 (u:Int)] 3)
 have b2:=(HB2.out.alloc (.cells #[.slice A l.length c] 22)).alloc (.cells #[.int .i64 (u:Int)] 3)
 have b3:=(Boxed.new (((w.alloc (.cells #[.slice A l.length c] 22)).alloc (.cells #[.int .i64 (d:Int)] 3)).alloc (.cells #[.int .i64 0] 3)) 22 (.slice A l.length c)).alloc (.cells #[.int .i64 (u:Int)] 3)
 have b4:=Boxed.new ((((w.alloc (.cells #[.slice A l.length c] 22)).alloc (.cells #[.int .i64 (d:Int)] 3)).alloc (.cells #[.int .i64 0] 3)).alloc (.cells #[.slice A l.length c] 22)) 3 (.int .i64 (u:Int))
 rw [World.size_alloc,s3] at b4
 rw [s3] at b3
 have hWW:Bl w (((((w.alloc (.cells #[.slice A l.length c] 22)).alloc (.cells #[.int .i64 (d:Int)] 3)).alloc (.cells #[.int .i64 0] 3)).alloc (.cells #[.slice A l.length c] 22)).alloc (.cells #[.int .i64 (u:Int)] 3)):=(HW.out.alloc _).alloc _
 have hsz0:w.heap.size+1+1+1≤(((((w.alloc (.cells #[.slice A l.length c] 22)).alloc (.cells #[.int .i64 (d:Int)] 3)).alloc (.cells #[.int .i64 0] 3)).alloc (.cells #[.slice A l.length c] 22)).alloc (.cells #[.int .i64 (u:Int)] 3)).heap.size:=by simp
 obtain ⟨W0,hW0⟩:∃W0,((((w.alloc (.cells #[.slice A l.length c] 22)).alloc (.cells #[.int .i64 (d:Int)] 3)).alloc (.cells #[.int .i64 0] 3)).alloc (.cells #[.slice A l.length c] 22)).alloc (.cells #[.int .i64 (u:Int)] 3)=W0:=⟨_,rfl⟩
 rw [hW0] at b0 b1 b2 b3 b4 hWW hsz0 ⊢
 clear hW0 HB0 HB1 HB2 HW s3
 refine wpIn_rangeFunc_ownF (F:=Fence.wide) rfl (by omega) (gf:=248) (lb:=#[.pointer (some ⟨w.heap.size+1+1+1+1,0,none⟩),.pointer (some ⟨w.heap.size+1+1+1,0,none⟩)]) rfl trivial (enters_of Tryz.func248 (by kernel_rfl) rfl)
  (up_stops _ (by omega) (w.heap.size+1+1+1+1) (w.heap.size+1+1+1) A c l u HT.out hu W0 (HL.out.bl hWW) b4.cell b3.cell) belowK_t (belowK_b (Nat.le_refl _)) (Below.refl _ _) (fun _=>rfl)
  (fun pre W=>((∀y∈pre,y∉ups l d)∧Boxed W w.heap.size 22 (.slice A l.length c)∧Boxed W (w.heap.size+1) 3 (.int .i64 (d:Int))∧Boxed W (w.heap.size+1+1) 3 (.int .i64 0))∧(W0.heap.size≤W.heap.size)∧Below w.heap.size w W)
  (fun c pre W=>(c=.ret∧∃pre' j,pre=pre'++[j]∧(∀y∈pre',y∉ups l d)∧j∈ups l d∧Boxed W (w.heap.size+1+1) 3 (.int .i64 (j:Nat)))∧Below w.heap.size w W)
  (OwnFrom.and (Own.from (fun s X Y row hs hg hr=>⟨hs.1,boxed_own _ _ (fun _=>_) s X Y row hs.2.1 hg hr,boxed_own _ _ (fun _=>_) s X Y row hs.2.2.1 hg hr,boxed_own _ _ (fun _=>_) s X Y row hs.2.2.2 hg hr⟩) _)
   (OwnFrom.and (fun _ _ _ _ hs hg _=>Nat.le_trans hs hg.size) (ownFrom_below (Nat.le_refl _) hWW.size)))
  (fun c=>OwnFrom.and (Own.from (fun s X Y row hs hg hr=>by
   obtain ⟨h1,p,j,h2,h3,h4,h5⟩:=hs
   exact ⟨h1,p,j,h2,h3,h4,boxed_own _ _ (fun _=>_) s X Y row h5 hg hr⟩) _) (ownFrom_below (Nat.le_refl _) hWW.size))
  ⟨⟨by simp,b0,b1,b2⟩,Nat.le_refl _,hWW⟩
  (fun x=>{ tmps:=#[.slice A l.length c,.int .i64 u,.int .i64 d,.pointer (some ⟨w.heap.size,0,none⟩),undef,.pointer (some ⟨w.heap.size+1,0,none⟩),.pointer (some ⟨w.heap.size+1+1,0,none⟩),.int .i64 (x:Int),.slice A l.length c,.int .i64 u,.func (.func 248) #[] #[.pointer (some ⟨w.heap.size+1+1+1+1,0,none⟩),.pointer (some ⟨w.heap.size+1+1+1,0,none⟩)],.int .i64 (x:Int),undef,undef,undef,undef,undef],defers:=[] }) ?assign ?body ?done ?stop
 case assign =>
  intro l x W K hK
  gi_wp2
  exact hK
 case body =>
  rintro lp pre x W ⟨⟨hp,k0,k1,k2⟩,hS,hB⟩ _
  have h0:=k0.cell
  have h1:=k1.cell
  have h2:=k2.cell
  have h3:=k2.frozen
  have HB:Hid (Below w.heap.size w W):=hB
  have HK:Hid (Boxed W w.heap.size 22 (.slice A l.length c)∧Boxed W (w.heap.size+1) 3 (.int .i64 (d:Int))∧Boxed W (w.heap.size+1+1) 3 (.int .i64 0)):=⟨k0,k1,k2⟩
  have HLW:Hid (ClsAt W A l):=HL.out.bl hB
  have HS:Hid (W0.heap.size≤W.heap.size):=hS
  have HP:Hid (∀y∈pre,y∉ups l d):=hp
  clear hB k0 k1 k2 b0 b1 b2 b3 b4 hWW hS hp
  cases hb:belN l d x
  ·have HX:Hid (x∉ups l d):=by intro h;rw [bel_iff.2 h] at hb;exact absurd hb (by decide)
   gi_wp2_with (refine ⟨trivial,?_⟩;gi_at_call 233;refine (CallsIn.inRound lp (callsIn_wide.2 (below_any _ _ _ _ _ HT.out hd _ HLW.out))).mono ?_;rintro e W2 ⟨he,hg2⟩;rw [hb] at he;subst he)
   refine ⟨hg2.keeps,Below.mono hg2 HS.out,⟨fun y hy=>(List.mem_append.1 hy).elim (HP.out y) (fun e=>by simp at e;subst e;exact HX.out),hg2.boxed HK.out.1,hg2.boxed HK.out.2.1,hg2.boxed HK.out.2.2⟩,Nat.le_trans HS.out hg2.size,Bl.trans HB.out hg2⟩
  ·have HX:Hid (x∈ups l d):=bel_iff.1 hb
   gi_wp2_with (refine ⟨trivial,?_⟩;gi_at_call 233;refine (CallsIn.inRound lp (callsIn_wide.2 (below_any _ _ _ _ _ HT.out hd _ HLW.out))).mono ?_;rintro e W2 ⟨he,hg2⟩;rw [hb] at he;subst he;have m0:=(hg2.boxed HK.out.2.2).cell;have m1:=(hg2.boxed HK.out.2.2).frozen)
   exact ⟨hg2.keeps.trans (KeepsOthers.setCell _ _ _),⟨rfl,pre,x,rfl,HP.out,HX.out,(hg2.boxed HK.out.2.2).set _⟩,(Bl.trans HB.out hg2).setCell (p:=⟨w.heap.size+1+1,0,none⟩) (by simp;omega) _⟩
 case done =>
  rintro D ys W hD rfl ⟨⟨hne,_,_,_⟩,_,_⟩ hK
  exact absurd (ups_root HT.out d hd) (hne 0 (ups_root HT.out u hu))
 case stop =>
  rintro D c pre W hD hpre ⟨⟨rfl,pre',j,rfl,hne,hj,hcr⟩,hB⟩ hK
  obtain ⟨post,hpost⟩:=hpre
  have HJ:Hid (joinN l u d=j):=join_is (join_cut HT.out hu (pre:=pre') (post:=post) (by rw [←hpost];simp) hne hj)
  clear hpost
  gi_wp2
  refine ⟨by simp,.inl ⟨_,_,rfl,run_takeDeferred hK,?_⟩⟩
  have hc5:=cell_kept hcr.cell (grownBy_putObj' _ D (.deferred none)) (fun r e=>by cases e;exact ⟨_,hK,rfl⟩)
  refine ⟨.int .i64 (j:Nat),?_,by rw [HJ.out],hB.trans (belowK_b (w:=w) (Nat.le_refl _) W D _ _ (by omega) hK rfl rfl)⟩
  simp [results,Tryz.f203,go_sem,hc5]
end
structure Wq (f:Fi) (m:Me) (s:As):Prop where
 wf:WfA f.classes.length m.locs s
 len:s.stk.length≤100
def tyOk (n:Nat) (t:Ty):Prop:=refOk n t∧1≤t.kind∧t.kind≤3
theorem tyB_ok {n:Nat} {t:Ty} (h:tyB n t=true):tyOk n t:=by
 have:=of_decide_eq_true h
 exact ⟨fun e=>Or.inr (by omega),by omega,by omega⟩
theorem Wq.cut {f:Fi} {m:Me} {s s1:As} {x:Ty} (w:Wq f m s) (h:s.stk=s1.stk++[x]) (hl:s1.slots=s.slots):Wq f m s1∧tyOk f.classes.length x:=by
 refine ⟨⟨⟨by rw [hl];exact w.wf.len,by rw [hl];exact w.wf.pair,by rw [hl];exact w.wf.sl,fun t ht=>w.wf.st t (by rw [h];exact List.mem_append_left _ ht)⟩,?_⟩,w.wf.st x (by rw [h];simp)⟩
 have:=w.len
 rw [h,List.length_append] at this
 omega
theorem Wq.take {f:Fi} {m:Me} {s:As} {p:Ty×As} (w:Wq f m s) (h:takeT s=some p):Wq f m p.2∧tyOk f.classes.length p.1:=w.cut (takeT_app h).1 (takeT_app h).2
theorem Wq.takeK {f:Fi} {m:Me} {s:As} {k:Int} {p:Ty×As} (w:Wq f m s) (h:takeK k s=some p):Wq f m p.2∧tyOk f.classes.length p.1:=w.cut (takeK_app h).1 (takeK_app h).2.1
theorem Wq.takeY {f:Fi} {m:Me} {s:As} {t:Ty} {s1:As} (w:Wq f m s) (h:takeY f.classes t s=some s1):Wq f m s1:=by
 obtain ⟨x,h1,h2,-⟩:=takeY_app h
 exact (w.cut h1 h2).1
theorem slots_ge (l:List Ty):l.length≤slotsN l:=by
 induction l with
 | nil=>simp
 | cons t l ih=>simp only [slotsN,List.length_cons];split<;>omega
theorem Wq.put {f:Fi} {m:Me} {s s1:As} {v:Ty} (w:Wq f m s) (hm:m.stack≤30) (hv:tyOk f.classes.length v) (h:putT m.stack v s=some s1):Wq f m s1:=by
 obtain ⟨rfl,hr⟩:=putT_eq h
 refine ⟨⟨w.wf.len,w.wf.pair,w.wf.sl,fun t ht=>?_⟩,?_⟩
 ·rw [List.mem_append,List.mem_singleton] at ht
  rcases ht with ht|ht
  ·exact w.wf.st t ht
  ·rw [ht];exact hv
 ·have:=slots_ge (s.stk++[v])
  dsimp only
  omega
theorem mem_losT {l:List Ty} {a:Nat} {x:Ty} (h:x∈losT l a):x=ty0∨x∈l:=by
 unfold losT at h
 split at h
 ·exact mem_set' h
 ·split at h
  ·exact mem_set' h
  ·exact Or.inr h
theorem Wq.write {f:Fi} {m:Me} {s:As} {a:Nat} {v:Ty} (w:Wq f m s) (ha:a<s.slots.length) (ha2:v.kind=2→a+1<s.slots.length) (hv:tyOk f.classes.length v):Wq f m { s with slots:=wrT s.slots a v }:=by
 refine ⟨⟨by dsimp only;rw [wrT_length];exact w.wf.len,wrT_pair w.wf.pair ha ha2 (by have:=hv.2;omega),fun t ht=>?_,w.wf.st⟩,w.len⟩
 have h0:refOk f.classes.length ty0∧0≤ty0.kind∧ty0.kind≤4:=⟨fun e=>absurd e (by decide),by decide,by decide⟩
 have h4:refOk f.classes.length ⟨4,0⟩∧0≤(⟨4,0⟩:Ty).kind∧(⟨4,0⟩:Ty).kind≤4:=⟨fun e=>absurd e (by decide),by decide,by decide⟩
 have hvv:refOk f.classes.length v∧0≤v.kind∧v.kind≤4:=⟨hv.1,by have:=hv.2;omega,by have:=hv.2;omega⟩
 have ht:t∈wrT s.slots a v:=ht
 unfold wrT at ht
 split at ht
 ·rcases mem_set' ht with rfl|ht
  ·exact hvv
  rcases mem_set' ht with rfl|ht
  ·exact h4
  rcases mem_losT ht with rfl|ht
  ·exact h0
  rcases mem_losT ht with rfl|ht
  ·exact h0
  exact w.wf.sl t ht
 ·rcases mem_set' ht with rfl|ht
  ·exact hvv
  rcases mem_losT ht with rfl|ht
  ·exact h0
  exact w.wf.sl t ht
theorem Wq.takes {f:Fi} {m:Me} {ts:List Ty}:∀(k:Nat) {s s1:As},Wq f m s→takesY f.classes ts k s=some s1→Wq f m s1
 | 0,s,s1,w,h=>by have h:=Option.some.inj h;subst h;exact w
 | k+1,s,s1,w,h=>by
  unfold takesY at h
  rw [Option.bind_eq_some_iff] at h
  obtain ⟨q,h1,h2⟩:=h
  exact Wq.takes k (w.takeY h1) h2
theorem Wq.work {f:Fi} {m:Me} {i:In} {s s1:As} (w:Wq f m s) (hmay:mayB f.classes=true) (hme:∀x∈f.methods,smeB f.classes f.methods.length x=true) (hm:m.stack≤30) (ok:InOk f.classes f.methods.length m.code.length m.locs i) (h:workT f m i s=some s1):Wq f m s1:=by
 have n1:tyOk f.classes.length ⟨1,0⟩:=⟨fun e=>absurd e (by decide),by decide,by decide⟩
 have n2:tyOk f.classes.length ⟨2,0⟩:=⟨fun e=>absurd e (by decide),by decide,by decide⟩
 have n3:tyOk f.classes.length ⟨3,-1⟩:=⟨fun _=>Or.inl rfl,by decide,by decide⟩
 have hlen:=w.wf.len
 unfold workT at h
 by_cases e1:i.op=1
 ·rw [if_pos e1] at h;exact w.put hm n1 h
 rw [if_neg e1] at h
 by_cases e2:i.op=2∨i.op=25
 ·rw [if_pos e2] at h;exact w.put hm n2 h
 rw [if_neg e2] at h
 by_cases e3:i.op=3
 ·rw [if_pos e3] at h;exact w.put hm n3 h
 rw [if_neg e3] at h
 by_cases e4:i.op=4
 ·rw [if_pos e4] at h
  have o:=ok.slot (Or.inl e4)
  have o2:=ok.kind (Or.inl e4)
  split at h
  ·rename_i hk
   have hx:=w.wf.sl _ (nth_mem (d:=ty0) (i:=i.a.toNat) (l:=s.slots) (by omega))
   exact w.put hm ⟨hx.1,by omega,by omega⟩ h
  ·exact absurd h (by simp)
 rw [if_neg e4] at h
 by_cases e5:i.op=5
 ·rw [if_pos e5,Option.bind_eq_some_iff] at h
  obtain ⟨p,h1,h2⟩:=h
  have o:=ok.slot (Or.inr e5)
  have h2:=Option.some.inj h2
  subst h2
  have hk:=(takeK_app h1).2.2
  have hs:=(takeK_app h1).2.1
  obtain ⟨w1,t1⟩:=w.takeK h1
  exact w1.write (by rw [hs];omega) (fun e=>by rw [hs];omega) t1
 rw [if_neg e5] at h
 by_cases e22:i.op=22
 ·rw [if_pos e22,Option.bind_eq_some_iff] at h
  obtain ⟨p,h1,h2⟩:=h
  have h2:=Option.some.inj h2
  subst h2
  exact (w.take h1).1
 rw [if_neg e22] at h
 by_cases e23:i.op=23
 ·rw [if_pos e23,Option.bind_eq_some_iff] at h
  obtain ⟨p,h1,h2⟩:=h
  rw [Option.bind_eq_some_iff] at h2
  obtain ⟨q,h2,h3⟩:=h2
  obtain ⟨w1,t1⟩:=w.take h1
  exact (w1.put hm t1 h2).put hm t1 h3
 rw [if_neg e23] at h
 by_cases e24:i.op=24
 ·rw [if_pos e24,Option.bind_eq_some_iff] at h
  obtain ⟨p,h1,h2⟩:=h
  have h2:=Option.some.inj h2
  subst h2
  exact (w.takeK h1).1
 rw [if_neg e24] at h
 by_cases e19:i.op=19
 ·rw [if_pos e19,Option.bind_eq_some_iff] at h
  obtain ⟨q,h1,h2⟩:=h
  have o:=ok.call e19
  have w1:=Wq.takes _ w h1
  split at h2
  ·have h2:=Option.some.inj h2
   subst h2;exact w1
  ·rename_i hk
   have hr:=(smeP (hme _ (nth_mem (d:=me0) (i:=i.a.toNat) (l:=f.methods) (by omega)))).2.2.2.2.2.2.2.2.2.2
   unfold retB at hr
   rw [Bool.or_eq_true] at hr
   rcases hr with hr|hr
   ·exact absurd (of_decide_eq_true hr).1 hk
   ·exact w1.put hm (tyB_ok hr) h2
 rw [if_neg e19] at h
 by_cases e6:i.op=6
 ·rw [if_pos e6,Option.bind_eq_some_iff] at h
  obtain ⟨p,h1,h2⟩:=h
  rw [Option.bind_eq_some_iff] at h2
  obtain ⟨q,h2,h3⟩:=h2
  exact ((w.takeK h1).1.takeK h2).1.put hm n1 h3
 rw [if_neg e6] at h
 by_cases e7:i.op=7
 ·rw [if_pos e7,Option.bind_eq_some_iff] at h
  obtain ⟨p,h1,h2⟩:=h
  rw [Option.bind_eq_some_iff] at h2
  obtain ⟨q,h2,h3⟩:=h2
  exact ((w.takeK h1).1.takeK h2).1.put hm n2 h3
 rw [if_neg e7] at h
 by_cases e8:i.op=8
 ·rw [if_pos e8,Option.bind_eq_some_iff] at h
  obtain ⟨p,h1,h2⟩:=h
  exact (w.takeK h1).1.put hm n2 h2
 rw [if_neg e8] at h
 by_cases e9:i.op=9
 ·rw [if_pos e9,Option.bind_eq_some_iff] at h
  obtain ⟨p,h1,h2⟩:=h
  exact (w.takeK h1).1.put hm n1 h2
 rw [if_neg e9] at h
 by_cases e10:i.op=10
 ·rw [if_pos e10,Option.bind_eq_some_iff] at h
  obtain ⟨p,h1,h2⟩:=h
  rw [Option.bind_eq_some_iff] at h2
  obtain ⟨q,h2,h3⟩:=h2
  exact ((w.takeK h1).1.takeK h2).1.put hm n1 h3
 rw [if_neg e10] at h
 by_cases e14:i.op=14
 ·rw [if_pos e14] at h
  have o:=ok.cls (Or.inl e14)
  exact w.put hm ⟨fun _=>Or.inr o,by dsimp only;omega,by dsimp only;omega⟩ h
 rw [if_neg e14] at h
 by_cases e15:i.op=15
 ·rw [if_pos e15,Option.bind_eq_some_iff] at h
  obtain ⟨p,h1,h2⟩:=h
  have o:=ok.fld (Or.inl e15)
  exact (w.takeY h1).put hm (tyB_ok (may_fldT hmay (by omega) (by omega))) h2
 rw [if_neg e15] at h
 by_cases e16:i.op=16
 ·rw [if_pos e16,Option.bind_eq_some_iff] at h
  obtain ⟨p,h1,h2⟩:=h
  exact (w.takeY h1).takeY h2
 rw [if_neg e16] at h
 by_cases e17:i.op=17
 ·rw [if_pos e17,Option.bind_eq_some_iff] at h
  obtain ⟨p,h1,h2⟩:=h
  have o:=ok.cls (Or.inr (Or.inl e17))
  exact (w.takeK h1).1.put hm ⟨fun _=>Or.inr o,by dsimp only;omega,by dsimp only;omega⟩ h2
 rw [if_neg e17] at h
 by_cases e18:i.op=18
 ·rw [if_pos e18,Option.bind_eq_some_iff] at h
  obtain ⟨p,h1,h2⟩:=h
  exact (w.takeK h1).1.put hm n1 h2
 rw [if_neg e18] at h
 have h:=Option.some.inj h
 subst h;exact w
end Go.Proofs.YtgiiapenmjollaaGreat
