import Derived.Test.YtgiiapenmjollaaGreatSrab
namespace Go.Proofs.YtgiiapenmjollaaGreat
set_option linter.all false
set_option maxHeartbeats 40000000
set_option maxRecDepth 100000
open Go.RowKit
open Go.Value (int)
open Go.IntKind (i64)
structure Kept (h:Hp) (c:aH) (d:jE):Prop where
 le:Le h d.h
 gh:Gh 0 d.h
 gc:d.h.over=false->Gc d.h d.c
 m:d.c.m=c.m
 pc:d.c.pc=c.pc
 nx:0<=d.nx/\d.nx<=c.m.code.length
theorem mA (c:aH) (k:Nat):(c.cut k).m=c.m/\(c.cut k).pc=c.pc/\(c.cut k).locs=c.locs:=by unfold aH.cut;split<;>exact ⟨rfl,rfl,rfl⟩
theorem Ba {h:Hp} {b:Bool} (ho:(h.must b).over=false):h.must b=h:=by
 have:=(zF ho).1;unfold Hp.must;rw [if_pos this]
theorem DV {c:aH} {k:Nat} (h:c.has k=true):k<=c.stk.length:=of_decide_eq_true h
theorem DW {h:Hp} {c:aH} (g:Gc h c) (k i:Nat) (hi:i<k) (hk:k<=c.stk.length):iO h (nth ag (c.top k) i):=g.stk _ (gV hk hi)
theorem kG {h:Hp} {c:aH} (g:Gc h c) (k i:Nat) (hi:i<k):iO h (nth ag (c.top k) i):=by
 by_cases hk:k<=c.stk.length
 ·exact DW g k i hi hk
 ·rw [pZ hk]
  have e:nth ag (List.replicate k ag) i=ag:=by simp [nth,List.getD,hi]
  rw [e];exact lj h
theorem lX (h:Hp) (a b:Va) (i:In):Le h (givesH h a b i):=by
 unfold givesH
 split;exact Le.refl h
 split;exact vZ ..
 split;exact vZ ..
 split;exact a8 ..
 split;exact a8 ..
 split;exact a8 ..
 split;exact yl ..
 split;exact ll ..
 split;exact zC ..
 split;exact a8 ..
 split;exact Le.refl h
 exact vY h
theorem Gh.gives {s:Nat} {h:Hp} (g:Gh s h) (a b:Va) (i:In):Gh s (givesH h a b i):=by
 unfold givesH
 split;exact g
 split;exact g.reckH ..
 split;exact g.reckH ..
 split;exact g.must _
 split;exact g.must _
 split;exact g.must _
 split;exact g.new _
 split;exact g.findH ..
 split;exact g.cast ..
 split;exact g.must _
 split;exact g
 exact g.input
theorem Bb {s:Nat} {h:Hp} (g:Gh s h) (a b:Va) (i:In) (ho:h.over=false) (ha:iO h a) (hi:i.ok):iO (givesH h a b i) (aG h a b i):=by
 have hle:=lX h a b i
 have num:∀(k n:Int) (h':Hp),k≠3->cP n->iO h' ⟨k,n⟩:=fun k n h' h1 h2=>⟨fun e=>absurd e h1,h2⟩
 by_cases e1:i.op=1
 ·have eH:givesH h a b i=h:=by simp [givesH,ho,e1]
  have eV:aG h a b i=⟨1,i.n⟩:=by simp [aG,ho,e1]
  rw [eH,eV]
  exact num _ _ _ (by omega) hi.2.2.2.2
 by_cases e2:i.op=2
 ·have eH:givesH h a b i=h:=by simp [givesH,ho,e2]
  have eV:aG h a b i=⟨2,i.n⟩:=by simp [aG,ho,e2]
  rw [eH,eV]
  exact num _ _ _ (by omega) hi.2.2.2.2
 by_cases e3:i.op=3
 ·have eH:givesH h a b i=h:=by simp [givesH,ho,e3]
  have eV:aG h a b i=⟨3,-1⟩:=by simp [aG,ho,e3]
  rw [eH,eV]
  exact ⟨fun _=>⟨Int.le_refl _,by show (-1:Int)<_;omega⟩,by show cP (-1);unfold cP;omega⟩
 by_cases e6:i.op=6
 ·have eH:givesH h a b i=h.reckH a b 1 i.a:=by simp [givesH,ho,e6]
  have eV:aG h a b i=h.reckV a b 1 i.a:=by simp [aG,ho,e6]
  rw [eH,eV]
  exact vu _ _ _ _ _ _ (by omega) ha.num
 by_cases e7:i.op=7
 ·have eH:givesH h a b i=h.reckH a b 2 i.a:=by simp [givesH,ho,e7]
  have eV:aG h a b i=h.reckV a b 2 i.a:=by simp [aG,ho,e7]
  rw [eH,eV]
  exact vu _ _ _ _ _ _ (by omega) ha.num
 by_cases e8:i.op=8
 ·have eH:givesH h a b i=h.must (decide (a.kind=1)):=by simp [givesH,ho,e8]
  have eV:aG h a b i=⟨2,a.n⟩:=by simp [aG,ho,e8]
  rw [eH,eV]
  exact num _ _ _ (by omega) ha.num
 by_cases e9:i.op=9
 ·have eH:givesH h a b i=h.must (decide (a.kind=2)):=by simp [givesH,ho,e9]
  have eV:aG h a b i=⟨1,wrap32 a.n⟩:=by simp [aG,ho,e9]
  rw [eH,eV]
  exact num _ _ _ (by omega) (pD _)
 by_cases LR:i.op=10
 ·have eH:givesH h a b i=h.must (cv a b 2):=by simp [givesH,ho,LR]
  have eV:aG h a b i=⟨1,mf a.n b.n⟩:=by simp [aG,ho,LR]
  rw [eH,eV]
  exact num _ _ _ (by omega) (by unfold mf;split;(unfold cP;omega);split<;>(unfold cP;omega))
 by_cases P5:i.op=14
 ·have eH:givesH h a b i=h.new i.a:=by simp [givesH,ho,P5]
  have eV:aG h a b i=h.newV:=by simp [aG,ho,P5]
  rw [eH,eV]
  exact Ie h _
 by_cases P6:i.op=15
 ·have eH:givesH h a b i=h.findH a i.a:=by simp [givesH,ho,P6]
  have eV:aG h a b i=h.getV a i.a i.b:=by simp [aG,ho,P6]
  rw [eH,eV]
  exact (Ig g a _ _ ha).le (ll _ _ _)
 by_cases e17:i.op=17
 ·have eH:givesH h a b i=h.cast a i.a:=by simp [givesH,ho,e17]
  have eV:aG h a b i=a:=by simp [aG,ho,e17]
  rw [eH,eV]
  exact ha.le (zC _ _ _)
 by_cases P7:i.op=18
 ·have eH:givesH h a b i=h.must (isRef a):=by simp [givesH,ho,P7]
  have eV:aG h a b i=h.isV a i.a:=by simp [aG,ho,P7]
  rw [eH,eV]
  exact num _ _ _ (by omega) (by split<;>(unfold cP;omega))
 have eH:givesH h a b i=h.input':=by simp [givesH,ho,e1,e2,e3,e6,e7,e8,e9,LR,P5,P6,e17,P7]
 have eV:aG h a b i=h.inV:=by simp [aG,ho,e1,e2,e3,e6,e7,e8,e9,LR,P5,P6,e17,P7]
 rw [eH,eV]
 exact (LQ g).le (vY h)
theorem ji {h:Hp} {c:aH} {v:Va} (gc:Gc h c) (hg:iO h v) (hst:h.stops=false) (br:(h.putH c v).over=false):Gc (h.putH c v) (c.put v) :=
 (gc.le (dr h c v)).put (hg.le (dr h c v)) (A9 br hst)
theorem kf {h:Hp} {c:aH} {i:In} {nm:Nat} (gh:Gh 1 h) (gc:Gc h c) (ho:h.over=false) (iX:h.thrown=-1) (ok:vV h.file.classes nm c.m.code.length c.locs.length i) (Bd:i.ok) (hp:0<=c.pc/\c.pc<c.m.code.length):Kept h c (aM h c i):=by
 have Vd:h.stops=false:=by unfold Hp.stops;rw [ho,iX];rfl
 have pE:0<=c.pc+1/\c.pc+1<=c.m.code.length:=by omega
 have cm:=fun k=>mA c k
 have g1:∀k,Gh 1 (h.must (c.has k)):=fun k=>gh.must _
 have l1:∀k,Le h (h.must (c.has k)):=fun k=>a8 h _
 unfold aM
 split
 ·rename_i e
  exact ⟨Le.refl h,gh.less,fun _=>gc,rfl,rfl,by have:=ok.jump (Or.inl e);dsimp only;omega⟩
 split
 ·rename_i e
  have hj:=ok.jump (Or.inr (Or.inl e))
  unfold DC
  exact ⟨(l1 1).trans (a8 _ _),((g1 1).must _).less,fun _=>(gc.cut 1).le ((l1 1).trans (a8 _ _)),(cm 1).1,(cm 1).2.1,by dsimp only;split<;>omega⟩
 split
 ·rename_i e
  have hj:=ok.jump (Or.inr (Or.inr e))
  unfold pV
  exact ⟨(l1 1).trans (a8 _ _),((g1 1).must _).less,fun _=>(gc.cut 1).le ((l1 1).trans (a8 _ _)),(cm 1).1,(cm 1).2.1,by dsimp only;split<;>omega⟩
 split
 ·unfold vN
  have hl:Le h (if (h.must (c.has 1)).over=true then h.must (c.has 1) else (h.must (c.has 1)).throw (nth ag (c.top 1) 0)):=by
   split
   ·exact l1 1
   ·exact (l1 1).trans (vW _ _)
  refine ⟨hl,?_,fun _=>(gc.cut 1).le hl,(cm 1).1,(cm 1).2.1,pE⟩
  dsimp only
  split
  ·exact (g1 1).less
  ·exact ((g1 1).throw _ ((kG gc 1 0 (by omega)).le (l1 1))).less
 split
 ·rename_i e
  obtain ⟨s1,s2,-⟩:=ok.slot (Or.inl e)
  unfold kR
  dsimp only
  split
  ·rename_i hm
   have hg:iO h (nth ag c.locs i.a.toNat):=gc.locs _ (bJ (by omega))
   have hle:=dr h c (nth ag c.locs i.a.toNat)
   refine ⟨hle,(gh.putH _ _).less,fun br=>?_,rfl,rfl,pE⟩
   exact ji gc hg Vd br
  ·exact ⟨a8 _ _,(gh.must _).less,fun _=>gc.le (a8 _ _),rfl,rfl,pE⟩
 split
 ·rename_i e
  obtain ⟨s1,s2,s3,-⟩:=ok.slot (Or.inr e)
  obtain ⟨k1,k2⟩:=ok.kind (Or.inr e)
  unfold kD
  refine ⟨(l1 1).trans (a8 _ _),((g1 1).must _).less,fun br=>?_,?_,?_,pE⟩
  ·dsimp only at br ⊢
   have hle:=(l1 1).trans (a8 (h.must (c.has 1)) (decide ((nth ag (c.top 1) 0).kind=i.b)))
   have gk:=(gc.cut 1).le hle
   split
   ·rename_i hm
    have hk:(nth ag (c.top 1) 0).kind=i.b:=of_decide_eq_true (dX hm).1
    have hg:=(kG gc 1 0 (by omega)).le hle
    have Oe:=(cm 1).2.2
    refine ⟨gk.stk,DU (fun x hx=>gk.locs x (by rw [Oe];exact hx)) hg _,DT gc.ok _ _ (by rw [hk];omega) (fun h2=>by rw [hk] at h2;have:=s3 h2;omega),gk.room,?_,gk.me,gk.mok⟩
    show ((eZ c.locs i.a.toNat (nth ag (c.top 1) 0)).length:Int)=(c.cut 1).m.locs
    rw [fS,(cm 1).1];exact gc.len
   ·exact gk
  ·dsimp only;split
   ·exact (cm 1).1
   ·exact (cm 1).1
  ·dsimp only;split
   ·exact (cm 1).2.1
   ·exact (cm 1).2.1
 split
 ·unfold DD
  exact ⟨l1 1,(g1 1).less,fun _=>(gc.cut 1).le (l1 1),(cm 1).1,(cm 1).2.1,pE⟩
 split
 ·unfold pj
  dsimp only
  have ga:=(kG gc 1 0 (by omega)).le (l1 1)
  have gk:=(gc.cut 1).le (l1 1)
  split
  ·exact ⟨l1 1,(g1 1).less,fun _=>gk,(cm 1).1,(cm 1).2.1,pE⟩
  ·rename_i QZ
   have Og:(h.must (c.has 1)).over=false:=by simpa using QZ
   have Qu:(h.must (c.has 1)).stops=false:=by unfold Hp.stops;rw [Og,jL,iX];rfl
   refine ⟨((l1 1).trans (dr _ _ _)).trans (dr _ _ _),(((g1 1).putH _ _).putH _ _).less,fun br=>?_,(cm 1).1,(cm 1).2.1,pE⟩
   dsimp only at br ⊢
   have NA:((h.must (c.has 1)).putH (c.cut 1) (nth ag (c.top 1) 0)).over=false:=by
    cases hx:((h.must (c.has 1)).putH (c.cut 1) (nth ag (c.top 1) 0)).over
    ·rfl
    ·have:((h.must (c.has 1)).putH (c.cut 1) (nth ag (c.top 1) 0)).stops=true:=by unfold Hp.stops;rw [hx];rfl
     unfold Hp.putH at br
     rw [if_pos (by unfold Hp.putH at this;exact this)] at br
     unfold Hp.putH at hx
     rw [hx] at br;cases br
   have Q1:((h.must (c.has 1)).putH (c.cut 1) (nth ag (c.top 1) 0)).stops=false:=by unfold Hp.stops;rw [NA,ln,jL,iX];rfl
   have Ve:=ji gk ga Qu NA
   exact ji Ve (ga.le (dr _ _ _)) Q1 br
 split
 ·unfold oQ
  have hl:Le h (if (h.must (c.has 1)).over=true then h.must (c.has 1) else (h.must (c.has 1)).emit (nth ag (c.top 1) 0) i.a):=by
   split
   ·exact l1 1
   ·exact (l1 1).trans (zD _ _ _)
  refine ⟨hl,?_,fun _=>(gc.cut 1).le hl,(cm 1).1,(cm 1).2.1,pE⟩
  dsimp only
  split
  ·exact (g1 1).less
  ·exact (g1 1).emit _ _
 split
 ·unfold j8
  have hl:Le h (if (h.must (c.has 2)).over=true then h.must (c.has 2) else if (h.must (c.has 2)).mustB (isRef (nth ag (c.top 2) 0))=true then (h.must (c.has 2)).put (nth ag (c.top 2) 0) i.a i.b (nth ag (c.top 2) 1) else (h.must (c.has 2)).must (isRef (nth ag (c.top 2) 0))):=by
   split
   ·exact l1 2
   ·split
    ·exact (l1 2).trans (DS _ _ _ _ _)
    ·exact (l1 2).trans (a8 _ _)
  refine ⟨hl,?_,fun _=>(gc.cut 2).le hl,(cm 2).1,(cm 2).2.1,pE⟩
  dsimp only
  split
  ·exact (g1 2).less
  ·split
   ·exact ((g1 2).put _ _ _ _ ((kG gc 2 1 (by omega)).le (l1 2))).less
   ·exact ((g1 2).must _).less
 ·unfold b8
  dsimp only
  have hl:=(l1 (aJ i.op)).trans (lX (h.must (c.has (aJ i.op))) (nth ag (c.top (aJ i.op)) 0) (nth ag (c.top (aJ i.op)) 1) i)
  split
  ·exact ⟨hl,((g1 _).gives _ _ _).less,fun _=>(gc.cut _).le hl,(cm _).1,(cm _).2.1,pE⟩
  ·rename_i hst
   refine ⟨hl.trans (dr _ _ _),(((g1 _).gives _ _ _).putH _ _).less,fun br=>?_,(cm _).1,(cm _).2.1,pE⟩
   dsimp only at br ⊢
   have DX:(givesH (h.must (c.has (aJ i.op))) (nth ag (c.top (aJ i.op)) 0) (nth ag (c.top (aJ i.op)) 1) i).stops=false:=by simpa using hst
   have NB:(h.must (c.has (aJ i.op))).over=false:=by
    cases hx:(h.must (c.has (aJ i.op))).over
    ·rfl
    ·have:givesH (h.must (c.has (aJ i.op))) (nth ag (c.top (aJ i.op)) 0) (nth ag (c.top (aJ i.op)) 1) i=h.must (c.has (aJ i.op)):=by unfold givesH;rw [if_pos hx]
     rw [this] at DX
     unfold Hp.stops at DX
     rw [hx] at DX
     cases DX
   refine ji ((gc.cut _).le hl) (Bb (g1 _) _ _ i NB ?_ Bd) DX br
   by_cases hm:0<aJ i.op
   ·exact (kG gc _ 0 hm).le (l1 _)
   ·have h0:aJ i.op=0:=by omega
    rw [h0]
    have e:nth ag (c.top 0) 0=ag:=by
     have:(c.top 0)=[]:=List.eq_nil_of_length_eq_zero (aC c 0)
     rw [this];rfl
    rw [e];exact lj _
theorem zG {h:Hp} {v:Va} {t:Ty} (ho:h.of v t=true):v.kind=t.kind:=by
 unfold Hp.of at ho
 rw [Bool.and_eq_true] at ho
 exact of_decide_eq_true ho.1
theorem zH {n:Nat} {t:Ty} (h:fu n t=true):1<=t.kind/\t.kind<=3:=by
 have:=of_decide_eq_true h
 omega
theorem hJ (h:Hp) (n:Nat):∀(l:List Va) (k:List Ty),l.length=k.length->h.enterL l k=true->(∀t∈k,fu n t=true)->aQ l=bZ k/\∀v∈l,1<=v.kind/\v.kind<=3
 | [],[],_,_,_=>⟨rfl,fun v hv=>by simp at hv⟩
 | [],_::_,hl,_,_=>by simp at hl
 | _::_,[],hl,_,_=>by simp at hl
 | v::l,t::k,hl,he,ht=>by
  unfold Hp.enterL at he
  rw [Bool.and_eq_true] at he
  have ih:=hJ h n l k (by simpa using hl) he.2 (fun x hx=>ht x (List.mem_cons_of_mem _ hx))
  have hk:=zG he.1
  have XZ:=zH (ht t (List.mem_cons_self ..))
  refine ⟨?_,fun x hx=>?_⟩
  ·simp only [aQ,bZ,ih.1,hk]
  ·rw [List.mem_cons] at hx
   rcases hx with rfl|hx
   ·omega
   ·exact ih.2 x hx
theorem kH (v:Va):aQ [v]=if v.kind=2 then 2 else 1:=by simp [aQ]
theorem oc (h:Hp):∀(l:List Va) (l0:List Va) (fG:Nat),gY l0->(∀x∈l0,iO h x)->(∀x∈l,iO h x)->(∀v∈l,1<=v.kind/\v.kind<=3)->fG+aQ l<=l0.length ->
  gY (dT l0 fG l)/\(∀x∈dT l0 fG l,iO h x)/\(dT l0 fG l).length=l0.length
 | [],l0,fG,h1,h2,_,_,_=>⟨h1,h2,rfl⟩
 | v::l,l0,fG,h1,h2,h3,h4,h5=>by
  have hv:=h3 v (List.mem_cons_self ..)
  have hk:=h4 v (List.mem_cons_self ..)
  have es:aQ (v::l)=(if v.kind=2 then 2 else 1)+aQ l:=rfl
  have ih:=oc h l (eZ l0 fG v) (fG+aQ [v]) (DT h1 fG v (by omega) (fun e=>by rw [es,if_pos e] at h5;omega)) (DU h2 hv fG) (fun x hx=>h3 x (List.mem_cons_of_mem _ hx)) (fun x hx=>h4 x (List.mem_cons_of_mem _ hx)) (by rw [fS,kH];rw [es] at h5;omega)
  refine ⟨ih.1,ih.2.1,?_⟩
  show (dT (eZ l0 fG v) (fG+aQ [v]) l).length=_
  rw [ih.2.2,fS]
theorem DY (n:Nat):gY (List.replicate n ag):=by
 have key:∀i,nth ag (List.replicate n ag) i=ag:=fun i=>by simp [nth,List.getD,List.getElem?_replicate];split<;>rfl
 exact ⟨fun i _ hk=>by rw [key] at hk;exact absurd hk (by decide),fun i _ hk=>by rw [key] at hk;exact absurd hk (by decide)⟩
theorem nz {h:Hp} {m:Me} {l:List Va} (hm:fw h.file.classes h.file.methods.length m=true) (hok:∀i∈m.code,i.ok) (hl:l.length=m.params.length) (hg:∀v∈l,iO h v) (he:h.enterL l m.params=true):Gc h (bS m l):=by
 obtain ⟨p1,p2,p3,p4,p5,p6,p7,p8,p9,Ih,KJ⟩:=jh hm
 obtain ⟨s1,s2⟩:=hJ h h.file.classes.length l m.params hl he p9
 obtain ⟨k1,k2,k3⟩:=oc h l (List.replicate m.locs.toNat ag) 0 (DY _) (fun x hx=>by rw [List.eq_of_mem_replicate hx];exact lj h) hg s2 (by rw [List.length_replicate];omega)
 refine ⟨fun v hv=>by simp [bS] at hv,k2,k1,?_,?_,hm,hok⟩
 ·show ((aQ []:Nat):Int)<=m.stack;simp [aQ];omega
 ·show ((dT (List.replicate m.locs.toNat ag) 0 l).length:Int)=m.locs
  rw [k3,List.length_replicate];omega
structure iP (h:Hp) (r:Hp×Va) (d:Int):Prop where
 file:r.1.file=h.file
 input:r.1.input=h.input
 fuel:r.1.fuel=h.fuel
 objs:h.objs.length<=r.1.objs.length
 steps:h.sh.steps<=r.1.sh.steps
 calls:r.1.calls=h.calls-d
 gh:Gh 0 r.1
 gv:iO r.1 r.2
theorem fP {h h1:Hp} {v:Va} (l:Le h h1) (g:Gh 0 h1) (hc:1<=h.calls) (gv:iO h1 v):iP h (h1.leave,v) 1:=by
 have hcc:=l.calls
 have:=g.calls
 refine ⟨l.file,l.input,l.fuel,l.objs,l.steps,?_,?_,⟨gv.ref,gv.num⟩⟩
 ·show h1.calls-1=_;omega
 ·exact ⟨fun o ho x hx=>⟨(g.held o ho x hx).ref,(g.held o ho x hx).num⟩,g.thr,g.used,g.steps,g.fuel,g.out,g.len,g.inp,by show 0<=h1.calls-1/\h1.calls-1<=20;omega⟩
theorem iP.from {h h1:Hp} {r:Hp×Va} {d:Int} (l:Le h h1) (k:iP h1 r d):iP h r d :=
 ⟨k.file.trans l.file,k.input.trans l.input,k.fuel.trans l.fuel,Nat.le_trans l.objs k.objs,Int.le_trans l.steps k.steps,by rw [k.calls,l.calls],k.gh,k.gv⟩
theorem iP.le {h:Hp} {r:Hp×Va} (k:iP h r 0):Le h r.1:=⟨k.file,k.input,k.fuel,k.objs,k.steps,by rw [k.calls];omega⟩
def Inv (h:Hp) (c:aH):Prop:=h.over=false->h.thrown=-1/\Gc h c/\0<=c.pc/\c.pc<=c.m.code.length
def DZ (f:Fi) (go:Hp->aH->Hp×Va):Prop:=∀h c,h.file=f->Gh 0 h->1<=h.calls->Inv h c->iP h (go h c) 1
def qa (f:Fi):Prop:=∀m∈f.methods,fw f.classes f.methods.length m=true/\∀i∈m.code,i.ok
section
variable {f:Fi} {go:Hp->aH->Hp×Va}
theorem v7 (G:DZ f go) {h:Hp} {m:Me} {l:List Va} (hf:h.file=f) (gh:Gh 0 h) (ho:h.over=false) (iX:h.thrown=-1) (hm:fw h.file.classes h.file.methods.length m=true) (hok:∀i∈m.code,i.ok) (hl:l.length=m.params.length) (hg:∀v∈l,iO h v):iP h (fX go h m l) 0:=by
 unfold fX
 split
 ·rename_i hb
  unfold Hp.enterB at hb
  rw [Bool.and_eq_true] at hb
  have hd:h.deep=false:=by simpa using hb.2
  have he:h.enterH m l={ h with calls:=h.calls+1 }:=by unfold Hp.enterH;rw [if_neg (by rw [hb.1];decide),if_neg (by rw [hd];decide)]
  rw [he]
  have hc:h.calls<20:=by unfold Hp.deep at hd;simpa using hd
  have hcc:=gh.calls
  have g1:Gh 0 { h with calls:=h.calls+1 }:=⟨fun o ho x hx=>⟨(gh.held o ho x hx).ref,(gh.held o ho x hx).num⟩,gh.thr,gh.used,gh.steps,gh.fuel,gh.out,gh.len,gh.inp,by dsimp only;omega⟩
  have gc:=nz hm hok hl hg hb.1
  have LS:Gc { h with calls:=h.calls+1 } (bS m l):=⟨fun v hv=>⟨(gc.stk v hv).ref,(gc.stk v hv).num⟩,fun v hv=>⟨(gc.locs v hv).ref,(gc.locs v hv).num⟩,gc.ok,gc.room,gc.len,gc.me,gc.mok⟩
  have r:=G { h with calls:=h.calls+1 } (bS m l) hf g1 (by dsimp only;omega) (fun _=>⟨iX,LS,Int.le_refl _,by show (0:Int)<=_;omega⟩)
  exact ⟨r.file,r.input,r.fuel,r.objs,r.steps,by rw [r.calls];dsimp only;omega,r.gh,r.gv⟩
 ·have le:Le h (h.enterH m l)/\Gh 0 (h.enterH m l):=by
   rename_i hb
   unfold Hp.enterB at hb
   unfold Hp.enterH
   split
   ·exact ⟨gw h 6,gh.fin 6⟩
   ·rename_i h1
    split
    ·exact ⟨gw h 5,gh.fin 5⟩
    ·rename_i h2
     exfalso;apply hb
     rw [Bool.and_eq_true]
     refine ⟨?_,?_⟩
     ·cases hx:h.enterL l m.params
      ·exact absurd hx h1
      ·rfl
     ·cases hx:h.deep
      ·rfl
      ·exact absurd hx h2
  exact ⟨le.1.file,le.1.input,le.1.fuel,le.1.objs,le.1.steps,by rw [le.1.calls];omega,le.2,lj _⟩
theorem sd (G:DZ f go) {h:Hp} {c:aH} {i:In} (hf:h.file=f) (gh:Gh 0 h) (gc:Gc h c) (ho:h.over=false) (iX:h.thrown=-1) (hmay:qa h.file) (hi:0<=i.a/\i.a<h.file.methods.length) (hp:0<=c.pc/\c.pc<c.m.code.length):Kept h c (gZ go h c i):=by
 have pE:0<=c.pc+1/\c.pc+1<=c.m.code.length:=by omega
 have jX:=hmay _ (bJ (d:=bO) (i:=i.a.toNat) (by omega:i.a.toNat<h.file.methods.length))
 unfold gZ
 dsimp only
 generalize hM:nth bO h.file.methods i.a.toNat=m at *
 have cm:=mA c m.params.length
 have l1:=a8 h (c.has m.params.length)
 have g1:=gh.must (c.has m.params.length)
 split
 ·exact ⟨l1,g1,fun _=>(gc.cut _).le l1,cm.1,cm.2.1,pE⟩
 ·rename_i br
  have nA:(h.must (c.has m.params.length)).over=false:=by simpa using br
  have e1:=Ba nA
  have Q3:=(zF nA).1
  rw [e1] at *
  have r:=v7 G hf gh ho iX jX.1 jX.2 (aC c _) (fun v hv=>by
   have e:c.top m.params.length=c.stk.drop (c.stk.length-m.params.length):=by unfold aH.top;rw [if_pos (DV Q3)]
   rw [e] at hv
   exact gc.stk v (List.mem_of_mem_drop hv))
  split
  ·rename_i hst
   refine ⟨r.le.trans (dr _ _ _),r.gh.putH _ _,fun hx=>ji ((gc.cut _).le r.le) r.gv hst.1 hx,cm.1,cm.2.1,pE⟩
  ·exact ⟨r.le,r.gh,fun _=>(gc.cut _).le r.le,cm.1,cm.2.1,pE⟩
end
theorem lY {h:Hp} {pc:Int} {n k:Nat}:∀l:List Hd,(∀x∈l,mX k n x=true)->h.caughtL pc l=-1∨(0<=h.caughtL pc l/\h.caughtL pc l<n)
 | [],_=>Or.inl rfl
 | x::l,hx=>by
  unfold Hp.caughtL;split
  ·have:=of_decide_eq_true (hx x (List.mem_cons_self ..));right;omega
  ·exact lY l (fun y hy=>hx y (List.mem_cons_of_mem _ hy))
theorem Be {f:Fi} {go:Hp->aH->Hp×Va} (G:DZ f go) {h:Hp} {c:aH} {d:jE} (hf:h.file=f) (k:Kept h c d) (hc:1<=h.calls):iP h (dM go d) 1:=by
 unfold dM
 split
 ·exact fP k.le k.gh hc (lj _)
 ·rename_i br
  have nA:d.h.over=false:=by simpa using br
  have gc:=k.gc nA
  have hcc:=k.le.calls
  split
  ·rename_i ht
   split
   ·exact fP k.le k.gh hc (lj _)
   ·rename_i hn
    have gt:Gh 0 { d.h with thrown:=-1 }:=k.gh.same rfl rfl rfl rfl rfl rfl rfl ⟨by dsimp only;omega,by dsimp only;omega⟩
    have lt:Le d.h { d.h with thrown:=-1 }:=⟨rfl,rfl,rfl,Nat.le_refl _,Int.le_refl _,rfl⟩
    have gv:iO { d.h with thrown:=-1 } ⟨3,d.h.thrown⟩:=⟨fun _=>⟨by dsimp only;omega,k.gh.thr.2⟩,by have:=k.gh.thr;have:=k.gh.len;dsimp only;unfold cP;omega⟩
    have Q4:Gc { d.h with thrown:=-1 } { d.c with stk:=[] }:=by
     have x:=gc.le lt
     refine ⟨fun v hv=>by simp at hv,x.locs,x.ok,?_,x.len,x.me,x.mok⟩
     have:=(jh x.me).1
     show ((aQ []:Nat):Int)<=_;simp [aQ];exact this
    have LU:({ d.h with thrown:=-1 }:Hp).stops=false:=by unfold Hp.stops;dsimp only;rw [nA];rfl
    refine iP.from ((k.le.trans lt).trans (dr _ _ _)) (G _ _ (by rw [(dr _ _ _).file];exact k.le.file.trans hf) (gt.putH _ _) ?_ ?_)
    ·rw [(dr _ _ _).calls];show 1<=d.h.calls;omega
    ·intro NA
     refine ⟨ln _ _ _,(ji Q4 gv LU NA).pc _,by show 0<=d.h.caughtL d.c.pc d.c.m.hands;omega,?_⟩
     have h1:=lY (h:=d.h) (pc:=d.c.pc) (n:=d.c.m.code.length) (k:=d.h.file.classes.length) d.c.m.hands (jh gc.me).2.2.2.2.2.2.2.2.2.1
     show d.h.caughtL d.c.pc d.c.m.hands<=d.c.m.code.length
     omega
  ·rename_i ht
   have LV:d.h.thrown=-1:=by have:=k.gh.thr;omega
   refine iP.from k.le (G _ _ (k.le.file.trans hf) k.gh (by omega) fun _=>⟨LV,gc.pc _,k.nx.1,?_⟩)
   show d.nx<=d.c.m.code.length
   rw [k.m];exact k.nx.2
theorem Du {h:Hp} {c:aH} (gh:Gh 0 h) (hc:1<=h.calls) (gc:Gc h c):iP h (j9 h c) 1:=by
 unfold j9;split
 ·exact fP (Le.refl h) gh hc (lj _)
 ·dsimp only
  have l1:=a8 h (c.has 1)
  have l2:=a8 (h.must (c.has 1)) (!(h.must (c.has 1)).over&&(h.must (c.has 1)).of (nth ag (c.top 1) 0) c.m.ret)
  exact fP (l1.trans l2) ((gh.must _).must _) hc ((kG gc 1 0 (by omega)).le (l1.trans l2))
theorem lZ {h:Hp} {c:aH} (gc:Gc h c) (hp:0<=c.pc/\c.pc<c.m.code.length):vV h.file.classes h.file.methods.length c.m.code.length c.locs.length (nth fW c.m.code c.pc.toNat)/\(nth fW c.m.code c.pc.toNat).ok:=by
 have hlt:c.pc.toNat<c.m.code.length:=by omega
 have h8:=(jh gc.me).2.2.2.2.2.2.2.1 _ (bJ (d:=fW) hlt)
 refine ⟨?_,gc.mok _ (bJ hlt)⟩
 rw [gc.len]
 exact LN h8
theorem Bf {f:Fi} {go:Hp->aH->Hp×Va} (G:DZ f go) {h:Hp} {c:aH} (hf:h.file=f) (hmay:qa f) (gh:Gh 1 h) (hc:1<=h.calls) (ho:h.over=false) (iX:h.thrown=-1) (gc:Gc h c) (hp:0<=c.pc/\c.pc<=c.m.code.length):iP h (gr go h c) 1:=by
 unfold gr;split
 ·exact fP (a8 _ _) (gh.must _).less hc (lj _)
 ·rename_i hm
  have Vf:h.mustB (decide (c.pc<c.m.code.length))=true:=by simpa using hm
  have hlt:c.pc<c.m.code.length:=of_decide_eq_true (dX Vf).1
  obtain ⟨ok,Bd⟩:=lZ gc ⟨hp.1,hlt⟩
  split
  ·exact Du gh.less hc gc
  ·refine Be G hf (c:=c) ?_ hc
   split
   ·rename_i e
    exact sd G hf gh.less gc ho iX (hf▸hmay) (ok.call e) ⟨hp.1,hlt⟩
   ·exact kf gh gc ho iX ok Bd ⟨hp.1,hlt⟩
theorem se (f:Fi) (hmay:qa f):∀n:Nat,DZ f (bF n):=by
 intro n
 induction n with
 | zero =>
  intro h c hf gh hc hi
  show iP h (h.step.leave,ag) 1
  refine fP (jI h) ?_ hc (lj _)
  cases hb:h.stepB
  ·exact gh.step0 hb
  ·exact (gh.step hb).less
 | succ n ih =>
  intro h c hf gh hc hi
  unfold bF
  split
  ·rename_i hb
   exact fP (jI h) (gh.step0 hb) hc (lj _)
  ·rename_i hb
   have vt:h.stepB=true:=by simpa using hb
   have ho:h.over=false:=by unfold Hp.stepB at vt;simp at vt;exact vt.1
   obtain ⟨iX,gc,hp⟩:=hi ho
   have hs:h.step={ h with sh:={ h.sh with steps:=h.sh.steps+1 } }:=by
    unfold Hp.stepB at vt;simp at vt
    unfold Hp.step;rw [if_neg (by rw [ho];decide),if_neg (by omega)]
   have l:=jI h
   refine iP.from l (Bf ih (l.file.trans hf) hmay (gh.step vt) (by rw [l.calls];exact hc) ?_ ?_ (gc.le l) hp)
   ·rw [hs];exact ho
   ·rw [hs];exact iX
theorem Ii (c a:Int) (b:Nat) (w:World) (hc:w.cell? ⟨b,0,none⟩=some (int i64 c)) :
  Calls Tryz.prog 190 #[int i64 a,.pointer (some ⟨b,0,none⟩)] w fun e w'=>e=.returned (.bool (jB c a))/\w'=w:=by
 by_cases h1:c=1
 ·subst h1
  rw [N5]
  go_enter Tryz.func190,Tryz.ntmps190
  go_wp2
  go_ret
  exact ⟨rfl,rfl⟩
 by_cases h2:c=2
 ·subst h2
  rw [N6]
  go_enter Tryz.func190,Tryz.ntmps190
  go_wp2
  go_ret
  exact ⟨rfl,rfl⟩
 by_cases h3:c=3
 ·subst h3
  rw [N7]
  go_enter Tryz.func190,Tryz.ntmps190
  go_wp2
  go_ret
  exact ⟨rfl,rfl⟩
 by_cases h4:c=4
 ·subst h4
  rw [N8]
  go_enter Tryz.func190,Tryz.ntmps190
  go_wp2
  go_ret
  exact ⟨rfl,rfl⟩
 rw [N9 c a h1 h2 h3 h4]
 go_enter Tryz.func190,Tryz.ntmps190
 go_wp2
 go_ret
 exact ⟨rfl,rfl⟩
structure Safe (P:Hp->Prop):Prop where
 fin:∀(h:Hp) (e:Int),e=3∨e=4∨e=6->P h->P (h.fin e)
 obj:∀(h:Hp) (o:List Ob),P h->P { h with objs:=o }
 thr:∀(h:Hp) (t:Int),P h->P { h with thrown:=t }
 out:∀(h:Hp) (n:Int),P h->P { h with sh:={ h.sh with out:=h.sh.out++[n] } }
 use:∀(h:Hp),P h->P { h with sh:={ h.sh with used:=h.sh.used+1 } }
section
variable {P:Hp->Prop}
theorem Safe.must (S:Safe P) {h:Hp} (hf:P h) (b:Bool):P (h.must b):=by
 unfold Hp.must
 split
 ·exact hf
 ·exact S.fin _ _ (by decide) hf
theorem Safe.new (S:Safe P) {h:Hp} (hf:P h) (c:Int):P (h.new c):=by
 unfold Hp.new
 split
 ·exact S.fin _ _ (by decide) hf
 ·exact S.obj _ _ hf
theorem Safe.raise (S:Safe P) {h:Hp} (hf:P h) (c:Int):P (h.raise c):=by
 unfold Hp.raise
 split
 ·exact S.new hf c
 ·exact S.thr _ _ (S.new hf c)
theorem Safe.throw (S:Safe P) {h:Hp} (hf:P h) (v:Va):P (h.throw v):=by
 unfold Hp.throw
 split
 ·split
  ·exact S.raise hf 1
  ·exact S.thr _ _ hf
 ·exact S.must hf _
theorem Safe.findH (S:Safe P) {h:Hp} (hf:P h) (r:Va) (c:Int):P (h.findH r c):=by
 unfold Hp.findH
 split
 ·split
  ·exact S.raise hf 1
  ·exact hf
 ·exact S.must hf _
theorem Safe.put (S:Safe P) {h:Hp} (hf:P h) (r:Va) (c k:Int) (v:Va):P (h.put r c k v):=by
 unfold Hp.put
 split
 ·split
  ·exact S.findH hf r c
  ·exact S.obj _ _ (S.findH hf r c)
 ·exact S.must hf _
theorem Safe.cast (S:Safe P) {h:Hp} (hf:P h) (v:Va) (c:Int):P (h.cast v c):=by
 unfold Hp.cast
 split
 ·split
  ·exact hf
  ·exact S.raise hf 3
 ·exact S.must hf _
theorem Safe.emit (S:Safe P) {h:Hp} (hf:P h) (v:Va) (k:Int):P (h.emit v k):=by
 unfold Hp.emit
 split
 ·exact S.out _ _ hf
 ·exact S.must hf _
theorem Safe.input (S:Safe P) {h:Hp} (hf:P h):P h.input':=by
 unfold Hp.input'
 split
 ·exact S.fin _ _ (by decide) hf
 ·exact S.use _ hf
theorem Safe.reckH (S:Safe P) {h:Hp} (hf:P h) (a b:Va) (k op:Int):P (h.reckH a b k op):=by
 unfold Hp.reckH
 split
 ·split
  ·exact hf
  ·exact S.raise hf 2
 ·exact S.must hf _
theorem Safe.putH (S:Safe P) {h:Hp} (hf:P h) (c:aH) (v:Va):P (h.putH c v):=by
 unfold Hp.putH
 split
 ·exact hf
 ·exact S.must hf _
theorem Safe.givesH (S:Safe P) {h:Hp} (hf:P h) (a b:Va) (i:In):P (givesH h a b i):=by
 unfold Go.Proofs.YtgiiapenmjollaaGreat.givesH
 split
 ·exact hf
 split
 ·exact S.reckH hf _ _ _ _
 split
 ·exact S.reckH hf _ _ _ _
 split
 ·exact S.must hf _
 split
 ·exact S.must hf _
 split
 ·exact S.must hf _
 split
 ·exact S.new hf _
 split
 ·exact S.findH hf _ _
 split
 ·exact S.cast hf _ _
 split
 ·exact S.must hf _
 split
 ·exact hf
 ·exact S.input hf
theorem Safe.does (S:Safe P) {h:Hp} (hf:P h) (c:aH) (i:In):P (aM h c i).h:=by
 have m:=fun b=>S.must hf b
 unfold aM
 split
 ·exact hf
 split
 ·exact S.must (m _) _
 split
 ·exact S.must (m _) _
 split
 ·unfold vN;dsimp only;split
  ·exact m _
  ·exact S.throw (m _) _
 split
 ·unfold kR;dsimp only;split
  ·exact S.putH hf _ _
  ·exact m _
 split
 ·exact S.must (m _) _
 split
 ·exact m _
 split
 ·unfold pj;dsimp only;split
  ·exact m _
  ·exact S.putH (S.putH (m _) _ _) _ _
 split
 ·unfold oQ;dsimp only;split
  ·exact m _
  ·exact S.emit (m _) _ _
 split
 ·unfold j8;dsimp only;split
  ·exact m _
  ·split
   ·exact S.put (m _) _ _ _ _
   ·exact S.must (m _) _
 ·unfold b8;dsimp only;split
  ·exact S.givesH (m _) _ _ _
  ·exact S.putH (S.givesH (m _) _ _ _) _ _
end
structure Mo where
 fin:Bool
 how:Int
 v:Va
 h:Hp
 cs:List aH
def v8 (h:Hp) (cs:List aH):Mo:=⟨false,0,ag,h,cs⟩
def gL (how:Int) (v:Va) (h:Hp):Mo:=⟨true,how,v,h,[]⟩
def unwM (h:Hp):List aH->Mo
 | []=>gL 2 ⟨3,h.thrown⟩ h
 | c::cs=>if h.caughtL c.pc c.m.hands<0 then unwM h.leave cs
  else if (aQ [(⟨3,h.thrown⟩:Va)]:Int)<=c.m.stack then v8 { h with thrown:=-1 } ({ c with stk:=[⟨3,h.thrown⟩],pc:=h.caughtL c.pc c.m.hands }::cs)
  else gL 6 ag h
def ig (h:Hp) (v:Va):List aH->Mo
 | []=>gL 1 v h
 | c::cs=>if v.kind=0 then v8 h ({ c with pc:=c.pc+1 }::cs)
  else if (aQ (c.stk++[v]):Int)<=c.m.stack then v8 h ({ c.put v with pc:=c.pc+1 }::cs)
  else gL 6 ag h
def yo (h:Hp) (c:aH) (cs:List aH):Mo :=
 if c.m.ret.kind=0 then ig h.leave ag cs
 else if c.has 1=false then gL 6 ag h
 else if h.of (nth ag (c.top 1) 0) c.m.ret=true then ig h.leave (nth ag (c.top 1) 0) cs
 else gL 6 ag h
def sZ (h:Hp) (c:aH) (cs:List aH) (i:In):Mo :=
 let m:=nth bO h.file.methods i.a.toNat
 if c.has m.params.length=false then gL 6 ag h
 else if h.enterL (c.top m.params.length) m.params=false then gL 6 ag h
 else if h.deep=true then gL 5 ag h
 else v8 { h with calls:=h.calls+1 } (bS m (c.top m.params.length)::c.cut m.params.length::cs)
def po (d:jE) (cs:List aH):Mo :=
 if d.h.over=true then gL d.h.sh.fin ag d.h
 else if 0<=d.h.thrown then unwM d.h (d.c::cs)
 else v8 d.h ({ d.c with pc:=d.nx }::cs)
def dU (h:Hp) (c:aH) (cs:List aH):Mo :=
 if ¬c.pc<c.m.code.length then gL 6 ag h
 else if (nth fW c.m.code c.pc.toNat).op=20 then yo h c cs
 else if (nth fW c.m.code c.pc.toNat).op=19 then sZ h c cs (nth fW c.m.code c.pc.toNat)
 else po (aM h c (nth fW c.m.code c.pc.toNat)) cs
def runM:Nat->Hp->List aH->Mo
 | 0,h,cs=>gL 0 ag h
 | n+1,h,[]=>gL 0 ag h
 | n+1,h,c::cs=>if h.stepB=false then gL 0 ag h
  else if (dU h.step c cs).fin=true then dU h.step c cs
  else runM n (dU h.step c cs).h (dU h.step c cs).cs
def od (o:Mo):Sh :=
 if o.how=2 then ⟨2,0,(o.h.obj o.v.n).cls,o.h.sh.out,o.h.sh.used,o.h.sh.steps⟩
 else ⟨o.how,if o.v.kind=3 then 0 else o.v.n,0,o.h.sh.out,o.h.sh.used,o.h.sh.steps⟩
def qc (n:Nat) (h:Hp) (cs:List aH):Sh:=od (runM n h cs)
def rE (k:Nat) (o:Mo):Sh:=if o.fin=true then od o else qc k o.h o.cs
def jM (k:Nat) (r:Hp×Va) (cs:List aH):Sh :=
 if r.1.over=true then ⟨r.1.sh.fin,0,0,r.1.sh.out,r.1.sh.used,r.1.sh.steps⟩
 else if 0<=r.1.thrown then rE k (unwM r.1 cs)
 else rE k (ig r.1 r.2 cs)
def cq (k:Nat) (h:Hp):Prop:=h.fuel-h.sh.steps<=k
section
variable (h:Hp) (c:aH) (i:In)
theorem Bh:Le h (b8 h c i).h:=by
 unfold b8
 dsimp only
 split
 ·exact (a8 h _).trans (lX _ _ _ _)
 ·exact ((a8 h _).trans (lX _ _ _ _)).trans (dr _ _ _)
theorem nC:Le h (aM h c i).h:=by
 unfold aM
 split
 ·exact Le.refl h
 split
 ·exact (a8 h _).trans (a8 _ _)
 split
 ·exact (a8 h _).trans (a8 _ _)
 split
 ·unfold vN;dsimp only;split
  ·exact a8 h _
  ·exact (a8 h _).trans (vW _ _)
 split
 ·unfold kR;dsimp only;split
  ·exact dr _ _ _
  ·exact a8 h _
 split
 ·exact (a8 h _).trans (a8 _ _)
 split
 ·exact a8 h _
 split
 ·unfold pj;dsimp only;split
  ·exact a8 h _
  ·exact ((a8 h _).trans (dr _ _ _)).trans (dr _ _ _)
 split
 ·unfold oQ;dsimp only;split
  ·exact a8 h _
  ·exact (a8 h _).trans (zD _ _ _)
 split
 ·unfold j8;dsimp only;split
  ·exact a8 h _
  ·split
   ·exact (a8 h _).trans (DS _ _ _ _ _)
   ·exact (a8 h _).trans (a8 _ _)
 ·exact Bh h c i
theorem LW:(aM h c i).c.m=c.m:=by
 have hc:=fun k=>(mA c k).1
 unfold aM
 split
 ·rfl
 split
 ·exact hc 1
 split
 ·exact hc 1
 split
 ·exact hc 1
 split
 ·unfold kR;dsimp only;split<;>rfl
 split
 ·unfold kD;dsimp only;split
  ·exact hc 1
  ·exact hc 1
 split
 ·exact hc 1
 split
 ·unfold pj;dsimp only;split
  ·exact hc 1
  ·exact hc 1
 split
 ·exact hc 1
 split
 ·exact hc 2
 ·unfold b8;dsimp only;split
  ·exact hc _
  ·exact hc _
end
structure Lf (h h':Hp):Prop where
 fuel:h'.fuel=h.fuel
 steps:h.sh.steps<=h'.sh.steps
theorem Lf.refl (h:Hp):Lf h h:=⟨rfl,Int.le_refl _⟩
theorem Lf.trans {a b c:Hp} (h:Lf a b) (k:Lf b c):Lf a c:=⟨k.fuel.trans h.fuel,Int.le_trans h.steps k.steps⟩
theorem Le.lf {h h':Hp} (l:Le h h'):Lf h h':=⟨l.fuel,l.steps⟩
theorem Lf.enough {h h':Hp} (l:Lf h h') {k:Nat} (e:cq k h):cq k h':=by
 have:=l.fuel;have:=l.steps;unfold cq at *;omega
theorem fN (h:Hp):Lf h h.leave:=⟨rfl,Int.le_refl _⟩
theorem unw_lf:∀(cs:List aH) (h:Hp),Lf h (unwM h cs).h
 | [],h=>Lf.refl h
 | c::cs,h=>by
  unfold unwM
  split
  ·exact (fN h).trans (unw_lf cs h.leave)
  ·split
   ·exact ⟨rfl,Int.le_refl _⟩
   ·exact Lf.refl h
theorem zI (h:Hp) (v:Va) (cs:List aH):Lf h (ig h v cs).h:=by
 cases cs with
 | nil=>exact Lf.refl h
 | cons c cs =>
  have e:(ig h v (c::cs)).h=h:=by
   rw [ig]
   by_cases h1:v.kind=0
   ·rw [if_pos h1];rfl
   ·rw [if_neg h1]
    by_cases h2:(aQ (c.stk++[v]):Int)<=c.m.stack
    ·rw [if_pos h2];rfl
    ·rw [if_neg h2];rfl
  rw [e]
  exact Lf.refl h
theorem pF (h:Hp) (c:aH) (cs:List aH):Lf h (dU h c cs).h:=by
 unfold dU
 split
 ·exact Lf.refl h
 split
 ·unfold yo
  split
  ·exact (fN h).trans (zI _ _ _)
  split
  ·exact Lf.refl h
  split
  ·exact (fN h).trans (zI _ _ _)
  ·exact Lf.refl h
 split
 ·unfold sZ
  dsimp only
  split
  ·exact Lf.refl h
  split
  ·exact Lf.refl h
  split
  ·exact Lf.refl h
  ·exact ⟨rfl,Int.le_refl _⟩
 ·unfold po
  have hl:=(nC h c (nth fW c.m.code c.pc.toNat)).lf
  split
  ·exact hl
  split
  ·exact hl.trans (unw_lf _ _)
  ·exact hl
theorem fV {h:Hp} (hb:h.stepB=true):h.step.sh.steps=h.sh.steps+1/\h.step.fuel=h.fuel/\h.step.over=false/\h.step.thrown=h.thrown/\h.step.file=h.file/\h.step.calls=h.calls:=by
 unfold Hp.stepB at hb
 simp at hb
 have e:h.step={ h with sh:={ h.sh with steps:=h.sh.steps+1 } }:=by
  unfold Hp.step
  rw [if_neg (by rw [hb.1];decide),if_neg (by omega)]
 rw [e]
 exact ⟨rfl,rfl,hb.1,rfl,rfl,rfl⟩
theorem lq {k:Nat} {h:Hp} (e:cq 0 h):h.stepB=false:=by
 unfold cq at e
 unfold Hp.stepB
 have:¬h.sh.steps<h.fuel:=by omega
 simp [this]
theorem fj {k:Nat} {h:Hp} (e:cq (k+1) h) (hb:h.stepB=true):cq k h.step:=by
 obtain ⟨h1,h2,-⟩:=fV hb
 unfold cq at *
 omega
theorem qd:∀(k k':Nat) (h:Hp) (cs:List aH),cq k h->cq k' h->runM k h cs=runM k' h cs
 | 0,0,h,cs,_,_=>rfl
 | 0,k'+1,h,[],_,_=>rfl
 | 0,k'+1,h,c::cs,e,_=>by
  unfold runM
  rw [if_pos (lq (k:=0) e)]
 | k+1,0,h,[],_,_=>rfl
 | k+1,0,h,c::cs,_,e=>by
  unfold runM
  rw [if_pos (lq (k:=0) e)]
 | k+1,k'+1,h,[],_,_=>rfl
 | k+1,k'+1,h,c::cs,e,e'=>by
  rw [runM,runM]
  by_cases hb:h.stepB=false
  ·rw [if_pos hb,if_pos hb]
  ·have vt:h.stepB=true:=by simpa using hb
   rw [if_neg hb,if_neg hb]
   by_cases hf:(dU h.step c cs).fin=true
   ·rw [if_pos hf,if_pos hf]
   ·rw [if_neg hf,if_neg hf]
    exact qd k k' _ _ ((pF h.step c cs).enough (fj e vt)) ((pF h.step c cs).enough (fj e' vt))
theorem Bi {k k':Nat} {o:Mo} (e:cq k o.h) (e':cq k' o.h):rE k o=rE k' o:=by
 unfold rE qc
 rw [qd k k' o.h o.cs e e']
theorem LX {k:Nat} {h:Hp} {c:aH} {cs:List aH} (hb:h.stepB=true):qc (k+1) h (c::cs)=rE k (dU h.step c cs):=by
 unfold qc rE
 rw [runM,if_neg (by rw [hb];decide)]
 split<;>rfl
structure KK (n:Nat) (go:Hp->aH->Hp×Va):Prop where
 lf:∀h c,Lf h (go h c).1
 kind:∀h c,cq n h->(go h c).1.stops=false->(go h c).2.kind=c.m.ret.kind
theorem qe {h:Hp} {b:Bool} (ho:(h.must b).leave.stops=false) (hb:h.over=false):b=true:=by
 cases b with
 | true=>rfl
 | false =>
  simp [Hp.must,Hp.fin,hb,Hp.stops,Hp.leave] at ho
theorem LY (go:Hp->aH->Hp×Va) (h:Hp) (c:aH) (i:In):(gZ go h c i).c.m=c.m:=by
 unfold gZ
 dsimp only
 split
 ·exact (mA c _).1
 ·split
  ·exact (mA c _).1
  ·exact (mA c _).1
theorem wa (h:Hp) (m:Me) (l:List Va):Lf h (h.enterH m l):=by
 unfold Hp.enterH
 split
 ·exact (gw h 6).lf
 ·split
  ·exact (gw h 5).lf
  ·exact ⟨rfl,Int.le_refl _⟩
section
variable {n:Nat} {go:Hp->aH->Hp×Va}
theorem D1 (G:KK n go) (h:Hp) (m:Me) (l:List Va):Lf h (fX go h m l).1:=by
 unfold fX
 split
 ·exact (wa h m l).trans (G.lf _ _)
 ·exact wa h m l
theorem su (G:KK n go) (h:Hp) (c:aH) (i:In):Lf h (gZ go h c i).h:=by
 unfold gZ
 dsimp only
 split
 ·exact (a8 h _).lf
 ·split
  ·exact ((a8 h _).lf.trans (D1 G _ _ _)).trans (dr _ _ _).lf
  ·exact (a8 h _).lf.trans (D1 G _ _ _)
theorem Ij (G:KK n go) (d:jE):Lf d.h (dM go d).1:=by
 unfold dM
 split
 ·exact fN _
 split
 ·split
  ·exact fN _
  ·refine Lf.trans ?_ (G.lf _ _)
   refine Lf.trans ?_ (dr _ _ _).lf
   exact ⟨rfl,Int.le_refl _⟩
 ·exact G.lf _ _
theorem Bj (G:KK n go) (d:jE) (e:cq n d.h) (hs:(dM go d).1.stops=false):(dM go d).2.kind=d.c.m.ret.kind:=by
 unfold dM at hs ⊢
 split
 ·rename_i h1
  rw [if_pos h1] at hs
  simp [Hp.stops,Hp.leave,h1] at hs
 ·rename_i h1
  rw [if_neg h1] at hs
  split
  ·rename_i h2
   rw [if_pos h2] at hs
   split
   ·rename_i h3
    rw [if_pos h3] at hs
    have:(d.h.leave,ag).1.stops=true:=by simp [Hp.stops,Hp.leave,h2]
    rw [this] at hs
    exact absurd hs (by decide)
   ·rename_i h3
    rw [if_neg h3] at hs
    refine G.kind _ _ ?_ hs
    refine Lf.enough ?_ e
    refine Lf.trans ?_ (dr _ _ _).lf
    exact ⟨rfl,Int.le_refl _⟩
  ·rename_i h2
   rw [if_neg h2] at hs
   exact G.kind _ _ e hs
end
theorem LZ (h:Hp) (c:aH):Lf h (j9 h c).1:=by
 unfold j9
 split
 ·exact fN h
 ·exact ((a8 h _).trans (a8 _ _)).lf.trans (fN _)
theorem we (h:Hp) (c:aH) (ho:h.over=false) (hs:(j9 h c).1.stops=false):(j9 h c).2.kind=c.m.ret.kind:=by
 unfold j9 at hs ⊢
 split
 ·rename_i h1;exact h1.symm
 ·rename_i h1
  rw [if_neg h1] at hs
  dsimp only at hs ⊢
  have NB:(h.must (c.has 1)).over=false:=by
   cases hc:c.has 1 with
   | true=>simpa [Hp.must] using ho
   | false =>
    exfalso
    rw [hc] at hs
    simp [Hp.must,Hp.fin,ho,Hp.stops,Hp.leave] at hs
  have:=qe hs NB
  rw [Bool.and_eq_true] at this
  exact zG this.2
section
variable {n:Nat} {go:Hp->aH->Hp×Va}
theorem D2 (G:KK n go) (h:Hp) (c:aH):Lf h (gr go h c).1:=by
 unfold gr
 split
 ·exact (a8 h _).lf.trans (fN _)
 split
 ·exact LZ h c
 ·refine Lf.trans ?_ (Ij G _)
  split
  ·exact su G h c _
  ·exact (nC h c _).lf
theorem yp (G:KK n go) (h:Hp) (c:aH) (e:cq n h) (ho:h.over=false) (hs:(gr go h c).1.stops=false):(gr go h c).2.kind=c.m.ret.kind:=by
 unfold gr at hs ⊢
 split
 ·rename_i h1
  rw [if_pos h1] at hs
  have:=qe hs ho
  unfold Hp.mustB at h1
  rw [this,ho] at h1
  simp at h1
 ·rename_i h1
  rw [if_neg h1] at hs
  split
  ·rename_i h2
   rw [if_pos h2] at hs
   exact we h c ho hs
  ·rename_i h2
   rw [if_neg h2] at hs
   have e2:cq n (if (nth fW c.m.code c.pc.toNat).op=19 then gZ go h c (nth fW c.m.code c.pc.toNat) else aM h c (nth fW c.m.code c.pc.toNat)).h:=by
    split
    ·exact (su G h c _).enough e
    ·exact (nC h c _).lf.enough e
   rw [Bj G _ e2 hs]
   split
   ·rw [LY]
   ·rw [LW]
end
theorem qf (h:Hp):Lf h h.step:=(jI h).lf
theorem qg {h:Hp} (hb:h.stepB=false):h.step.over=true:=by
 unfold Hp.stepB at hb
 unfold Hp.step
 by_cases ho:h.over=true
 ·rw [if_pos ho];exact ho
 ·rw [if_neg ho]
  simp [ho] at hb
  rw [if_pos hb]
  simp [Hp.fin,ho]
theorem nD:∀n:Nat,KK n (bF n)
 | 0=>⟨fun h c=>(qf h).trans (fN _),fun h c e hs=>by
   exfalso
   have:=qg (lq (k:=0) e)
   simp [bF,Hp.stops,Hp.leave,this] at hs⟩
 | n+1=>by
  have G:=nD n
  refine ⟨fun h c=>?_,fun h c e hs=>?_⟩
  ·unfold bF
   split
   ·exact (qf h).trans (fN _)
   ·exact (qf h).trans (D2 G _ _)
  ·unfold bF at hs ⊢
   split
   ·rename_i h1
    rw [if_pos h1] at hs
    have:=qg h1
    simp [Hp.stops,Hp.leave,this] at hs
   ·rename_i h1
    rw [if_neg h1] at hs
    have hb:h.stepB=true:=by simpa using h1
    exact yp G _ _ (fj e hb) (fV hb).2.2.1 hs
theorem fB {k:Nat} {r:Hp×Va} {cs:List aH} (h:r.1.over=true):jM k r cs=⟨r.1.sh.fin,0,0,r.1.sh.out,r.1.sh.used,r.1.sh.steps⟩:=by unfold jM;rw [if_pos h]
theorem kI (k:Nat) (how:Int) (h:Hp) (hn:how≠2):rE k (gL how ag h)=⟨how,0,0,h.sh.out,h.sh.used,h.sh.steps⟩:=by
 unfold rE gL od
 dsimp only
 rw [if_pos rfl,if_neg hn]
 rfl
def P8 (n:Nat):Prop:=∀(h:Hp) (c:aH),h.stops=false->cq n h->∀(k:Nat) (cs:List aH),cq k h->qc k h (c::cs)=jM k (bF n h c) cs
theorem Bk (n:Nat) (h:Hp) (c:aH) (ho:h.over=true):bF n h c=(h.leave,ag):=by
 have hs:h.step=h:=by unfold Hp.step;rw [if_pos ho]
 cases n with
 | zero=>unfold bF;rw [hs]
 | succ n =>
  unfold bF
  rw [if_pos (by unfold Hp.stepB;rw [ho];rfl),hs]
theorem wh {h:Hp} {c:aH} {v:Va} (hs:h.stops=false) (hr:¬(aQ (c.stk++[v]):Int)<=c.m.stack):h.putH c v={ h with over:=true,sh:={ h.sh with fin:=6 } }:=by
 have ho:h.over=false:=by
  unfold Hp.stops at hs
  rw [Bool.or_eq_false_iff] at hs
  exact hs.1
 unfold Hp.putH
 rw [if_neg (by rw [hs];decide)]
 unfold Hp.must
 rw [if_neg (by simpa using hr)]
 unfold Hp.fin
 rw [if_neg (by rw [ho];decide)]
theorem wi {h:Hp} {c:aH} {v:Va} (hr:(aQ (c.stk++[v]):Int)<=c.m.stack):h.putH c v=h:=by
 unfold Hp.putH
 split
 ·rfl
 ·unfold Hp.must
  rw [if_pos (by simpa using hr)]
theorem qh {n:Nat} (S:P8 n) (d:jE) (ho:d.h.over=false) (ht:0<=d.h.thrown) (e:cq n d.h) (k:Nat) (cs:List aH) (ek:cq k d.h) :
  rE k (unwM d.h (d.c::cs))=jM k (dM (bF n) d) cs:=by
 unfold unwM dM
 rw [if_neg (show ¬d.h.over=true by rw [ho];decide),if_pos ht]
 by_cases hc:d.h.caughtL d.c.pc d.c.m.hands<0
 ·rw [if_pos hc,if_pos hc]
  unfold jM
  have h1:d.h.leave.over=false:=ho
  have h2:0<=d.h.leave.thrown:=ht
  dsimp only
  rw [if_neg (by rw [h1];decide),if_pos h2]
 ·rw [if_neg hc,if_neg hc]
  have hst:({ d.h with thrown:=-1 }:Hp).stops=false:=by simp [Hp.stops,ho]
  by_cases hr:(aQ [(⟨3,d.h.thrown⟩:Va)]:Int)<=d.c.m.stack
  ·rw [if_pos hr]
   rw [wi (h:={ d.h with thrown:=-1 }) (c:={ d.c with stk:=[] }) hr]
   have:=S { d.h with thrown:=-1 } { d.c with stk:=[⟨3,d.h.thrown⟩],pc:=d.h.caughtL d.c.pc d.c.m.hands } hst e k cs ek
   have e0:∀h cs,rE k (v8 h cs)=qc k h cs:=by
    intro h cs
    unfold rE v8
    rw [if_neg (by simp)]
   rw [e0]
   exact this
  ·rw [if_neg hr]
   rw [wh (h:={ d.h with thrown:=-1 }) (c:={ d.c with stk:=[] }) hst hr]
   rw [Bk _ _ _ rfl,fB rfl,kI _ _ _ (by decide)]
   rfl
theorem s8 {n:Nat} (S:P8 n) (d:jE) (e:cq n d.h) (k:Nat) (cs:List aH) (ek:cq k d.h) (hf:d.h.over=true->d.h.sh.fin≠2) :
  rE k (po d cs)=jM k (dM (bF n) d) cs:=by
 unfold po
 by_cases ho:d.h.over=true
 ·rw [if_pos ho,kI _ _ _ (hf ho)]
  have:dM (bF n) d=(d.h.leave,ag):=by unfold dM;rw [if_pos ho]
  rw [this,fB ho]
  rfl
 ·rw [if_neg ho]
  have pT:d.h.over=false:=by simpa using ho
  by_cases ht:0<=d.h.thrown
  ·rw [if_pos ht]
   exact qh S d pT ht e k cs ek
  ·rw [if_neg ht]
   have:dM (bF n) d=bF n d.h { d.c with pc:=d.nx }:=by unfold dM;rw [if_neg ho,if_neg ht]
   rw [this]
   have hst:d.h.stops=false:=by simp [Hp.stops,pT,ht]
   have:=S d.h { d.c with pc:=d.nx } hst e k cs ek
   have e0:∀h cs,rE k (v8 h cs)=qc k h cs:=by
    intro h cs
    unfold rE v8
    rw [if_neg (by simp)]
   rw [e0]
   exact this
theorem ij {h:Hp} (hs:h.stops=false):h.over=false/\¬0<=h.thrown:=by
 unfold Hp.stops at hs
 rw [Bool.or_eq_false_iff] at hs
 exact ⟨hs.1,by simpa using hs.2⟩
theorem qi {k:Nat} {h:Hp} {v:Va} {cs:List aH} (hs:h.stops=false):jM k (h,v) cs=rE k (ig h v cs):=by
 obtain ⟨h1,h2⟩:=ij hs
 unfold jM
 dsimp only
 rw [if_neg (by rw [h1];decide),if_neg h2]
theorem Ik (h:Hp) (c:aH) (hs:h.stops=false) (k:Nat) (cs:List aH):rE k (yo h c cs)=jM k (j9 h c) cs:=by
 obtain ⟨h1,h2⟩:=ij hs
 unfold yo j9
 by_cases hr:c.m.ret.kind=0
 ·rw [if_pos hr,if_pos hr]
  exact (qi (h:=h.leave) hs).symm
 ·rw [if_neg hr,if_neg hr]
  cases hc:c.has 1 with
  | false =>
   rw [if_pos rfl]
   have e1:h.must false={ h with over:=true,sh:={ h.sh with fin:=6 } }:=by simp [Hp.must,Hp.fin,h1]
   dsimp only
   rw [e1]
   have e2:(({ h with over:=true,sh:={ h.sh with fin:=6 } }:Hp).must (!({ h with over:=true,sh:={ h.sh with fin:=6 } }:Hp).over&&({ h with over:=true,sh:={ h.sh with fin:=6 } }:Hp).of (nth ag (c.top 1) 0) c.m.ret))={ h with over:=true,sh:={ h.sh with fin:=6 } }:=by
    simp [Hp.must,Hp.fin]
   rw [e2,fB rfl,kI _ _ _ (by decide)]
   rfl
  | true =>
   rw [if_neg (by decide)]
   have e1:h.must true=h:=by simp [Hp.must]
   dsimp only
   rw [e1]
   cases ho:h.of (nth ag (c.top 1) 0) c.m.ret with
   | true =>
    rw [if_pos rfl]
    have e2:h.must (!h.over&&true)=h:=by simp [Hp.must,h1]
    rw [e2]
    exact (qi (h:=h.leave) hs).symm
   | false =>
    rw [if_neg (by decide)]
    have e2:h.must (!h.over&&false)={ h with over:=true,sh:={ h.sh with fin:=6 } }:=by simp [Hp.must,Hp.fin,h1]
    rw [e2,fB rfl,kI _ _ _ (by decide)]
    rfl
theorem lr {go:Hp->aH->Hp×Va} {d:jE} (ho:d.h.over=true) {k:Nat} {cs:List aH}:jM k (dM go d) cs=⟨d.h.sh.fin,0,0,d.h.sh.out,d.h.sh.used,d.h.sh.steps⟩:=by
 have:dM go d=(d.h.leave,ag):=by unfold dM;rw [if_pos ho]
 rw [this,fB ho]
 rfl
theorem D3 {n:Nat} (S:P8 n) (h:Hp) (c:aH) (i:In) (hs:h.stops=false) (e:cq n h) (k:Nat) (cs:List aH) (ek:cq k h) :
  rE k (sZ h c cs i)=jM k (dM (bF n) (gZ (bF n) h c i)) cs:=by
 obtain ⟨h1,h2⟩:=ij hs
 have G:=nD n
 unfold sZ gZ
 dsimp only
 generalize hm:nth bO h.file.methods i.a.toNat=m
 cases hc:c.has m.params.length with
 | false =>
  rw [if_pos rfl]
  have e1:h.must false={ h with over:=true,sh:={ h.sh with fin:=6 } }:=by simp [Hp.must,Hp.fin,h1]
  rw [e1,if_pos rfl,lr rfl,kI _ _ _ (by decide)]
 | true =>
  rw [if_neg (by decide)]
  have e1:h.must true=h:=by simp [Hp.must]
  rw [e1,if_neg (show ¬h.over=true by rw [h1];decide)]
  cases hl:h.enterL (c.top m.params.length) m.params with
  | false =>
   rw [if_pos rfl]
   have e2:fX (bF n) h m (c.top m.params.length)=({ h with over:=true,sh:={ h.sh with fin:=6 } },ag):=by
    simp [fX,Hp.enterB,Hp.enterH,hl,Hp.fin,h1]
   rw [e2]
   dsimp only
   rw [if_neg (by simp [Hp.stops]),lr rfl,kI _ _ _ (by decide)]
  | true =>
   rw [if_neg (by decide)]
   cases hd:h.deep with
   | true =>
    rw [if_pos rfl]
    have e2:fX (bF n) h m (c.top m.params.length)=({ h with over:=true,sh:={ h.sh with fin:=5 } },ag):=by
     simp [fX,Hp.enterB,Hp.enterH,hl,hd,Hp.fin,h1]
    rw [e2]
    dsimp only
    rw [if_neg (by simp [Hp.stops]),lr rfl,kI _ _ _ (by decide)]
   | false =>
    rw [if_neg (by decide)]
    have e2:fX (bF n) h m (c.top m.params.length)=bF n { h with calls:=h.calls+1 } (bS m (c.top m.params.length)):=by
     simp [fX,Hp.enterB,Hp.enterH,hl,hd]
    rw [e2]
    have hst:({ h with calls:=h.calls+1 }:Hp).stops=false:=hs
    have IH:=S { h with calls:=h.calls+1 } (bS m (c.top m.params.length)) hst e k (c.cut m.params.length::cs) ek
    have e3:rE k (v8 { h with calls:=h.calls+1 } (bS m (c.top m.params.length)::c.cut m.params.length::cs))=qc k { h with calls:=h.calls+1 } (bS m (c.top m.params.length)::c.cut m.params.length::cs):=by
     unfold rE v8;rw [if_neg (by simp)]
    rw [e3,IH]
    clear e3 IH
    have Il:=G.lf { h with calls:=h.calls+1 } (bS m (c.top m.params.length))
    have hkd:=G.kind { h with calls:=h.calls+1 } (bS m (c.top m.params.length)) e
    have Im:Lf h (bF n { h with calls:=h.calls+1 } (bS m (c.top m.params.length))).1:=⟨Il.fuel,Il.steps⟩
    generalize bF n { h with calls:=h.calls+1 } (bS m (c.top m.params.length))=r at Il hkd Im
    obtain ⟨rh,rv⟩:=r
    dsimp only at Il hkd Im ⊢
    have er:=Im.enough e
    have Q5:=Im.enough ek
    by_cases DG:rh.over=true
    ·rw [fB DG]
     rw [if_neg (by simp [Hp.stops,DG])]
     rw [lr DG]
    ·have Oh:rh.over=false:=by simpa using DG
     by_cases NC:0<=rh.thrown
     ·rw [if_neg (by simp [Hp.stops,NC])]
      rw [<-qh S ⟨rh,c.cut m.params.length,c.pc+1⟩ Oh NC er k cs Q5]
      unfold jM
      dsimp only
      rw [if_neg DG,if_pos NC]
     ·have P9:rh.stops=false:=by simp [Hp.stops,Oh,NC]
      have hrk:rv.kind=m.ret.kind:=hkd P9
      rw [qi P9]
      have oV:(c.cut m.params.length).pc=c.pc:=(mA c _).2.1
      rw [ig]
      by_cases hv:rv.kind=0
      ·rw [if_pos hv,if_neg (by rw [<-hrk];simp [hv])]
       have:=s8 S ⟨rh,c.cut m.params.length,c.pc+1⟩ er k cs Q5 (fun q=>absurd q DG)
       rw [<-this]
       unfold po
       dsimp only
       rw [if_neg DG,if_neg NC,oV]
      ·rw [if_neg hv,if_pos (show rh.stops=false/\m.ret.kind≠0 from ⟨P9,by rw [<-hrk];exact hv⟩)]
       by_cases nE:(aQ ((c.cut m.params.length).stk++[rv]):Int)<=(c.cut m.params.length).m.stack
       ·rw [if_pos nE,wi nE]
        have:=s8 S ⟨rh,(c.cut m.params.length).put rv,c.pc+1⟩ er k cs Q5 (fun q=>absurd q DG)
        rw [<-this]
        unfold po
        dsimp only
        rw [if_neg DG,if_neg NC,oV]
       ·rw [if_neg nE,wh P9 nE,lr rfl,kI _ _ _ (by decide)]
def D4 (h:Hp):Prop:=h.over=true->h.sh.fin≠2
theorem D5:Safe D4 :=
 ⟨fun h e he p=>by
   unfold Hp.fin;split
   ·exact p
   ·intro _;show e≠2;omega,
  fun h o p=>p,fun h t p=>p,fun h n p=>p,fun h p=>p⟩
theorem wj (h:Hp) (c:aH) (i:In) (hf:D4 h):D4 (aM h c i).h:=D5.does hf c i
theorem zJ:∀n:Nat,P8 n
 | 0=>by
  intro h c hs e k cs ek
  have hb:=lq (k:=0) e
  obtain ⟨h1,h2⟩:=ij hs
  have hf:h.fuel<=h.sh.steps:=by unfold cq at e;omega
  have es:h.step={ h with over:=true,sh:={ h.sh with fin:=0 } }:=by
   unfold Hp.step Hp.fin
   rw [if_neg (by rw [h1];decide),if_pos hf,if_neg (by rw [h1];decide)]
  have el:bF 0 h c=(h.step.leave,ag):=rfl
  rw [el,es,fB rfl]
  cases k with
  | zero=>rfl
  | succ k =>
   unfold qc
   rw [runM,if_pos hb]
   rfl
 | n+1=>by
  have S:=zJ n
  intro h c hs e k cs ek
  obtain ⟨h1,h2⟩:=ij hs
  cases hb:h.stepB with
  | false =>
   have hf:h.fuel<=h.sh.steps:=by
    unfold Hp.stepB at hb
    simp [h1] at hb
    exact hb
   have es:h.step={ h with over:=true,sh:={ h.sh with fin:=0 } }:=by
    unfold Hp.step Hp.fin
    rw [if_neg (by rw [h1];decide),if_pos hf,if_neg (by rw [h1];decide)]
   have el:bF (n+1) h c=(h.step.leave,ag):=by rw [bF,if_pos hb]
   rw [el,es,fB rfl]
   cases k with
   | zero=>rfl
   | succ k =>
    unfold qc
    rw [runM,if_pos hb]
    rfl
  | true =>
   have el:bF (n+1) h c=gr (bF n) h.step c:=by rw [bF,if_neg (by rw [hb];decide)]
   obtain ⟨k',hk⟩:∃k',k=k'+1:=by
    cases k with
    | zero=>rw [lq (k:=0) ek] at hb;exact absurd hb (by decide)
    | succ k=>exact ⟨k,rfl⟩
   subst hk
   rw [el,LX hb]
   have e1:=fj e hb
   have Vg:=fj ek hb
   obtain ⟨-,-,s3,s4,-,-⟩:=fV hb
   have xU:h.step.stops=false:=by
    unfold Hp.stops
    rw [s3,s4]
    simpa using h2
   generalize h.step=hh at *
   have Q7:cq (k'+1) hh:=by unfold cq at *;omega
   have up:∀(o:Mo),Lf hh o.h->rE k' o=rE (k'+1) o:=fun o l=>Bi (l.enough Vg) (l.enough Q7)
   rw [up _ (pF hh c cs)]
   unfold dU gr
   by_cases hp:c.pc<c.m.code.length
   ·rw [if_neg (by simpa using hp)]
    have kr:¬(hh.mustB (decide (c.pc<c.m.code.length))=false):=by simp [Hp.mustB,hp,s3]
    rw [if_neg kr]
    by_cases oW:(nth fW c.m.code c.pc.toNat).op=20
    ·rw [if_pos oW,if_pos oW]
     exact Ik hh c xU (k'+1) cs
    ·rw [if_neg oW,if_neg oW]
     by_cases pn:(nth fW c.m.code c.pc.toNat).op=19
     ·rw [if_pos pn,if_pos pn]
      exact D3 S hh c _ xU e1 (k'+1) cs Q7
     ·rw [if_neg pn,if_neg pn]
      have hl:=(nC hh c (nth fW c.m.code c.pc.toNat)).lf
      exact s8 S _ (hl.enough e1) (k'+1) cs (hl.enough Q7) (wj hh c _ (fun q=>by rw [s3] at q;exact absurd q (by decide)))
   ·rw [if_pos (by simpa using hp)]
    have kr:hh.mustB (decide (c.pc<c.m.code.length))=false:=by simp [Hp.mustB,hp]
    rw [if_pos kr]
    have e2:hh.must (decide (c.pc<c.m.code.length))={ hh with over:=true,sh:={ hh.sh with fin:=6 } }:=by simp [Hp.must,Hp.fin,hp,s3]
    rw [e2,fB rfl,kI _ _ _ (by decide)]
    rfl
theorem Gc.objs {h h':Hp} {c:aH} (g:Gc h c) (e1:h'.objs=h.objs) (e2:h'.file=h.file):Gc h' c :=
 ⟨fun v hv=>⟨fun e=>by rw [e1];exact (g.stk v hv).ref e,(g.stk v hv).num⟩,fun v hv=>⟨fun e=>by rw [e1];exact (g.locs v hv).ref e,(g.locs v hv).num⟩,g.ok,g.room,g.len,by rw [e2];exact g.me,g.mok⟩
def IC (h:Hp) (cs:List aH):Prop:=∀c∈cs,Gc h c/\0<=c.pc/\c.pc<c.m.code.length
theorem IC.objs {h h':Hp} {cs:List aH} (g:IC h cs) (e1:h'.objs=h.objs) (e2:h'.file=h.file):IC h' cs:=fun c hc=>⟨(g c hc).1.objs e1 e2,(g c hc).2⟩
theorem IC.le {h h':Hp} {cs:List aH} (g:IC h cs) (l:Le h h'):IC h' cs:=fun c hc=>⟨(g c hc).1.le l,(g c hc).2⟩
structure IM (f:Fi) (inp:List Int) (h:Hp) (cs:List aH):Prop where
 file:h.file=f
 input:h.input=inp
 may:qa f
 gh:Gh 0 h
 over:h.over=false
 thr:h.thrown=-1
 calls:h.calls=cs.length
 ex:∃c cs',cs=c::cs'/\Gc h c/\0<=c.pc/\c.pc<=c.m.code.length/\IC h cs'
theorem unw_inv (f:Fi) (inp:List Int) (hmay:qa f):∀(cs:List aH) (h:Hp),h.file=f->h.input=inp->Gh 0 h->h.over=false->0<=h.thrown->h.calls=cs.length->IC h cs->(unwM h cs).fin=false->IM f inp (unwM h cs).h (unwM h cs).cs/\(unwM h cs).h.sh=h.sh/\(unwM h cs).h.fuel=h.fuel
 | [],h,_,_,_,_,_,_,_,hfin=>by cases hfin
 | c::cs,h,hf,pC,gh,ho,ht,hc,hI,hfin=>by
  have hg:=hI c List.mem_cons_self
  have hlen:h.calls=(cs.length:Int)+1:=by rw [hc];simp
  by_cases hcl:h.caughtL c.pc c.m.hands<0
  ·have e:unwM h (c::cs)=unwM h.leave cs:=if_pos hcl
   rw [e] at hfin ⊢
   have D6:=gh.calls
   have gl:Gh 0 h.leave:=⟨fun o ho x hx=>⟨fun e=>(gh.held o ho x hx).ref e,(gh.held o ho x hx).num⟩,gh.thr,gh.used,gh.steps,gh.fuel,gh.out,gh.len,gh.inp,by show 0<=h.calls-1/\h.calls-1<=20;omega⟩
   exact unw_inv f inp hmay cs h.leave hf pC gl ho ht (by show h.calls-1=_;omega) (IC.objs (fun x hx=>hI x (List.mem_cons_of_mem _ hx)) rfl rfl) hfin
  ·by_cases hr:(aQ [(⟨3,h.thrown⟩:Va)]:Int)<=c.m.stack
   ·have e:unwM h (c::cs)=v8 { h with thrown:=-1 } ({ c with stk:=[⟨3,h.thrown⟩],pc:=h.caughtL c.pc c.m.hands }::cs):=by
     show (if _ then _ else _)=_
     rw [if_neg hcl,if_pos hr]
    rw [e]
    have gt:Gh 0 { h with thrown:=-1 }:=gh.same rfl rfl rfl rfl rfl rfl rfl ⟨by dsimp only;omega,by dsimp only;omega⟩
    have g1:=hg.1.objs (h':={ h with thrown:=-1 }) rfl rfl
    have h1:=lY (h:=h) (pc:=c.pc) (n:=c.m.code.length) (k:=h.file.classes.length) c.m.hands (jh hg.1.me).2.2.2.2.2.2.2.2.2.1
    refine ⟨⟨hf,pC,hmay,gt,ho,rfl,by show h.calls=_;rw [hc];simp [v8],_,cs,rfl,⟨fun v hv=>?_,g1.locs,g1.ok,hr,g1.len,g1.me,g1.mok⟩,by show 0<=h.caughtL c.pc c.m.hands;omega,by show h.caughtL c.pc c.m.hands<=c.m.code.length;omega,IC.objs (fun x hx=>hI x (List.mem_cons_of_mem _ hx)) rfl rfl⟩,rfl,rfl⟩
    obtain rfl:v=⟨3,h.thrown⟩:=by simpa using hv
    exact ⟨fun _=>⟨by dsimp only;omega,gh.thr.2⟩,by have:=gh.thr;have:=gh.len;dsimp only;unfold cP;omega⟩
   ·have e:unwM h (c::cs)=gL 6 ag h:=by
     show (if _ then _ else _)=_
     rw [if_neg hcl,if_neg hr]
    rw [e] at hfin
    cases hfin
theorem wm {f:Fi} {inp:List Int} {h:Hp} {c:aH} {cs:List aH} (hf:h.file=f) (mg:h.input=inp) (hmay:qa f) (gh:Gh 1 h) (ho:h.over=false) (iX:h.thrown=-1) (hc:h.calls=(c::cs).length) (gc:Gc h c) (hp:0<=c.pc/\c.pc<=c.m.code.length) (hI:IC h cs) (hfin:(dU h c cs).fin=false) :
  IM f inp (dU h c cs).h (dU h c cs).cs:=by
 have hlen:h.calls=(cs.length:Int)+1:=by rw [hc];simp
 have D6:=gh.calls
 unfold dU at hfin ⊢
 by_cases hlt:c.pc<c.m.code.length
 ·rw [if_neg (by simpa using hlt)] at hfin ⊢
  obtain ⟨ok,Bd⟩:=lZ gc ⟨hp.1,hlt⟩
  generalize pC:nth fW c.m.code c.pc.toNat=i at *
  by_cases oW:i.op=20
  ·rw [if_pos oW] at hfin ⊢
   have gl:Gh 0 h.leave:=⟨fun o ho x hx=>⟨fun e=>(gh.held o ho x hx).ref e,(gh.held o ho x hx).num⟩,gh.thr,gh.used,gh.steps,gh.fuel,by have:=gh.out;show (h.sh.out.length:Int)+((0:Nat):Int)<=h.sh.steps;omega,gh.len,gh.inp,by show 0<=h.calls-1/\h.calls-1<=20;omega⟩
   have KL:∀v,iO h v->(ig h.leave v cs).fin=false->IM f inp (ig h.leave v cs).h (ig h.leave v cs).cs:=fun v gv Dh=>by
    cases cs with
    | nil=>cases Dh
    | cons c2 Qb =>
     have h2:=hI c2 List.mem_cons_self
     have hr:IC h.leave Qb:=IC.objs (fun x hx=>hI x (List.mem_cons_of_mem _ hx)) rfl rfl
     have hcl:h.leave.calls=((c2::Qb).length:Int):=by show h.calls-1=_;omega
     unfold ig at Dh ⊢
     dsimp only at Dh ⊢
     by_cases hv:v.kind=0
     ·rw [if_pos hv] at Dh ⊢
      exact ⟨hf,mg,hmay,gl,ho,iX,hcl,_,Qb,rfl,(h2.1.objs (h':=h.leave) rfl rfl).pc _,by show 0<=c2.pc+1;have:=h2.2.1;omega,by show c2.pc+1<=c2.m.code.length;have:=h2.2.2;omega,hr⟩
     ·rw [if_neg hv] at Dh ⊢
      by_cases hs:(aQ (c2.stk++[v]):Int)<=c2.m.stack
      ·rw [if_pos hs] at Dh ⊢
       exact ⟨hf,mg,hmay,gl,ho,iX,hcl,_,Qb,rfl,((h2.1.objs (h':=h.leave) rfl rfl).put ⟨fun e=>gv.ref e,gv.num⟩ hs).pc _,by show 0<=c2.pc+1;omega,by show c2.pc+1<=c2.m.code.length;have:=h2.2.2;omega,hr⟩
      ·rw [if_neg hs] at Dh;cases Dh
   unfold yo at hfin ⊢
   by_cases yq:c.m.ret.kind=0
   ·rw [if_pos yq] at hfin ⊢;exact KL _ (lj _) hfin
   ·rw [if_neg yq] at hfin ⊢
    by_cases hh:c.has 1=false
    ·rw [if_pos hh] at hfin;cases hfin
    ·rw [if_neg hh] at hfin ⊢
     by_cases jz:h.of (nth ag (c.top 1) 0) c.m.ret=true
     ·rw [if_pos jz] at hfin ⊢;exact KL _ (kG gc 1 0 (by decide)) hfin
     ·rw [if_neg jz] at hfin;cases hfin
  ·rw [if_neg oW] at hfin ⊢
   by_cases pn:i.op=19
   ·rw [if_pos pn] at hfin ⊢
    unfold sZ at hfin ⊢
    dsimp only at hfin ⊢
    have pq:=ok.call pn
    have jX:=(hf▸hmay:qa h.file) _ (bJ (d:=bO) (i:=i.a.toNat) (by omega:i.a.toNat<h.file.methods.length))
    generalize hM:nth bO h.file.methods i.a.toNat=m at *
    by_cases hh:c.has m.params.length=false
    ·rw [if_pos hh] at hfin;cases hfin
    rw [if_neg hh] at hfin ⊢
    by_cases he:h.enterL (c.top m.params.length) m.params=false
    ·rw [if_pos he] at hfin;cases hfin
    rw [if_neg he] at hfin ⊢
    by_cases hd:h.deep=true
    ·rw [if_pos hd] at hfin;cases hfin
    rw [if_neg hd] at hfin ⊢
    have KM:h.calls<20:=by unfold Hp.deep at hd;simp at hd;exact hd
    have g2:Gh 0 { h with calls:=h.calls+1 }:=⟨fun o ho x hx=>⟨fun e=>(gh.held o ho x hx).ref e,(gh.held o ho x hx).num⟩,gh.thr,gh.used,gh.steps,gh.fuel,by have:=gh.out;show (h.sh.out.length:Int)+((0:Nat):Int)<=h.sh.steps;omega,gh.len,gh.inp,by show 0<=h.calls+1/\h.calls+1<=20;omega⟩
    have gn:Gc h (bS m (c.top m.params.length)):=nz jX.1 jX.2 (aC c _) (fun v hv=>by
     have e:c.top m.params.length=c.stk.drop (c.stk.length-m.params.length):=by unfold aH.top;rw [if_pos (DV (by simpa using hh))]
     rw [e] at hv
     exact gc.stk v (List.mem_of_mem_drop hv)) (by simpa using he)
    have cm:=mA c m.params.length
    refine ⟨hf,mg,hmay,g2,ho,iX,by show h.calls+1=_;rw [hc];simp [v8],_,c.cut m.params.length::cs,rfl,gn.objs rfl rfl,Int.le_refl _,by show (0:Int)<=m.code.length;omega,?_⟩
    intro x hx
    rcases List.mem_cons.1 hx with rfl|hx
    ·exact ⟨(gc.cut _).objs rfl rfl,by rw [cm.2.1];exact hp.1,by rw [cm.2.1,cm.1];exact hlt⟩
    ·exact (IC.objs (h':={ h with calls:=h.calls+1 }) hI rfl rfl) x hx
   ·rw [if_neg pn] at hfin ⊢
    have k:=kf gh gc ho iX ok Bd ⟨hp.1,hlt⟩
    generalize aM h c i=d at *
    unfold po at hfin ⊢
    by_cases br:d.h.over=true
    ·rw [if_pos br] at hfin;cases hfin
    rw [if_neg br] at hfin ⊢
    have nA:d.h.over=false:=by simpa using br
    have gd:=k.gc nA
    have Q8:d.h.calls=((d.c::cs).length:Int):=by rw [k.le.calls,hlen];simp
    by_cases yr:0<=d.h.thrown
    ·rw [if_pos yr] at hfin ⊢
     refine (unw_inv f inp hmay (d.c::cs) d.h (k.le.file.trans hf) (k.le.input.trans mg) k.gh nA yr Q8 ?_ hfin).1
     intro x hx
     rcases List.mem_cons.1 hx with rfl|hx
     ·exact ⟨gd,by rw [k.pc];exact hp.1,by rw [k.pc,k.m];exact hlt⟩
     ·exact hI.le k.le x hx
    ·rw [if_neg yr] at hfin ⊢
     have LV:d.h.thrown=-1:=by have:=k.gh.thr;omega
     exact ⟨k.le.file.trans hf,k.le.input.trans mg,hmay,k.gh,nA,LV,Q8,_,cs,rfl,gd.pc _,k.nx.1,by show d.nx<=d.c.m.code.length;rw [k.m];exact k.nx.2,hI.le k.le⟩
 ·rw [if_pos hlt] at hfin
  cases hfin
def zK (h:Hp):Prop:=h.over=true->h.sh.fin≠2
theorem qj {h:Hp} (n:zK h) (c:aH) (i:In):zK (aM h c i).h:=wj h c i n
theorem Bm {h:Hp} (ht:h.thrown=-1) (c:aH) (i:In) (hx:0<=(aM h c i).h.thrown):(aM h c i).c.locs=c.locs:=by
 have cm:=fun k=>(mA c k).2.2
 unfold aM at hx ⊢
 split
 ·rfl
 split
 ·exact cm 1
 split
 ·exact cm 1
 split
 ·exact cm 1
 split
 ·unfold kR;dsimp only;split<;>rfl
 split
 ·rename_i h1 h2 h3 h4 h5 h6
  rw [if_neg h1,if_neg h2,if_neg h3,if_neg h4,if_neg h5,if_pos h6] at hx
  unfold kD at hx
  dsimp only at hx
  rw [jL,jL,ht] at hx
  omega
 split
 ·exact cm 1
 split
 ·unfold pj;dsimp only;split
  ·exact cm 1
  ·exact cm 1
 split
 ·exact cm 1
 split
 ·exact cm 2
 ·unfold b8;dsimp only;split
  ·exact cm _
  ·exact cm _
theorem unw_same {h:Hp} {c c':aH} {cs:List aH} (e1:c'.m=c.m) (e2:c'.pc=c.pc) (e3:c'.locs=c.locs):unwM h (c'::cs)=unwM h (c::cs):=by
 show (if _ then _ else _)=(if _ then _ else _)
 rw [e1,e2,e3]
theorem lu (h:Hp):∀(vs:List Va) (ts:List Ty),vs.length=ts.length->(h.enterL vs ts=true↔∀k,k<ts.length->h.of (nth ag vs k) (nth cN ts k)=true)
 | [],[],_=>⟨fun _ k hk=>absurd hk (Nat.not_lt_zero _),fun _=>rfl⟩
 | [],t::ts,e=>by simp at e
 | v::vs,[],e=>by simp at e
 | v::vs,t::ts,e=>by
  have ih:=lu h vs ts (by simpa using e)
  show (h.of v t&&h.enterL vs ts)=true↔_
  rw [Bool.and_eq_true,ih]
  constructor
  ·rintro ⟨a,b⟩ k hk
   cases k with
   | zero=>exact a
   | succ k=>exact b k (by simpa using hk)
  ·intro a
   exact ⟨a 0 (by simp),fun k hk=>a (k+1) (by simpa using hk)⟩
theorem yt {w:World} {B:Option Addr} {l:List Me} (h:eE w B l):∀m∈l,∀i∈m.code,i.ok:=by
 intro m hm i hi
 obtain ⟨j,hj,rfl⟩:=List.getElem_of_mem hm
 rcases h.2 with h0|⟨mb,mo,-,hcell⟩
 ·omega
 obtain ⟨P,C,J,p,c,k,-,-,-,-,-,-,-,-,hme⟩:=hcell j hj
 rw [bU hj] at hme
 obtain ⟨q,hq,rfl⟩:=List.getElem_of_mem hi
 rcases hme.2.1.2 with h0|⟨xb,xo,-,hc⟩
 ·omega
 ·have:=(hc q hq).2.2.2.2.2.1
  rw [bU hq] at this
  exact this
theorem pG {w:World} {I:Option Addr} {l:List Int} (h:cL w I l):∀n∈l,cP n:=by
 intro n hn
 obtain ⟨j,hj,rfl⟩:=List.getElem_of_mem hn
 rcases h.2 with h0|⟨b,off,-,hc⟩
 ·omega
 ·have:=(hc j hj).2
  rw [bU hj] at this
  exact this
structure Ed (f:Fi) (inp:List Int) (o:Mo):Prop where
 file:o.h.file=f
 input:o.h.input=inp
 len:o.h.objs.length<=100
 thr:o.how=2->o.v.kind=3/\0<=o.v.n/\o.v.n<o.h.objs.length
theorem iB {f:Fi} {inp:List Int} {h:Hp} (hf:h.file=f) (hi:h.input=inp) (hl:h.objs.length<=100) {how:Int} (hn:how≠2) (v:Va):Ed f inp (gL how v h):=⟨hf,hi,hl,fun e=>absurd e hn⟩
theorem unw_ed (f:Fi) (inp:List Int):∀(cs:List aH) (h:Hp),h.file=f->h.input=inp->h.objs.length<=100->0<=h.thrown/\h.thrown<h.objs.length->(unwM h cs).fin=true->Ed f inp (unwM h cs)
 | [],h,hf,hi,hl,ht,_=>⟨hf,hi,hl,fun _=>⟨rfl,ht.1,ht.2⟩⟩
 | c::cs,h,hf,hi,hl,ht,hfin=>by
  by_cases hcl:h.caughtL c.pc c.m.hands<0
  ·have e:unwM h (c::cs)=unwM h.leave cs:=if_pos hcl
   rw [e] at hfin ⊢
   exact unw_ed f inp cs h.leave hf hi hl ht hfin
  ·by_cases hr:(aQ [(⟨3,h.thrown⟩:Va)]:Int)<=c.m.stack
   ·have e:unwM h (c::cs)=v8 { h with thrown:=-1 } ({ c with stk:=[⟨3,h.thrown⟩],pc:=h.caughtL c.pc c.m.hands }::cs):=by
     show (if _ then _ else _)=_
     rw [if_neg hcl,if_pos hr]
    rw [e] at hfin
    cases hfin
   ·have e:unwM h (c::cs)=gL 6 ag h:=by
     show (if _ then _ else _)=_
     rw [if_neg hcl,if_neg hr]
    rw [e]
    exact iB hf hi hl (by decide) _
section
variable {f:Fi} {inp:List Int}
theorem zL {h:Hp} (hf:h.file=f) (hi:h.input=inp) (hl:h.objs.length<=100) (v:Va) (cs:List aH) (hfin:(ig h v cs).fin=true):Ed f inp (ig h v cs):=by
 cases cs with
 | nil=>exact iB hf hi hl (by decide) _
 | cons c cs =>
  rw [ig] at hfin ⊢
  by_cases h1:v.kind=0
  ·rw [if_pos h1] at hfin;cases hfin
  ·rw [if_neg h1] at hfin ⊢
   by_cases h2:(aQ (c.stk++[v]):Int)<=c.m.stack
   ·rw [if_pos h2] at hfin;cases hfin
   ·rw [if_neg h2];exact iB hf hi hl (by decide) _
theorem Io {h:Hp} {c:aH} {cs:List aH} (hf:h.file=f) (mg:h.input=inp) (gh:Gh 1 h) (ho:h.over=false) (iX:h.thrown=-1) (gc:Gc h c) (hp:0<=c.pc/\c.pc<=c.m.code.length) (hfin:(dU h c cs).fin=true) :
  Ed f inp (dU h c cs):=by
 unfold dU at hfin ⊢
 by_cases hlt:c.pc<c.m.code.length
 ·rw [if_neg (by simpa using hlt)] at hfin ⊢
  obtain ⟨ok,Bd⟩:=lZ gc ⟨hp.1,hlt⟩
  generalize pC:nth fW c.m.code c.pc.toNat=i at *
  by_cases oW:i.op=20
  ·rw [if_pos oW] at hfin ⊢
   unfold yo at hfin ⊢
   by_cases yq:c.m.ret.kind=0
   ·rw [if_pos yq] at hfin ⊢;exact zL (h:=h.leave) hf mg gh.len _ _ hfin
   ·rw [if_neg yq] at hfin ⊢
    by_cases hh:c.has 1=false
    ·rw [if_pos hh];exact iB hf mg gh.len (by decide) _
    ·rw [if_neg hh] at hfin ⊢
     by_cases jz:h.of (nth ag (c.top 1) 0) c.m.ret=true
     ·rw [if_pos jz] at hfin ⊢;exact zL (h:=h.leave) hf mg gh.len _ _ hfin
     ·rw [if_neg jz];exact iB hf mg gh.len (by decide) _
  ·rw [if_neg oW] at hfin ⊢
   by_cases pn:i.op=19
   ·rw [if_pos pn] at hfin ⊢
    unfold sZ at hfin ⊢
    dsimp only at hfin ⊢
    generalize hM:nth bO h.file.methods i.a.toNat=m at *
    by_cases hh:c.has m.params.length=false
    ·rw [if_pos hh];exact iB hf mg gh.len (by decide) _
    rw [if_neg hh] at hfin ⊢
    by_cases he:h.enterL (c.top m.params.length) m.params=false
    ·rw [if_pos he];exact iB hf mg gh.len (by decide) _
    rw [if_neg he] at hfin ⊢
    by_cases hd:h.deep=true
    ·rw [if_pos hd];exact iB hf mg gh.len (by decide) _
    rw [if_neg hd] at hfin
    cases hfin
   ·rw [if_neg pn] at hfin ⊢
    have k:=kf gh gc ho iX ok Bd ⟨hp.1,hlt⟩
    have hnt:zK (aM h c i).h:=qj (fun e=>by rw [ho] at e;cases e) c i
    generalize aM h c i=d at *
    have hl:=k.gh.len
    unfold po at hfin ⊢
    by_cases br:d.h.over=true
    ·rw [if_pos br];exact iB (k.le.file.trans hf) (k.le.input.trans mg) hl (hnt br) _
    rw [if_neg br] at hfin ⊢
    by_cases yr:0<=d.h.thrown
    ·rw [if_pos yr] at hfin ⊢
     exact unw_ed f inp (d.c::cs) d.h (k.le.file.trans hf) (k.le.input.trans mg) hl ⟨yr,k.gh.thr.2⟩ hfin
    ·rw [if_neg yr] at hfin;cases hfin
 ·rw [if_pos (by simpa using hlt)];exact iB hf mg gh.len (by decide) _
theorem D7:∀(n:Nat) (h:Hp) (cs:List aH),IM f inp h cs->Ed f inp (runM n h cs)/\(runM n h cs).fin=true
 | 0,h,cs,im=>⟨iB im.file im.input im.gh.len (by decide) _,rfl⟩
 | n+1,h,[],im=>by obtain ⟨c,cs,e,-⟩:=im.ex;cases e
 | n+1,h,c::cs,im=>by
  obtain ⟨c',cs',e,gc,Ht,vl,hI⟩:=im.ex
  simp only [List.cons.injEq] at e
  obtain ⟨rfl,rfl⟩:=e
  rw [runM]
  cases hb:h.stepB with
  | false=>rw [if_pos rfl];exact ⟨iB im.file im.input im.gh.len (by decide) _,rfl⟩
  | true =>
   rw [if_neg (by decide)]
   obtain ⟨q1,q2,q3,q4,q5,q6⟩:=fV hb
   have sl:=jI h
   have Oi:=im.gh.step hb
   by_cases hfin:(dU h.step c cs).fin=true
   ·rw [if_pos hfin]
    exact ⟨Io (q5.trans im.file) (sl.input.trans im.input) Oi q3 (q4.trans im.thr) (gc.le sl) ⟨Ht,vl⟩ hfin,hfin⟩
   ·rw [if_neg hfin]
    exact D7 n _ _ (wm (q5.trans im.file) (sl.input.trans im.input) im.may Oi q3 (q4.trans im.thr) (q6.trans im.calls) (gc.le sl) ⟨Ht,vl⟩ (hI.le sl) (by simpa using hfin))
end
def VZ (h:Hp):Prop:=h.sh.value=0/\h.sh.cls=0
theorem s9:Safe VZ:=⟨fun h e _ p=>by unfold Hp.fin;split<;>exact p,fun h o p=>p,fun h t p=>p,fun h n p=>p,fun h p=>p⟩
theorem VZ.fin {h:Hp} (hf:VZ h) (e:Int):VZ (h.fin e):=by
 unfold Hp.fin
 split
 ·exact hf
 ·exact hf
theorem VZ.must {h:Hp} (hf:VZ h) (b:Bool):VZ (h.must b):=s9.must hf b
theorem VZ.putH {h:Hp} (hf:VZ h) (c:aH) (v:Va):VZ (h.putH c v):=s9.putH hf c v
theorem Ip (h:Hp) (c:aH) (i:In) (hf:VZ h):VZ (aM h c i).h:=s9.does hf c i
def Oj (go:Hp->aH->Hp×Va):Prop:=∀h c,VZ h->VZ (go h c).1
theorem VZ.enter {h:Hp} (hf:VZ h) (m:Me) (l:List Va):VZ (h.enterH m l):=by
 unfold Hp.enterH
 split
 ·exact hf.fin _
 ·split
  ·exact hf.fin _
  ·exact hf
section
variable {go:Hp->aH->Hp×Va}
theorem D8 (G:Oj go) {h:Hp} (hf:VZ h) (m:Me) (l:List Va):VZ (fX go h m l).1:=by
 unfold fX
 split
 ·exact G _ _ (hf.enter m l)
 ·exact hf.enter m l
theorem Iq (G:Oj go) {h:Hp} (hf:VZ h) (c:aH) (i:In):VZ (gZ go h c i).h:=by
 unfold gZ
 dsimp only
 split
 ·exact hf.must _
 ·split
  ·exact (D8 G (hf.must _) _ _).putH _ _
  ·exact D8 G (hf.must _) _ _
theorem Ir (G:Oj go) (d:jE) (hf:VZ d.h):VZ (dM go d).1:=by
 unfold dM
 split
 ·exact hf
 split
 ·split
  ·exact hf
  ·exact G _ _ (VZ.putH (h:={ d.h with thrown:=-1 }) hf _ _)
 ·exact G _ _ hf
end
theorem Lu {h:Hp} (hf:VZ h) (c:aH):VZ (j9 h c).1:=by
 unfold j9
 split
 ·exact hf
 ·exact (hf.must _).must _
theorem D9 {go:Hp->aH->Hp×Va} (G:Oj go) {h:Hp} (hf:VZ h) (c:aH):VZ (gr go h c).1:=by
 unfold gr
 split
 ·exact hf.must _
 split
 ·exact Lu hf c
 ·apply Ir G
  split
  ·exact Iq G hf c _
  ·exact Ip h c _ hf
theorem VZ.step {h:Hp} (hf:VZ h):VZ h.step:=by
 unfold Hp.step
 split
 ·exact hf
 ·split
  ·exact hf.fin _
  ·exact hf
theorem zM:∀n:Nat,Oj (bF n)
 | 0=>fun h c hf=>hf.step
 | n+1=>fun h c hf=>by
  unfold bF
  split
  ·exact hf.step
  ·exact D9 (zM n) hf.step c
def Q9 (n:Nat) (go:Hp->aH->Hp×Va):Prop:=∀h c,cq n h->(go h c).1.stops=false->(go h c).2.kind=0->(go h c).2.n=0
theorem L4 {n:Nat} {go:Hp->aH->Hp×Va} (G:Q9 n go) (d:jE) (e:cq n d.h) (hs:(dM go d).1.stops=false) (hk:(dM go d).2.kind=0):(dM go d).2.n=0:=by
 unfold dM at hs hk ⊢
 split
 ·rfl
 ·rename_i h1
  rw [if_neg h1] at hs hk
  split
  ·rename_i h2
   rw [if_pos h2] at hs hk
   split
   ·rfl
   ·rename_i h3
    rw [if_neg h3] at hs hk
    refine G _ _ ?_ hs hk
    refine Lf.enough ?_ e
    refine Lf.trans ?_ (dr _ _ _).lf
    exact ⟨rfl,Int.le_refl _⟩
  ·rename_i h2
   rw [if_neg h2] at hs hk
   exact G _ _ e hs hk
theorem Ok (h:Hp) (c:aH) (ho:h.over=false) (hs:(j9 h c).1.stops=false) (hk:(j9 h c).2.kind=0):(j9 h c).2.n=0:=by
 have hrk:=we h c ho hs
 unfold j9 at hk hrk ⊢
 split
 ·rfl
 ·rename_i h1
  rw [if_neg h1] at hk hrk
  exact absurd (hrk.symm.trans hk) h1
theorem Iv {n:Nat} {go:Hp->aH->Hp×Va} (K:KK n go) (G:Q9 n go) (h:Hp) (c:aH) (e:cq n h) (ho:h.over=false) (hs:(gr go h c).1.stops=false) (hk:(gr go h c).2.kind=0):(gr go h c).2.n=0:=by
 unfold gr at hs hk ⊢
 split
 ·rfl
 ·rename_i h1
  rw [if_neg h1] at hs hk
  split
  ·rename_i h2
   rw [if_pos h2] at hs hk
   exact Ok h c ho hs hk
  ·rename_i h2
   rw [if_neg h2] at hs hk
   refine L4 G _ ?_ hs hk
   split
   ·exact (su K h c _).enough e
   ·exact (nC h c _).lf.enough e
theorem Ea:∀n:Nat,Q9 n (bF n)
 | 0=>fun h c _ _ _=>rfl
 | n+1=>fun h c e hs hk=>by
  unfold bF at hs hk ⊢
  split
  ·rfl
  ·rename_i h1
   rw [if_neg h1] at hs hk
   have hb:h.stepB=true:=by simpa using h1
   exact Iv (nD n) (Ea n) _ _ (fj e hb) (fV hb).2.2.1 hs hk
def wo (h:Hp) (v:Va):Sh :=
 if h.over=true then h.sh
 else if 0<=h.thrown then { h.sh with fin:=2,cls:=(h.obj h.thrown).cls }
 else if v.kind=1∨v.kind=2 then { h.sh with fin:=1,value:=v.n } else { h.sh with fin:=1 }
theorem L5 (s:Sh):s=⟨s.fin,s.value,s.cls,s.out,s.used,s.steps⟩:=rfl
theorem Bn (k:Nat) (h:Hp) (v:Va) (z:VZ h) (hk:h.stops=false->(0<=v.kind/\v.kind<=3)/\(v.kind=0->v.n=0)):jM k (h,v) []=wo h v:=by
 obtain ⟨z1,z2⟩:=z
 unfold jM wo
 dsimp only
 split
 ·rw [L5 h.sh,z1,z2]
 ·rename_i h1
  split
  ·rename_i h2
   rw [z1]
   rfl
  ·rename_i h2
   obtain ⟨h3,h4⟩:=hk (by simp [Hp.stops,h1,h2])
   show (⟨1,if v.kind=3 then 0 else v.n,0,h.sh.out,h.sh.used,h.sh.steps⟩:Sh)=_
   by_cases h5:v.kind=1∨v.kind=2
   ·rw [if_pos h5,if_neg (by omega),z2]
   ·rw [if_neg h5,z1,z2]
    by_cases h6:v.kind=3
    ·rw [if_pos h6]
    ·rw [if_neg h6,h4 (by omega)]
theorem Iw (n:Nat) (h:Hp) (m:Me) (l:List Va) (hs:h.stops=false) (e:cq n h) (z:VZ h) (hB:h.enterB m l=true) (hr:0<=m.ret.kind/\m.ret.kind<=3) :
  od (runM n { h with calls:=h.calls+1 } [bS m l])=wo (fX (bF n) h m l).1 (fX (bF n) h m l).2:=by
 have hE:h.enterH m l={ h with calls:=h.calls+1 }:=by
  unfold Hp.enterB at hB
  rw [Bool.and_eq_true] at hB
  unfold Hp.enterH
  rw [if_neg (by rw [hB.1];decide),if_neg (by simpa using hB.2)]
 unfold fX
 rw [if_pos hB,hE]
 have Ol:({ h with calls:=h.calls+1 }:Hp).stops=false:=hs
 have e':cq n ({ h with calls:=h.calls+1 }:Hp):=e
 have S:=zJ n _ (bS m l) Ol e' n [] e'
 unfold qc at S
 rw [S]
 have V:=zM n _ (bS m l) (show VZ { h with calls:=h.calls+1 } from z)
 have K:=(nD n).kind _ (bS m l) e'
 have Z:=Ea n _ (bS m l) e'
 generalize bF n { h with calls:=h.calls+1 } (bS m l)=r at V K Z ⊢
 refine Bn n r.1 r.2 V fun ND=>⟨?_,Z ND⟩
 rw [K ND]
 exact hr
def nG (w:World) (A:Option Addr) (l:List Int):Prop :=
 l.length<=maxLen/\(l.length=0∨∃b off,A=some ⟨b,off,none⟩/\∀i,i<l.length->w.cell? ⟨b,off+i,none⟩=some (int i64 (nth (0:Int) l i)))
theorem nG.bl {w w':World} {A:Option Addr} {l:List Int} (h:nG w A l) (hb:Bl w w'):nG w' A l:=by
 refine ⟨h.1,?_⟩
 rcases h.2 with h0|⟨b,off,e,hc⟩
 ·exact Or.inl h0
 ·exact Or.inr ⟨b,off,e,fun i hi=>hb.cell (hc i hi)⟩
theorem Eb {w:World} {base:Nat} {v:Value} {l:List Int} (h:w.ownsRow base 2 1 v l.length (l.map (Value.int .i64))):∃A cap,v=.slice A l.length cap/\nG w A l:=by
 rcases h.2 with ⟨h1,h0⟩|⟨gb,cap,cur,rfl,h2,h3,h4,h5,h6,h7⟩
 ·exact ⟨none,0,by rw [h1,h0],by unfold maxLen;omega,Or.inl h0⟩
 ·refine ⟨_,cap,rfl,by omega,Or.inr ⟨gb,0,rfl,fun i hi=>?_⟩⟩
  rw [aa h3]
  have h8:(cur.toList.take (l.length*1))[i]?=(l.map (Value.int .i64))[i]?:=by rw [h7]
  rw [List.getElem?_take,if_pos (by omega)] at h8
  rw [Nat.zero_add,<-Array.getElem?_toList,h8,List.getElem?_map,List.getElem?_eq_getElem hi,bU hi]
  rfl
theorem yv (A B:Option Addr) (a b:Nat) (l:List Int) (w:World) (hA:nG w A l) (hB:nG w B l) :
  Calls Tryz.prog 24 #[.slice A l.length a,.slice B l.length b] w fun e w'=>e=.returned (.bool true)/\Bl w w':=by
 have HA:=ab hA
 have HB:=ab hB
 have hm:=hA.1
 unfold maxLen at hm
 clear hA hB
 go_enter Tryz.func24,Tryz.ntmps24
 go_wp2
 go_loopw [5] (fun i wr=>∃q:Nat,q<=l.length/\i=int i64 q/\Hid (Bl w wr)) (fun i _=>l.length-(intOf i).toNat)
 case atStart=>exact ⟨0,Nat.zero_le _,rfl,Bl.refl _⟩
 case round =>
  obtain ⟨q,hq,rfl,hg⟩:=hrel
  by_cases eR:q<l.length
  ·rcases (HA.out.bl hg.out).2 with z0|⟨b1,o1,rfl,c1⟩
   ·omega
   rcases (HB.out.bl hg.out).2 with z0|⟨b2,o2,rfl,c2⟩
   ·omega
   have x1:=c1 q eR
   have x2:=c2 q eR
   clear c1 c2
   go_wp2
   go_quiet (fail)
   go_wp2
   go_roundw
   case rel=>exact ⟨q+1,by omega,by go_num,aR hg.out _⟩
   case measure=>simp [intOf];omega
  ·obtain rfl:q=l.length:=by omega
   go_wp2
   go_ret
   exact ⟨rfl,hg.out⟩
theorem qk (p v c u s:Int) (A B:Option Addr) (a b:Nat) (l:List Int) (w:World) (hA:nG w A l) (hB:nG w B l) :
  Calls Tryz.prog 9 #[.agg #[int i64 p,int i64 v,int i64 c,.slice A l.length a,int i64 u,int i64 s],.agg #[int i64 p,int i64 v,int i64 c,.slice B l.length b,int i64 u,int i64 s]] w fun e w'=>e=.returned (.bool true)/\Bl w w':=by
 have HL:Hid (∀w',Bl w w'->Calls Tryz.prog 24 #[.slice A l.length a,.slice B l.length b] w' fun e w2=>e=.returned (.bool true)/\Bl w' w2):=fun w' hb=>yv A B a b l w' (hA.bl hb) (hB.bl hb)
 have HW:Hid (∀x y,Bl w ((w.alloc x).alloc y)):=fun _ _=>((Bl.refl w).alloc _).alloc _
 clear hA hB
 go_enter Tryz.func9,Tryz.ntmps9
 go_wp2_with (go_at_call 24;refine (HL.out _ (HW.out _ _)).mono ?_;rintro e w1 ⟨rfl,b1⟩;replace b1:=ab b1)
 go_ret
 exact ⟨rfl,(HW.out _ _).trans b1.out⟩
end Go.Proofs.YtgiiapenmjollaaGreat
