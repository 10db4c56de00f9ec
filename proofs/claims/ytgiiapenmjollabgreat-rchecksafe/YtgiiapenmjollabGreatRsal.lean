import Derived.Test.YtgiiapenmjollabGreatRsaj
namespace Go.Proofs.YtgiiapenmjollabGreat
set_option linter.all false
set_option maxHeartbeats 40000000
set_option maxRecDepth 100000
open Go.RowKit
structure Hg (h:Hp):Prop where
 may:mayB h.file.classes=true
 ty:TyH h
 ov:h.over=false
 th:h.thrown=-1
theorem Hg.tree {h:Hp} (g:Hg h):Tree h.file.classes:=(may_tree g.may).1
theorem Hg.four {h:Hp} (g:Hg h):4≤h.file.classes.length:=(may_tree g.may).2.1
theorem Hg.stops {h:Hp} (g:Hg h):h.stops=false:=by unfold Hp.stops;rw [g.ov,g.th];rfl
theorem Hg.ok {h:Hp} (g:Hg h):Ok h:=Ok.of g.ov
theorem Hg.mustB {h:Hp} (g:Hg h) {b:Bool} (hb:b=true):h.mustB b=true:=by unfold Hp.mustB;rw [hb,g.ov];rfl
theorem must_t {h:Hp} {b:Bool} (hb:b=true):h.must b=h:=by unfold Hp.must;rw [if_pos hb]
structure Done (h:Hp) (c:Cal) (s1:As) (d:Did):Prop where
 ok:Ok d.h
 ext:Ext h d.h
 ty:TyH d.h
 m:d.c.m=c.m
 pc:d.c.pc=c.pc
 nx:d.nx=c.pc+1
 go:d.h.over=false→(d.h.thrown=-1∧FitL d.h s1.slots d.c.locs∧PairV d.c.locs)∨(0≤d.h.thrown∧d.h.thrown<d.h.objs.length∧d.c.locs=c.locs)
theorem Thrw.stops {h h':Hp} (t:Thrw h h'):h'.stops=true:=by
 unfold Hp.stops
 cases ho:h'.over
 ·have:=t.thr ho;simp;omega
 ·rfl
theorem num_fit (h:Hp) {k n:Int} (hk:k=1∨k=2):FitV h ⟨k,0⟩ ⟨k,n⟩:=⟨fun e=>e,fun e=>e,fun e=>by dsimp only at e;omega,fun e=>by dsimp only at e;omega⟩
theorem in_thrw {h:Hp} (g:Hg h):Thrw h h.input'∨(Ext h h.input'∧TyH h.input'∧h.input'.over=false∧h.input'.thrown=-1∧FitV h.input' ⟨2,0⟩ h.inV):=by
 unfold Hp.input' Hp.inV
 by_cases hd:h.dry=true
 ·rw [if_pos hd]
  refine Or.inl ⟨g.ok.fin (by decide),fin_ext h 3,fin_ty g.ty 3,fun ho=>?_⟩
  rw [fin_over'] at ho;exact absurd ho (by decide)
 ·rw [if_neg hd,if_neg hd]
  exact Or.inr ⟨Ext.same rfl rfl,g.ty.same rfl rfl,g.ov,g.th,num_fit _ (Or.inr rfl)⟩
theorem new_thrw {h:Hp} (g:Hg h) {c:Int} (hc:0≤c∧c<h.file.classes.length):Thrw h (h.new c)∨(Ext h (h.new c)∧TyH (h.new c)∧(h.new c).over=false∧(h.new c).thrown=-1∧FitV (h.new c) ⟨3,c⟩ h.newV):=by
 cases ho:(h.new c).over
 ·refine Or.inr ⟨new_ext h c,new_ty g.ty g.may hc,rfl,?_,newV_fit g.may hc ho⟩
  unfold Hp.new;split
  ·rw [fin_thrown];exact g.th
  ·exact g.th
 ·exact Or.inl ⟨new_ok g.ok c,new_ext h c,new_ty g.ty g.may hc,fun hx=>by rw [ho] at hx;exact absurd hx (by decide)⟩
theorem reck_thrw {h:Hp} (g:Hg h) {a b:Va} {k op:Int} (hk:k=1∨k=2) (ha:a.kind=k) (hb:b.kind=k):Thrw h (h.reckH a b k op)∨(Ext h (h.reckH a b k op)∧TyH (h.reckH a b k op)∧(h.reckH a b k op).over=false∧(h.reckH a b k op).thrown=-1∧FitV (h.reckH a b k op) ⟨k,0⟩ (h.reckV a b k op)):=by
 have hm:=g.mustB (b:=ofBoth a b k) (by unfold ofBoth;simp [ha,hb])
 unfold Hp.reckH Hp.reckV
 rw [if_pos hm,if_pos hm]
 split
 ·exact Or.inr ⟨Ext.refl h,g.ty,g.ov,g.th,num_fit _ hk⟩
 ·exact Or.inl (raise_thrw g.ty g.may g.ok (by have:=g.four;omega))
theorem get_thrw {h:Hp} (g:Hg h) {r:Va} {c k:Int} (hc:0≤c∧c<h.file.classes.length) (hk:0≤k∧k<(nth cl0 h.file.classes c.toNat).fields.length) (hr:FitV h ⟨3,c⟩ r) :
  Thrw h (h.findH r c)∨(h.findH r c=h∧0≤r.n∧r.n.toNat<h.objs.length∧∃q:Nat,q<(h.obj r.n).held.length∧h.findN r c k=q∧(nth hel0 (h.obj r.n).held q).cls=c∧(nth hel0 (h.obj r.n).held q).fld=k):=by
 have hof:h.of r ⟨3,c⟩=true:=hr.of (decide_eq_true (Or.inl ⟨rfl,hc.1,hc.2⟩))
 have hm:=g.mustB hof
 unfold Hp.findH Hp.findN
 rw [if_pos hm,if_pos hm]
 by_cases hn:r.n<0
 ·rw [if_pos hn];exact Or.inl (raise_thrw g.ty g.may g.ok (by have:=g.four;omega))
 ·rw [if_neg hn,if_neg hn]
  obtain ⟨h1,h2⟩:=(hr.ref rfl).2 (by omega)
  obtain ⟨C,rfl⟩:∃C:Nat,c=C:=⟨c.toNat,by omega⟩
  obtain ⟨K,rfl⟩:∃K:Nat,k=K:=⟨k.toNat,by omega⟩
  obtain ⟨q,q1,q2,q3,q4⟩:=held_there g.ty (n:=r.n.toNat) (by omega) (c:=C) (k:=K) h2 (by rw [Int.toNat_natCast] at hk;omega)
  exact Or.inr ⟨rfl,by omega,by omega,q,q1,q2,q3,q4⟩
theorem getV_fit {h:Hp} (g:Hg h) {r:Va} {c k:Int} {q:Nat} (hn:r.n.toNat<h.objs.length) (q1:q<(h.obj r.n).held.length) (q2:h.findN r c k=q) (q3:(nth hel0 (h.obj r.n).held q).cls=c) (q4:(nth hel0 (h.obj r.n).held q).fld=k):FitV h (fieldT h.file.classes c k) (h.getV r c k):=by
 unfold Hp.getV
 rw [q2,if_neg (by omega),Int.toNat_natCast]
 have:=g.ty.held r.n.toNat hn (nth hel0 (h.obj r.n).held q) (nth_mem q1)
 rw [q3,q4] at this;exact this
theorem wr_fit {h h2:Hp} {c:Cal} {s:As} {n:Nat} {nl:Int} {t:Ty} {v:Va} {a:Int} (fs:Fits h s c) (e:Ext h h2) (w:WfA n nl s) (ha:0≤a∧a<nl) (ha2:t.kind=2→a+1<nl) (ht:1≤t.kind∧t.kind≤3) (hv:FitV h2 t v):FitL h2 (wrT s.slots a.toNat t) (stoP c.locs a.toNat v)∧PairV (stoP c.locs a.toNat v):=by
 have hl:=w.len
 have hlen:=fs.sl.1
 have hk:=hv.siz ht
 exact ⟨sto_fit (fs.sl.ext e) w.pair fs.pr (by omega) (fun x=>by have:=ha2 x;omega) hk (by omega) (by omega) hv,stoP_pair fs.pr (by omega) (fun x=>by have:=ha2 (by omega);omega) (by omega)⟩
theorem wrP_go {h:Hp} (hs:h.stops=false) (c:Cal) (a:Int) (v:Va):wrP h c a v={ c with locs:=stoP c.locs a.toNat v }:=by unfold wrP;rw [if_neg (by rw [hs];decide)]
theorem wrP_no {h:Hp} (hs:h.stops=true) (c:Cal) (a:Int) (v:Va):wrP h c a v=c:=by unfold wrP;rw [if_pos hs]
theorem gives_done {h:Hp} {c:Cal} {s:As} {i:In} {t:Ty} {n:Nat} {nl:Int} (fs:Fits h s c) (w:WfA n nl s) (ha:0≤i.a∧i.a<nl) (ha2:t.kind=2→i.a+1<nl) (ht:1≤t.kind∧t.kind≤3)
  (H:Thrw h (givesH h c i)∨(Ext h (givesH h c i)∧TyH (givesH h c i)∧(givesH h c i).over=false∧(givesH h c i).thrown=-1∧FitV (givesH h c i) t (givesV h c i))):Done h c ⟨wrT s.slots i.a.toNat t,[]⟩ (givesP h c i):=by
 unfold givesP
 generalize givesH h c i=h2 at *
 generalize givesV h c i=v at *
 rcases H with H|⟨H1,H2,H3,H4,H5⟩
 ·rw [wrP_no H.stops]
  exact ⟨H.ok,H.ext,H.ty,rfl,rfl,rfl,fun ho=>Or.inr ⟨(H.thr ho).1,(H.thr ho).2,rfl⟩⟩
 ·have hs:h2.stops=false:=by unfold Hp.stops;rw [H3,H4];rfl
  rw [wrP_go hs]
  have q:=wr_fit fs H1 w ha ha2 ht H5
  exact ⟨Ok.of H3,H1,H2,rfl,rfl,rfl,fun _=>Or.inl ⟨H4,q.1,q.2⟩⟩
theorem losT_ref {l:List Ty} {a:Nat} (h:(nth ty0 l a).kind=3):losT l a=l:=by unfold losT;rw [if_neg (by omega),if_neg (by omega)]
theorem null_fit (h:Hp):FitV h ⟨3,-1⟩ ⟨3,-1⟩:=⟨fun e=>absurd e (by decide),fun e=>absurd e (by decide),fun _=>⟨rfl,fun hn=>absurd hn (by decide)⟩,fun e=>absurd e (by decide)⟩
theorem work_safe {h:Hp} {c:Cal} {s s1:As} {i:In} {rt:Int} (g:Hg h) (hi:i=nth in0 c.m.code c.pc.toNat) (w:WfA h.file.classes.length c.m.regs s) (fs:Fits h s c) (ok:InOk h.file.classes h.file.methods c.m.code.length c.m.regs rt i) (hop:i.op≠10∧i.op≠11∧i.op≠12∧i.op≠18∧i.op≠20∧i.op≠21) (hw:workT h.file.classes i s=some s1):Done h c s1 (doesP h c i):=by
 have hns:=g.stops
 have hov:=g.ov
 obtain ⟨n10,n11,n12,n18,n20,n21⟩:=hop
 have hl:=w.len
 have hlen:=fs.sl.1
 have okop:=ok.op
 have rdk:∀{k a:Int} {v:Ty},1≤k∧k≤3→0≤a∧a<c.m.regs→rdT k a s=some v→FitV h v (c.rd a)∧(c.rd a).kind=k∧h.rdH c a k=h:=fun hk ha hr=>fs.rd hk (by omega) hr
 have rdy:∀{t:Ty} {a:Int} {v:Ty},tyB h.file.classes.length t=true→0≤a∧a<c.m.regs→rdY h.file.classes t a s=some v→FitV h t (c.rd a)∧(c.rd a).kind=t.kind∧h.rdH c a t.kind=h:=fun {t a v} hty ha hr=>by
  obtain ⟨e1,e2,e3⟩:=rdY_eq hr
  have ht:=of_decide_eq_true hty
  have f:FitV h v (c.rd a):=by rw [e1];exact fs.sl.2 _ (by omega)
  have hkk:=(f.siz (by omega)).trans e2
  refine ⟨fit_of g.tree f ?_ hty e3,hkk,by unfold Hp.rdH Hp.must;rw [if_pos (decide_eq_true hkk)]⟩
  rw [e1]
  exact (w.sl _ (nth_mem (by omega))).1
 unfold workT at hw
 unfold doesP
 rw [if_neg n10,if_neg n11,if_neg n12]
 by_cases e15:i.op=15
 ·rw [if_pos e15] at hw ⊢
  rw [Option.bind_eq_some_iff] at hw
  obtain ⟨x,t1,t2⟩:=hw
  rw [Option.bind_eq_some_iff] at t2
  obtain ⟨y,t2,t3⟩:=t2
  have t3:=Option.some.inj t3
  subst t3
  have o:=ok.fld (Or.inr e15)
  have hfy:tyB h.file.classes.length (fieldT h.file.classes i.c i.n)=true:=may_fldT g.may (by omega) (by omega)
  have hcy:tyB h.file.classes.length ⟨3,i.c⟩=true:=decide_eq_true (Or.inl ⟨rfl,o.1,o.2.1⟩)
  obtain ⟨fu,ku,ru⟩:=rdy hcy (ok.b (by omega)) t1
  obtain ⟨fv,kv,rv⟩:=rdy hfy (ok.a (by omega)) t2
  have ru:h.rdH c i.b 3=h:=ru
  unfold putP
  dsimp only
  rw [ru,rv,if_neg (by rw [hov];decide)]
  unfold Hp.put
  rw [if_pos (g.mustB (fv.of hfy))]
  rcases get_thrw g (k:=i.n) ⟨o.1,o.2.1⟩ ⟨o.2.2.1,o.2.2.2⟩ fu with T|⟨T1,T2,T3,q,q1,q2,q3,q4⟩
  ·by_cases hn:h.findN (c.rd i.b) i.c i.n<0
   ·rw [if_pos hn]
    exact ⟨T.ok,T.ext,T.ty,rfl,rfl,rfl,fun ho=>Or.inr ⟨(T.thr ho).1,(T.thr ho).2,rfl⟩⟩
   ·exfalso
    have hm:=g.mustB (fu.of hcy)
    unfold Hp.findN at hn
    rw [if_pos hm] at hn
    by_cases hu:(c.rd i.b).n<0
    ·rw [if_pos hu] at hn;omega
    ·have hst:=T.stops
     unfold Hp.findH at hst
     rw [if_pos hm,if_neg hu,hns] at hst
     exact absurd hst (by decide)
  ·rw [q2,if_neg (by omega),T1,Int.toNat_natCast]
   have hset:=setV_ext h (c.rd i.b).n.toNat q (c.rd i.a)
   have hty:=setV_ty g.ty (n:=(c.rd i.b).n.toNat) (j:=q) (v:=c.rd i.a) T3 q1 (by
    show FitV h (fieldT h.file.classes (nth hel0 (h.obj (c.rd i.b).n).held q).cls (nth hel0 (h.obj (c.rd i.b).n).held q).fld) (c.rd i.a)
    rw [q3,q4];exact fv)
   exact ⟨Ok.of g.ov,hset,hty,rfl,rfl,rfl,fun _=>Or.inl ⟨g.th,fs.sl.ext hset,fs.pr⟩⟩
 rw [if_neg e15] at hw ⊢
 by_cases e23:i.op=23
 ·rw [if_pos e23] at hw
  rw [if_neg (by omega),if_neg (by omega),if_neg (by omega),if_neg (by omega),if_pos e23]
  rw [Option.bind_eq_some_iff] at hw
  obtain ⟨x,t1,t2⟩:=hw
  have t2:=Option.some.inj t2
  subst t2
  have o:=ok.emit e23
  obtain ⟨fv,kv,rv⟩:=rdk (by omega) (ok.a (by omega)) t1
  unfold emitP
  rw [rv,if_neg (by rw [hov];decide)]
  unfold Hp.emit
  rw [if_pos (g.mustB (decide_eq_true kv))]
  exact ⟨Ok.of g.ov,Ext.same rfl rfl,g.ty.same rfl rfl,rfl,rfl,rfl,fun _=>Or.inl ⟨g.th,fs.sl.ext (Ext.same rfl rfl),fs.pr⟩⟩
 rw [if_neg e23] at hw
 rw [Option.bind_eq_some_iff] at hw
 obtain ⟨t,hv,t2⟩:=hw
 have t2:=Option.some.inj t2
 subst t2
 unfold valT at hv
 by_cases e16:i.op=16
 ·rw [if_pos e16]
  rw [if_neg (by omega),if_neg (by omega),if_neg (by omega),if_neg (by omega),if_pos e16,Option.bind_eq_some_iff] at hv
  obtain ⟨x,t1,t2⟩:=hv
  have t2:=Option.some.inj t2
  subst t2
  have ha:=ok.a (by omega)
  obtain ⟨fv,kv,rv⟩:=rdk (by omega) ha t1
  obtain ⟨x1,x2⟩:=rdT_eq t1
  have o:=ok.cls (Or.inr e16)
  unfold castP
  rw [rv,if_neg (by rw [hov];decide)]
  unfold Hp.cast
  rw [if_pos (g.mustB (b:=isRef (c.rd i.a)) (decide_eq_true kv))]
  split
  ·rename_i hof
   refine ⟨g.ok,Ext.refl h,g.ty,rfl,rfl,rfl,fun _=>Or.inl ⟨g.th,?_,fs.pr⟩⟩
   have hk3:(nth ty0 s.slots i.a.toNat).kind=3:=by rw [←x1];exact x2
   show FitL h (wrT s.slots i.a.toNat ⟨3,i.b⟩) c.locs
   unfold wrT
   rw [if_neg (by show ¬(3:Int)=2;decide),losT_ref hk3]
   refine ⟨by rw [List.length_set];exact hlen,fun j hj=>?_⟩
   rw [List.length_set] at hj
   rw [nth_setI (by omega)]
   split
   ·rename_i hj2
    subst hj2
    refine ⟨fun e=>by dsimp only at e;omega,fun e=>by dsimp only at e;omega,fun _=>⟨kv,fun hn=>?_⟩,fun e=>by dsimp only at e;omega⟩
    have hlt:=((fv.ref x2).2 hn).1
    refine ⟨hlt,?_⟩
    unfold Hp.of at hof
    simp at hof
    rcases hof.2 with h2|h2
    ·have:(c.rd i.a).n<0:=h2
     have hn:0≤(c.rd i.a).n:=hn
     omega
    ·exact h2
   ·exact fs.sl.2 j hj
  ·have T:=raise_thrw g.ty g.may g.ok (c:=3) (by have:=g.four;omega)
   exact ⟨T.ok,T.ext,T.ty,rfl,rfl,rfl,fun ho=>Or.inr ⟨(T.thr ho).1,(T.thr ho).2,rfl⟩⟩
 rw [if_neg e16]
 have fetch:∀{k:Int},fetchT k s=some t→∃x,s.stk=[x]∧x=t∧t.kind=k∧((nth in0 c.m.code c.pc.toNat).op=19→FitV h t c.giv)∧((nth in0 c.m.code c.pc.toNat).op=22→FitV h t c.cau):=fun {k} hf=>by
  unfold fetchT at hf
  rcases fs.hd with e|⟨x,e,a,b⟩
  ·rw [e] at hf;simp at hf
  ·rw [e] at hf
   have hf:(if x.kind=k then some x else none)=some t:=hf
   split at hf
   ·rename_i hk
    have:=Option.some.inj hf
    subst this
    exact ⟨x,e,rfl,hk,a,b⟩
   ·cases hf
 by_cases e19:i.op=19
 ·rw [if_pos e19]
  rw [if_neg (by omega),if_neg (by omega),if_neg (by omega),if_neg (by omega),if_neg (by omega),if_pos e19] at hv
  obtain ⟨x,-,-,hk,a,-⟩:=fetch hv
  have fg:=a (by rw [←hi];exact e19)
  have o:=ok.res e19
  have hgk:=(fg.siz (by omega)).trans hk
  unfold resP
  rw [must_t (decide_eq_true hgk),if_pos (g.mustB (decide_eq_true hgk)),wrP_go hns]
  have q:=wr_fit fs (Ext.refl h) w (ok.a (by omega)) (fun e=>ok.two (by omega)) (by omega) fg
  exact ⟨g.ok,Ext.refl h,g.ty,rfl,rfl,rfl,fun _=>Or.inl ⟨g.th,q.1,q.2⟩⟩
 rw [if_neg e19,if_neg n21]
 by_cases e22:i.op=22
 ·rw [if_pos e22]
  rw [if_neg (by omega),if_neg (by omega),if_neg (by omega),if_neg (by omega),if_neg (by omega),if_neg (by omega),if_pos e22] at hv
  obtain ⟨x,-,-,hk,-,b⟩:=fetch hv
  have fg:=b (by rw [←hi];exact e22)
  have hgk:isRef c.cau=true:=decide_eq_true ((fg.siz (by omega)).trans hk)
  unfold cauP
  rw [must_t hgk,if_pos (g.mustB hgk),wrP_go hns]
  have q:=wr_fit fs (Ext.refl h) w (ok.a (by omega)) (fun e=>by omega) (by omega) fg
  exact ⟨g.ok,Ext.refl h,g.ty,rfl,rfl,rfl,fun _=>Or.inl ⟨g.th,q.1,q.2⟩⟩
 rw [if_neg e22,if_neg e23]
 have same:∀{h2:Hp} {t:Ty} {v:Va},h2=h→FitV h t v→Ext h h2∧TyH h2∧h2.over=false∧h2.thrown=-1∧FitV h2 t v:=fun e fv=>by subst e;exact ⟨Ext.refl _,g.ty,g.ov,g.th,fv⟩
 have ha:=ok.a (by omega)
 by_cases e3:i.op=3
 ·rw [if_pos e3] at hv
  have:=Option.some.inj hv
  subst this
  refine gives_done fs w ha (fun e=>by dsimp only at e;omega) (by decide) (Or.inr ?_)
  have eV:givesV h c i=⟨3,-1⟩:=by simp [givesV,e3]
  rw [eV]
  exact same (by simp [givesH,e3]) (null_fit h)
 rw [if_neg e3] at hv
 by_cases e4:i.op=4
 ·rw [if_pos e4] at hv
  have o:=ok.move e4
  obtain ⟨fv,kv,rv⟩:=rdk (by omega) (ok.b (by omega)) hv
  have tk:=(rdT_eq hv).2
  refine gives_done fs w ha (fun e=>ok.two (by omega)) (by omega) (Or.inr ?_)
  have eV:givesV h c i=c.rd i.b:=by simp [givesV,e4]
  have eH:givesH h c i=h.rdH c i.b i.c:=by simp [givesH,e4]
  rw [eV]
  exact same (by rw [eH];exact rv) fv
 rw [if_neg e4] at hv
 by_cases e13:i.op=13
 ·rw [if_pos e13] at hv
  have:=Option.some.inj hv
  subst this
  refine gives_done fs w ha (fun e=>by dsimp only at e;omega) (by dsimp only;omega) ?_
  have eV:givesV h c i=h.newV:=by simp [givesV,e13]
  have eH:givesH h c i=h.new i.b:=by simp [givesH,e13]
  rw [eV,eH]
  exact new_thrw g (ok.cls (Or.inl e13))
 rw [if_neg e13] at hv
 by_cases e14:i.op=14
 ·rw [if_pos e14,Option.bind_eq_some_iff] at hv
  obtain ⟨x,t1,t2⟩:=hv
  have t2:=Option.some.inj t2
  subst t2
  have o:=ok.fld (Or.inl e14)
  have hfy:tyB h.file.classes.length (fieldT h.file.classes i.c i.n)=true:=may_fldT g.may (by omega) (by omega)
  have hcy:tyB h.file.classes.length ⟨3,i.c⟩=true:=decide_eq_true (Or.inl ⟨rfl,o.1,o.2.1⟩)
  obtain ⟨fu,ku,ru⟩:=rdy hcy (ok.b (by omega)) t1
  have ru:h.rdH c i.b 3=h:=ru
  refine gives_done fs w ha (fun e=>ok.two (Or.inr (Or.inr (Or.inr (Or.inr (Or.inr (Or.inr ⟨e14,e⟩))))))) (by have:=of_decide_eq_true hfy;omega) ?_
  have eH:givesH h c i=h.findH (c.rd i.b) i.c:=by simp [givesH,e14,ru,hov]
  have eV:givesV h c i=h.getV (c.rd i.b) i.c i.n:=by simp [givesV,e14,ru,hov]
  rw [eH,eV]
  rcases get_thrw g (k:=i.n) ⟨o.1,o.2.1⟩ ⟨o.2.2.1,o.2.2.2⟩ fu with T|⟨T1,T2,T3,q,q1,q2,q3,q4⟩
  ·exact Or.inl T
  ·exact Or.inr (same T1 (getV_fit g T3 q1 q2 q3 q4))
 rw [if_neg e14,if_neg e16,if_neg e19,if_neg e22] at hv
 unfold numT at hv
 by_cases e5:i.op=5
 ·rw [if_pos e5] at hv
  obtain ⟨x1,x2,rfl⟩:=two_eq hv
  have k1:=(rdk (k:=1) (by omega) (ok.b (by omega)) (by unfold rdT;rw [if_pos x1])).2.1
  have k2:=(rdk (k:=1) (by omega) (ok.c (by omega)) (by unfold rdT;rw [if_pos x2])).2.1
  refine gives_done fs w ha (fun e=>by dsimp only at e;omega) (by decide) ?_
  have eH:givesH h c i=h.reckH (c.rd i.b) (c.rd i.c) 1 i.n:=by simp [givesH,e5]
  have eV:givesV h c i=h.reckV (c.rd i.b) (c.rd i.c) 1 i.n:=by simp [givesV,e5]
  rw [eH,eV]
  exact reck_thrw g (Or.inl rfl) k1 k2
 rw [if_neg e5] at hv
 by_cases e8:i.op=8
 ·rw [if_pos e8,Option.bind_eq_some_iff] at hv
  obtain ⟨x,t1,t2⟩:=hv
  have t2:=Option.some.inj t2
  subst t2
  obtain ⟨fv,kv,rv⟩:=rdk (by omega) (ok.b (by omega)) t1
  refine gives_done fs w ha (fun e=>by dsimp only at e;omega) (by decide) (Or.inr ?_)
  have eH:givesH h c i=h.rdH c i.b 2:=by simp [givesH,e8]
  have eV:givesV h c i=⟨1,wrap32 (c.rd i.b).n⟩:=by simp [givesV,e8]
  rw [eV]
  exact same (by rw [eH];exact rv) (num_fit h (Or.inl rfl))
 rw [if_neg e8] at hv
 by_cases e9:i.op=9
 ·rw [if_pos e9] at hv
  obtain ⟨x1,x2,rfl⟩:=two_eq hv
  have k1:=(rdk (k:=2) (by omega) (ok.b (by omega)) (by unfold rdT;rw [if_pos x1])).2.2
  have k2:=(rdk (k:=2) (by omega) (ok.c (by omega)) (by unfold rdT;rw [if_pos x2])).2.2
  refine gives_done fs w ha (fun e=>by dsimp only at e;omega) (by decide) (Or.inr ?_)
  have eH:givesH h c i=(h.rdH c i.b 2).rdH c i.c 2:=by simp [givesH,e9]
  have eV:givesV h c i=⟨1,cmpV (c.rd i.b).n (c.rd i.c).n⟩:=by simp [givesV,e9]
  rw [eV]
  exact same (by rw [eH,k1,k2]) (num_fit h (Or.inl rfl))
 rw [if_neg e9] at hv
 by_cases e17:i.op=17
 ·rw [if_pos e17,Option.bind_eq_some_iff] at hv
  obtain ⟨x,t1,t2⟩:=hv
  have t2:=Option.some.inj t2
  subst t2
  obtain ⟨fv,kv,rv⟩:=rdk (by omega) (ok.b (by omega)) t1
  refine gives_done fs w ha (fun e=>by dsimp only at e;omega) (by decide) (Or.inr ?_)
  have eH:givesH h c i=h:=by simp [givesH,e17,rv,hov,Hp.must,isRef,kv]
  have eV:givesV h c i=h.isV (c.rd i.b) i.c:=by simp [givesV,e17,rv,hov]
  rw [eV]
  unfold Hp.isV
  exact same eH (num_fit h (Or.inl rfl))
 rw [if_neg e17] at hv
 by_cases e6:i.op=6
 ·rw [if_pos e6] at hv
  obtain ⟨x1,x2,rfl⟩:=two_eq hv
  have k1:=(rdk (k:=2) (by omega) (ok.b (by omega)) (by unfold rdT;rw [if_pos x1])).2.1
  have k2:=(rdk (k:=2) (by omega) (ok.c (by omega)) (by unfold rdT;rw [if_pos x2])).2.1
  refine gives_done fs w ha (fun _=>ok.two (by omega)) (by decide) ?_
  have eH:givesH h c i=h.reckH (c.rd i.b) (c.rd i.c) 2 i.n:=by simp [givesH,e6]
  have eV:givesV h c i=h.reckV (c.rd i.b) (c.rd i.c) 2 i.n:=by simp [givesV,e6]
  rw [eH,eV]
  exact reck_thrw g (Or.inr rfl) k1 k2
 rw [if_neg e6] at hv
 by_cases e7:i.op=7
 ·rw [if_pos e7,Option.bind_eq_some_iff] at hv
  obtain ⟨x,t1,t2⟩:=hv
  have t2:=Option.some.inj t2
  subst t2
  obtain ⟨fv,kv,rv⟩:=rdk (by omega) (ok.b (by omega)) t1
  refine gives_done fs w ha (fun _=>ok.two (by omega)) (by decide) (Or.inr ?_)
  have eH:givesH h c i=h.rdH c i.b 1:=by simp [givesH,e7]
  have eV:givesV h c i=⟨2,(c.rd i.b).n⟩:=by simp [givesV,e7]
  rw [eV]
  exact same (by rw [eH];exact rv) (num_fit h (Or.inr rfl))
 rw [if_neg e7] at hv
 by_cases e2:i.op=2
 ·rw [if_pos (Or.inl e2)] at hv
  have:=Option.some.inj hv
  subst this
  refine gives_done fs w ha (fun _=>ok.two (by omega)) (by decide) (Or.inr ?_)
  have eV:givesV h c i=⟨2,i.n⟩:=by simp [givesV,e2]
  rw [eV]
  exact same (by simp [givesH,e2]) (num_fit h (Or.inr rfl))
 by_cases e24:i.op=24
 ·rw [if_pos (Or.inr e24)] at hv
  have:=Option.some.inj hv
  subst this
  refine gives_done fs w ha (fun _=>ok.two (by omega)) (by decide) ?_
  have eH:givesH h c i=h.input':=by simp [givesH,e24]
  have eV:givesV h c i=h.inV:=by simp [givesV,e24]
  rw [eH,eV]
  exact in_thrw g
 rw [if_neg (by omega)] at hv
 have e1:i.op=1:=by omega
 have:=Option.some.inj hv
 subst this
 refine gives_done fs w ha (fun e=>by dsimp only at e;omega) (by decide) (Or.inr ?_)
 have eV:givesV h c i=⟨1,i.n⟩:=by simp [givesV,e1]
 rw [eV]
 exact same (by simp [givesH,e1]) (num_fit h (Or.inl rfl))
structure LeftS (h:Hp) (ret:Ty) (r:Hp×Va):Prop where
 ok:Ok r.1
 ext:Ext h r.1
 ty:TyH r.1
 fuel:r.1.fuel=h.fuel
 steps:h.sh.steps≤r.1.sh.steps
 go:r.1.over=false→(r.1.thrown=-1∧(ret.kind≠0→FitV r.1 ret r.2))∨(0≤r.1.thrown∧r.1.thrown<r.1.objs.length)
def SoundS (f:Fi) (m:Me) (st:List (Option As)):Prop:=st.length=m.code.length∧(∀k s,nth none st k=some s→WfA f.classes.length m.regs s∧StepAt f m st k s)
structure Checked (f:Fi):Prop where
 may:mayB f.classes=true
 me:∀m∈f.methods,rmeB f.classes f.methods m=true
 sound:∀m∈f.methods,SoundM f m
structure At (f:Fi) (st:List (Option As)) (h:Hp) (c:Cal):Prop where
 file:h.file=f
 hg:Hg h
 m:c.m∈f.methods
 sound:SoundS f c.m st
 lead:∃s,Leads f.classes st c.pc s∧Fits h s c
 len:(c.locs.length:Int)=c.m.regs
def GoS (f:Fi) (n:Nat) (go:Hp→Cal→Hp×Va):Prop:=∀st h c,At f st h c→h.fuel-h.sh.steps≤n→LeftS h c.m.ret (go h c)
theorem leave_ext (h:Hp):Ext h h.leave:=Ext.same rfl rfl
theorem leave_ty {h:Hp} (t:TyH h):TyH h.leave:=t.same rfl rfl
theorem LeftS.leave {h h1:Hp} {ret:Ty} {v:Va} (ok:Ok h1) (e:Ext h h1) (t:TyH h1) (hf:h1.fuel=h.fuel) (hs:h.sh.steps≤h1.sh.steps) (go:h1.over=false→(h1.thrown=-1∧(ret.kind≠0→FitV h1 ret v))∨(0≤h1.thrown∧h1.thrown<h1.objs.length)):LeftS h ret (h1.leave,v) :=
 ⟨ok,e.trans (leave_ext h1),leave_ty t,hf,hs,fun ho=>(go ho).elim (fun x=>Or.inl ⟨x.1,fun hk=>(x.2 hk).ext (leave_ext h1)⟩) Or.inr⟩
theorem LeftS.from {h h1:Hp} {ret:Ty} {r:Hp×Va} (e:Ext h h1) (hf:h1.fuel=h.fuel) (hs:h.sh.steps≤h1.sh.steps) (k:LeftS h1 ret r):LeftS h ret r:=⟨k.ok,e.trans k.ext,k.ty,k.fuel.trans hf,Int.le_trans hs k.steps,k.go⟩
theorem does_leS (h:Hp) (c:Cal) (i:In):Le h (doesP h c i).h:=by
 have t:∀a k,Le h (h.rdH c a k):=fun a k=>rdH_le h c a k
 unfold doesP
 split;exact Le.refl h
 split;exact t _ _
 split;exact t _ _
 split
 ·unfold putP;dsimp only;split
  ·exact (t _ _).trans (rdH_le _ _ _ _)
  ·exact ((t _ _).trans (rdH_le _ _ _ _)).trans (put_le _ _ _ _ _)
 split
 ·unfold castP;dsimp only;split;exact t _ _;exact (t _ _).trans (cast_le _ _ _)
 split;exact must_le _ _
 split
 ·unfold thrP;dsimp only;split;exact t _ _;exact (t _ _).trans (throw_le _ _)
 split;exact must_le _ _
 split
 ·unfold emitP;dsimp only;split;exact t _ _;exact (t _ _).trans (emit_le _ _ _)
 ·exact givesH_le _ _ _
structure Went (f:Fi) (st:List (Option As)) (h:Hp) (c:Cal) (s:As) (d:Did):Prop where
 ok:Ok d.h
 ext:Ext h d.h
 ty:TyH d.h
 m:d.c.m=c.m
 pc:d.c.pc=c.pc
 fuel:d.h.fuel=h.fuel
 steps:h.sh.steps≤d.h.sh.steps
 len:d.c.locs.length=c.locs.length
 go:d.h.over=false→(d.h.thrown=-1∧∃s1,Leads f.classes st d.nx s1∧Fits d.h s1 { d.c with pc:=d.nx })∨(0≤d.h.thrown∧d.h.thrown<d.h.objs.length∧d.c.locs=c.locs)
theorem Leads.at' {cs:List Cl} {st:List (Option As)} {t:Int} {s:As} (l:Leads cs st t s):∃u,nth none st t.toNat=some u∧leA cs s u:=l.2.2
theorem caught_hd {h:Hp} {pc:Int}:∀l:List Hd,0≤h.caughtL pc l→∃x∈l,h.fits x pc=true∧h.caughtL pc l=x.pc
 | [],hc=>by unfold Hp.caughtL at hc;omega
 | x::l,hc=>by
  unfold Hp.caughtL at hc ⊢
  split at hc
  ·rename_i hx
   exact ⟨x,List.mem_cons_self ..,hx,by rw [if_pos hx]⟩
  ·rename_i hx
   obtain ⟨y,h1,h2,h3⟩:=caught_hd l hc
   exact ⟨y,List.mem_cons_of_mem _ h1,h2,by rw [if_neg hx];exact h3⟩
theorem next_safe {f:Fi} {n:Nat} {go:Hp→Cal→Hp×Va} (G:GoS f n go) (hck:∀m∈f.methods,rmeB f.classes f.methods m=true) {st:List (Option As)} {h:Hp} {c:Cal} {s:As} {d:Did} (a:At f st h c) (w:Went f st h c s d) (fs:Fits h s c) (hpc:0≤c.pc) (hs:StepAt f c.m st c.pc.toNat s) (hn:d.h.fuel-d.h.sh.steps≤n):LeftS h c.m.ret (nextP go d):=by
 have hme:=smeP (hck c.m a.m)
 have hfd:d.h.file=f:=w.ext.file.trans a.file
 unfold nextP
 split
 ·rename_i ho
  exact LeftS.leave w.ok w.ext w.ty w.fuel w.steps (fun hx=>by rw [ho] at hx;exact absurd hx (by decide))
 ·rename_i ho
  have ho':d.h.over=false:=by simpa using ho
  split
  ·rename_i ht
   rcases w.go ho' with ⟨g1,-⟩|⟨g1,g2,g3⟩
   ·omega
   split
   ·exact LeftS.leave w.ok w.ext w.ty w.fuel w.steps (fun _=>Or.inr ⟨g1,g2⟩)
   ·rename_i hc
    obtain ⟨x,x1,x2,x3⟩:=caught_hd (h:=d.h) (pc:=d.c.pc) d.c.m.hands (by omega)
    rw [w.m] at x1
    unfold Hp.fits at x2
    rw [Bool.and_eq_true,Bool.and_eq_true,decide_eq_true_eq,decide_eq_true_eq,w.pc] at x2
    have hl:=hs.hands x x1 (by omega) (by omega)
    have e1:Ext d.h { d.h with thrown:=-1 }:=Ext.same rfl rfl
    have hg1:Hg { d.h with thrown:=-1 }:=⟨by show mayB d.h.file.classes=true;rw [hfd,←a.file];exact a.hg.may,w.ty.same rfl rfl,ho',rfl⟩
    have fv:FitV { d.h with thrown:=-1 } ⟨3,x.cls⟩ ⟨3,d.h.thrown⟩:=⟨fun e=>by dsimp only at e;omega,fun e=>by dsimp only at e;omega,fun _=>⟨rfl,fun _=>⟨g2,x2.2.2⟩⟩,fun e=>by dsimp only at e;omega⟩
    have fl:FitL { d.h with thrown:=-1 } s.slots d.c.locs:=by rw [g3];exact (fs.sl.ext w.ext).ext e1
    have fp:PairV d.c.locs:=by rw [g3];exact fs.pr
    have hret:d.c.m.ret=c.m.ret:=by rw [w.m]
    refine LeftS.from (w.ext.trans e1) w.fuel w.steps ?_
    have lead:∃s1,Leads f.classes st (d.h.caughtL d.c.pc d.c.m.hands) s1∧Fits { d.h with thrown:=-1 } s1 { d.c with cau:=⟨3,d.h.thrown⟩,pc:=d.h.caughtL d.c.pc d.c.m.hands }:=by
     rw [x3]
     by_cases hf:isF c.m x.pc 22
     ·refine ⟨_,hl.1 hf,fl,fp,Or.inr ⟨_,rfl,fun e=>?_,fun _=>fv⟩⟩
      have e:(nth in0 d.c.m.code x.pc.toNat).op=19:=e
      rw [w.m,hf.2.2] at e
      exact absurd e (by decide)
     ·exact ⟨_,hl.2 hf,fl,fp,Or.inl rfl⟩
    have r:=G st { d.h with thrown:=-1 } { d.c with cau:=⟨3,d.h.thrown⟩,pc:=d.h.caughtL d.c.pc d.c.m.hands } ⟨hfd,hg1,by show d.c.m∈_;rw [w.m];exact a.m,by show SoundS f d.c.m st;rw [w.m];exact a.sound,lead,by show (d.c.locs.length:Int)=d.c.m.regs;rw [w.m,w.len];exact a.len⟩ hn
    have r:LeftS { d.h with thrown:=-1 } d.c.m.ret _:=r
    rw [hret] at r
    exact r
  ·rename_i ht
   rcases w.go ho' with ⟨g1,s1,g2,g3⟩|⟨g1,-⟩
   ·refine LeftS.from w.ext w.fuel w.steps ?_
    have hg1:Hg d.h:=⟨by rw [hfd,←a.file];exact a.hg.may,w.ty,ho',g1⟩
    have r:=G st d.h { d.c with pc:=d.nx } ⟨hfd,hg1,by show d.c.m∈_;rw [w.m];exact a.m,by show SoundS f d.c.m st;rw [w.m];exact a.sound,⟨s1,g2,g3⟩,by show (d.c.locs.length:Int)=d.c.m.regs;rw [w.m,w.len];exact a.len⟩ hn
    have r:LeftS d.h d.c.m.ret _:=r
    rw [w.m] at r
    exact r
   ·omega
theorem wrP_len (h:Hp) (c:Cal) (a:Int) (v:Va):(wrP h c a v).locs.length=c.locs.length:=by
 unfold wrP;split
 ·rfl
 ·exact stoP_length _ _ _
theorem does_len (h:Hp) (c:Cal) (i:In):(doesP h c i).c.locs.length=c.locs.length:=by
 unfold doesP
 split;rfl
 split;rfl
 split;rfl
 split;rfl
 split;rfl
 split
 ·unfold resP;dsimp only;split
  ·exact wrP_len _ _ _ _
  ·rfl
 split;rfl
 split
 ·unfold cauP;dsimp only;split
  ·exact wrP_len _ _ _ _
  ·rfl
 split;rfl
 ·exact wrP_len _ _ _ _
theorem does_went {f:Fi} {st:List (Option As)} {h:Hp} {c:Cal} {u:As} {rt:Int} (a:At f st h c) (hu:WfA f.classes.length c.m.regs u) (hs:StepAt f c.m st c.pc.toNat u) (fs:Fits h u c) (hpc:0≤c.pc) (ok:InOk h.file.classes h.file.methods c.m.code.length c.m.regs rt (nth in0 c.m.code c.pc.toNat)) (n18:(nth in0 c.m.code c.pc.toNat).op≠18) (n20:(nth in0 c.m.code c.pc.toNat).op≠20):Went f st h c u (doesP h c (nth in0 c.m.code c.pc.toNat)):=by
 have g:=a.hg
 have le:=does_leS h c (nth in0 c.m.code c.pc.toNat)
 have ln:=does_len h c (nth in0 c.m.code c.pc.toNat)
 have out:=hs.out
 have hpn:((c.pc.toNat+1:Nat):Int)=c.pc+1:=by omega
 obtain ⟨i,hi⟩:∃i,i=nth in0 c.m.code c.pc.toNat:=⟨_,rfl⟩
 rw [←hi] at le ln out ok n18 n20 ⊢
 have hl:=hu.len
 have F0:∀nx:Int,Fits h ⟨u.slots,[]⟩ { c.clr with pc:=nx }:=fun nx=>⟨fs.sl,fs.pr,Or.inl rfl⟩
 unfold OutOk at out
 by_cases e10:i.op=10
 ·rw [if_pos e10] at out
  have e:doesP h c i=⟨h,c.clr,i.a⟩:=by unfold doesP;rw [if_pos e10]
  rw [e] at le ln ⊢
  exact ⟨g.ok,Ext.refl h,g.ty,rfl,rfl,rfl,Int.le_refl _,rfl,fun _=>Or.inl ⟨g.th,_,out,F0 _⟩⟩
 rw [if_neg e10] at out
 by_cases e11:i.op=11
 ·rw [if_pos e11] at out
  obtain ⟨⟨v,t1⟩,l1,l2⟩:=out
  rw [hpn] at l2
  have e:doesP h c i=ifP h c i:=by unfold doesP;rw [if_neg e10,if_pos e11]
  rw [e] at le ln ⊢
  obtain ⟨fv,kv,rv⟩:=fs.rd (k:=1) (a:=i.c) (by omega) (by have:=ok.c (by omega);omega) t1
  unfold ifP at le ln ⊢
  rw [rv] at le ⊢
  refine ⟨g.ok,Ext.refl h,g.ty,rfl,rfl,rfl,Int.le_refl _,rfl,fun _=>Or.inl ⟨g.th,⟨u.slots,[]⟩,?_,F0 _⟩⟩
  dsimp only
  split
  ·exact l1
  ·exact l2
 rw [if_neg e11] at out
 by_cases e12:i.op=12
 ·rw [if_pos e12] at out
  obtain ⟨⟨v,t1⟩,l1,l2⟩:=out
  rw [hpn] at l2
  have e:doesP h c i=ifnP h c i:=by unfold doesP;rw [if_neg e10,if_neg e11,if_pos e12]
  rw [e] at le ln ⊢
  obtain ⟨fv,kv,rv⟩:=fs.rd (k:=3) (a:=i.c) (by omega) (by have:=ok.c (by omega);omega) t1
  unfold ifnP at le ln ⊢
  rw [rv] at le ⊢
  refine ⟨g.ok,Ext.refl h,g.ty,rfl,rfl,rfl,Int.le_refl _,rfl,fun _=>Or.inl ⟨g.th,⟨u.slots,[]⟩,?_,F0 _⟩⟩
  dsimp only
  split
  ·exact l1
  ·exact l2
 rw [if_neg e12,if_neg n18,if_neg n20] at out
 by_cases e21:i.op=21
 ·rw [if_pos e21] at out
  obtain ⟨v,t1⟩:=out
  have e:doesP h c i=thrP h c i:=by unfold doesP;rw [if_neg e10,if_neg e11,if_neg e12,if_neg (by omega),if_neg (by omega),if_neg (by omega),if_pos e21]
  rw [e] at le ln ⊢
  obtain ⟨fv,kv,rv⟩:=fs.rd (k:=3) (a:=i.a) (by omega) (by have:=ok.a (by omega);omega) t1
  unfold thrP at le ln ⊢
  rw [rv,if_neg (by rw [g.ov];decide)] at le ⊢
  have hr:isRef (c.rd i.a)=true:=decide_eq_true kv
  have T:Thrw h (h.throw (c.rd i.a)):=by
   unfold Hp.throw
   rw [if_pos (g.mustB hr)]
   by_cases hn:(c.rd i.a).n<0
   ·rw [if_pos hn];exact raise_thrw g.ty g.may g.ok (by have:=g.four;omega)
   ·rw [if_neg hn]
    have hlt:=((fv.ref (rdT_eq t1).2).2 (by omega)).1
    exact ⟨Ok.of g.ov,Ext.same rfl rfl,g.ty.same rfl rfl,fun _=>⟨by dsimp only;omega,hlt⟩⟩
  exact ⟨T.ok,T.ext,T.ty,rfl,rfl,le.fuel,le.steps,rfl,fun ho=>Or.inr ⟨(T.thr ho).1,(T.thr ho).2,rfl⟩⟩
 rw [if_neg e21] at out
 obtain ⟨s1,w1,l1⟩:=out
 rw [hpn] at l1
 have D:=work_safe (s1:=s1) g hi (by rw [a.file];exact hu) fs ok ⟨e10,e11,e12,n18,n20,e21⟩ (by rw [a.file];exact w1)
 have hs1:s1.stk=[]:=by
  unfold workT at w1
  split at w1
  ·rw [Option.bind_eq_some_iff] at w1
   obtain ⟨x,-,w2⟩:=w1
   rw [Option.bind_eq_some_iff] at w2
   obtain ⟨y,-,w3⟩:=w2
   rw [←Option.some.inj w3]
  ·split at w1
   ·rw [Option.bind_eq_some_iff] at w1
    obtain ⟨x,-,w2⟩:=w1
    rw [←Option.some.inj w2]
   ·rw [Option.bind_eq_some_iff] at w1
    obtain ⟨x,-,w2⟩:=w1
    rw [←Option.some.inj w2]
 exact ⟨D.ok,D.ext,D.ty,D.m,D.pc,le.fuel,le.steps,ln,fun ho=>(D.go ho).elim (fun x=>Or.inl ⟨x.1,s1,by rw [D.nx];exact l1,⟨x.2.1,x.2.2,Or.inl hs1⟩⟩) Or.inr⟩
theorem args_fit {h:Hp} {n:Nat}:∀(ps:List Ty) (vs:List Va) (ts:List Ty) (ls:List Va) (at':Nat),FitL h ps vs→(∀t∈ps,tyB n t=true)→FitL h ts ls→PairT ts→PairV ls→at'+slotsN ps≤ts.length→FitL h (argsT ts at' ps) (argsP ls at' vs)∧PairV (argsP ls at' vs)
 | [],vs,ts,ls,at',g,_,h1,_,h3,_=>by
  have:vs=[]:=List.length_eq_zero_iff.1 g.1.symm
  subst this;exact ⟨h1,h3⟩
 | t::ps,vs,ts,ls,at',g,hty,h1,h2,h3,hr=>by
  cases vs with
  | nil=>have:=g.1;simp at this
  | cons v vs =>
   have ht:=of_decide_eq_true (hty t (by simp))
   have fv:FitV h t v:=g.2 0 (by simp)
   have hk:=fv.siz (by omega)
   have hz:slotsN (t::ps)=(if t.kind=2 then 2 else 1)+slotsN ps:=rfl
   have hz1:slotsN [t]=if t.kind=2 then 2 else 1:=by simp [slotsN]
   have hlt:at'<ts.length:=by rw [hz] at hr;split at hr<;>omega
   have hl2:t.kind=2→at'+1<ts.length:=fun e=>by rw [hz,if_pos e] at hr;omega
   have hle:=h1.1
   have ih:=args_fit ps vs (wrT ts at' t) (stoP ls at' v) (at'+slotsN [t]) ⟨by have:=g.1;simp at this;exact this,fun j hj=>g.2 (j+1) (by simp;exact hj)⟩ (fun x hx=>hty x (List.mem_cons_of_mem _ hx)) (sto_fit h1 h2 h3 hlt hl2 hk (by omega) (by omega) fv) (wrT_pair h2 hlt hl2 (by omega)) (stoP_pair h3 (by omega) (fun e=>by have:=hl2 (by omega);omega) (by omega)) (by rw [wrT_length,hz1];rw [hz] at hr;omega)
   have e:at'+slotsN [t]=at'+sizP [v]:=by rw [hz1,siz_one,hk]
   show FitL h (argsT (wrT ts at' t) (at'+slotsN [t]) ps) (argsP (stoP ls at' v) (at'+sizP [v]) vs)∧PairV (argsP (stoP ls at' v) (at'+sizP [v]) vs)
   rw [←e]
   exact ih
theorem rep_fit (h:Hp) (n:Nat):FitL h (List.replicate n ty0) (List.replicate n va0):=by
 refine ⟨by simp,fun j hj=>?_⟩
 have e:nth ty0 (List.replicate n ty0) j=ty0:=by simp [nth,List.getD,List.getElem?_replicate];split<;>rfl
 rw [e];exact FitV.any h _
theorem rep_pairT (n:Nat):PairT (List.replicate n ty0):=by
 have e:∀j,nth ty0 (List.replicate n ty0) j=ty0:=fun j=>by simp [nth,List.getD,List.getElem?_replicate];split<;>rfl
 exact ⟨fun i _ hk=>by dsimp only at hk;rw [e] at hk;exact absurd hk (by decide),fun i _ hk=>by dsimp only at hk;rw [e] at hk;exact absurd hk (by decide)⟩
theorem rep_pairV (n:Nat):PairV (List.replicate n va0):=by
 have e:∀j,nth va0 (List.replicate n va0) j=va0:=fun j=>by simp [nth,List.getD,List.getElem?_replicate];split<;>rfl
 exact ⟨fun i _ hk=>by dsimp only at hk;rw [e] at hk;exact absurd hk (by decide),fun i _ hk=>by dsimp only at hk;rw [e] at hk;exact absurd hk (by decide)⟩
theorem enter_of {h:Hp} {n:Nat}:∀(ps:List Ty) (vs:List Va),h.file.classes.length=n→FitL h ps vs→(∀t∈ps,tyB n t=true)→h.enterL vs ps=true
 | [],vs,_,g,_=>by
  have:vs=[]:=List.length_eq_zero_iff.1 g.1.symm
  subst this;rfl
 | t::ps,vs,hn,g,hty=>by
  cases vs with
  | nil=>have:=g.1;simp at this
  | cons v vs =>
   unfold Hp.enterL
   rw [Bool.and_eq_true]
   refine ⟨(g.2 0 (by simp):FitV h t v).of (by rw [hn];exact hty t (by simp)),enter_of ps vs hn ⟨by have:=g.1;simp at this;exact this,fun j hj=>g.2 (j+1) (by simp;exact hj)⟩ (fun x hx=>hty x (List.mem_cons_of_mem _ hx))⟩
theorem run_safe {f:Fi} {n:Nat} {go:Hp→Cal→Hp×Va} (G:GoS f n go) (ck:Checked f) {h:Hp} {m:Me} {l:List Va} (hf:h.file=f) (g:Hg h) (hm:m∈f.methods) (hl:FitL h m.params l) (hn:h.fuel-h.sh.steps≤n):LeftS h m.ret (runP go h m l):=by
 have hme:=smeP (ck.me m hm)
 have hen:h.enterL l m.params=true:=enter_of (n:=f.classes.length) m.params l (by rw [hf]) hl hme.2.2.2.2.2.2.2.1
 unfold runP
 split
 ·rename_i hb
  unfold Hp.enterB at hb
  rw [Bool.and_eq_true] at hb
  have hd:h.deep=false:=by simpa using hb.2
  have he:h.enterH m l={ h with calls:=h.calls+1 }:=by unfold Hp.enterH;rw [if_neg (by rw [hen];decide),if_neg (by rw [hd];decide)]
  rw [he]
  have e1:Ext h { h with calls:=h.calls+1 }:=Ext.same rfl rfl
  obtain ⟨st,s1,s2,s3⟩:=ck.sound m hm
  obtain ⟨A1,A2⟩:=args_fit (h:={ h with calls:=h.calls+1 }) (n:=f.classes.length) m.params l (List.replicate m.regs.toNat ty0) (List.replicate m.regs.toNat va0) 0 (hl.ext e1) hme.2.2.2.2.2.2.2.1 (rep_fit _ _) (rep_pairT _) (rep_pairV _) (by rw [List.length_replicate];omega)
  have hlen:∀(vs:List Va) (ls:List Va) (k:Nat),(argsP ls k vs).length=ls.length:=fun vs=>by
   induction vs with
   | nil=>intro ls k;rfl
   | cons v vs ih=>intro ls k;show (argsP (stoP ls k v) _ vs).length=_;rw [ih,stoP_length]
  refine LeftS.from e1 rfl (Int.le_refl _) (G st { h with calls:=h.calls+1 } (newCal m l) ⟨hf,⟨g.may,g.ty.same rfl rfl,g.ov,g.th⟩,hm,⟨s1,s2⟩,⟨firstT m m.regs,s3,⟨A1,A2,Or.inl rfl⟩⟩,?_⟩ hn)
  show ((argsP (List.replicate m.regs.toNat va0) 0 l).length:Int)=m.regs
  rw [hlen,List.length_replicate];omega
 ·rename_i hb
  have hd:h.deep=true:=by
   unfold Hp.enterB at hb
   rw [hen] at hb
   cases hx:h.deep
   ·rw [hx] at hb;exact absurd rfl hb
   ·rfl
  have he:h.enterH m l=h.fin 5:=by unfold Hp.enterH;rw [if_neg (by rw [hen];decide),if_pos hd]
  rw [he]
  have lf:=fin_le h 5
  exact ⟨g.ok.fin (by decide),fin_ext h 5,fin_ty g.ty 5,lf.fuel,lf.steps,fun ho=>by rw [fin_over'] at ho;exact absurd ho (by decide)⟩
theorem rds_safe {h:Hp} {c:Cal} {u:As} (g:Hg h) (hu:WfA h.file.classes.length c.m.regs u) (fs:Fits h u c):∀(al:List Int) (ts:List Ty),al.length=ts.length→(∀j,j<al.length→0≤nth (0:Int) al j∧nth (0:Int) al j<c.m.regs)→(∀t∈ts,tyB h.file.classes.length t=true)→rdsOk h.file.classes ts al u→h.rdsH c al ts=h∧FitL h ts (c.rds al ts)
 | [],[],_,_,_,_=>⟨rfl,FitL.nil h⟩
 | [],_::_,e,_,_,_=>by simp at e
 | _::_,[],e,_,_,_=>by simp at e
 | a::al,t::ts,e,hr,hty,ok=>by
  have hl:=hu.len
  have hlen:=fs.sl.1
  obtain ⟨v,hv⟩:=ok 0 (by simp)
  have hv:rdY h.file.classes t a u=some v:=hv
  have h0:0≤a∧a<c.m.regs:=hr 0 (by simp)
  have ht:=of_decide_eq_true (hty t (List.mem_cons_self ..))
  obtain ⟨e1,e2,e3⟩:=rdY_eq hv
  have f:FitV h v (c.rd a):=by rw [e1];exact fs.sl.2 _ (by omega)
  have hkk:=(f.siz (by omega)).trans e2
  have f2:FitV h t (c.rd a):=fit_of g.tree f (by rw [e1];exact (hu.sl _ (nth_mem (by omega))).1) (hty t (List.mem_cons_self ..)) e3
  have hrd:h.rdH c a t.kind=h:=by unfold Hp.rdH Hp.must;rw [if_pos (decide_eq_true hkk)]
  obtain ⟨i1,i2⟩:=rds_safe g hu fs al ts (by simpa using e) (fun j hj=>hr (j+1) (by simp;exact hj)) (fun x hx=>hty x (List.mem_cons_of_mem _ hx)) (fun j hj=>ok (j+1) (by simp;exact hj))
  refine ⟨?_,?_⟩
  ·show (h.rdH c a t.kind).rdsH c al ts=h
   rw [hrd];exact i1
  ·refine ⟨by show ts.length+1=(c.rds al ts).length+1;rw [i2.1],fun j hj=>?_⟩
   cases j with
   | zero=>exact f2
   | succ j=>exact i2.2 j (by simpa using hj)
theorem call_went {f:Fi} {n:Nat} {go:Hp→Cal→Hp×Va} {rt:Int} (G:GoS f n go) (ck:Checked f) {st:List (Option As)} {h:Hp} {c:Cal} {u:As} (a:At f st h c) (hu:WfA f.classes.length c.m.regs u) (hs:StepAt f c.m st c.pc.toNat u) (fs:Fits h u c) (hpc:0≤c.pc) (ok:InOk h.file.classes h.file.methods c.m.code.length c.m.regs rt (nth in0 c.m.code c.pc.toNat)) (e18:(nth in0 c.m.code c.pc.toNat).op=18) (hn:h.fuel-h.sh.steps≤n):Went f st h c u (callP go h c (nth in0 c.m.code c.pc.toNat)):=by
 have g:=a.hg
 have out:=hs.out
 have hpn:((c.pc.toNat+1:Nat):Int)=c.pc+1:=by omega
 have o:=ok.call e18
 have oa:=ok.args e18
 rw [a.file] at o
 generalize nth in0 c.m.code c.pc.toNat=i at *
 unfold OutOk at out
 rw [if_neg (by omega),if_neg (by omega),if_neg (by omega),if_pos e18] at out
 obtain ⟨w1,l1,l2⟩:=out
 rw [hpn] at l1 l2
 unfold callP
 dsimp only
 rw [a.file]
 have hmm:nth me0 f.methods i.a.toNat∈f.methods:=nth_mem (by omega)
 generalize nth me0 f.methods i.a.toNat=m at *
 have hme:=smeP (ck.me m hmm)
 obtain ⟨r1,r2⟩:=rds_safe g (by rw [a.file];exact hu) fs i.args m.params o.2.2 oa (by rw [a.file];exact hme.2.2.2.2.2.2.2.1) (by rw [a.file];exact w1)
 rw [r1,if_neg (by rw [g.ov];decide)]
 have r:=run_safe G ck a.file g hmm r2 hn
 generalize runP go h m (c.rds i.args m.params)=R at *
 refine ⟨r.ok,r.ext,r.ty,rfl,rfl,r.fuel,r.steps,rfl,fun ho=>?_⟩
 rcases r.go ho with ⟨g1,g2⟩|⟨g1,g2⟩
 ·left
  refine ⟨g1,?_⟩
  by_cases hk:m.ret.kind=0
  ·exact ⟨_,l1 hk,fs.sl.ext r.ext,fs.pr,Or.inl rfl⟩
  ·by_cases hf:isF c.m (c.pc+1) 19
   ·refine ⟨_,(l2 hk).1 hf,fs.sl.ext r.ext,fs.pr,Or.inr ⟨_,rfl,fun _=>g2 hk,fun e=>?_⟩⟩
    have e:(nth in0 c.m.code (c.pc+1).toNat).op=22:=e
    rw [hf.2.2] at e
    exact absurd e (by decide)
   ·exact ⟨_,(l2 hk).2 hf,fs.sl.ext r.ext,fs.pr,Or.inl rfl⟩
 ·exact Or.inr ⟨g1,g2,rfl⟩
theorem ret_safe {f:Fi} (ck:Checked f) {st:List (Option As)} {h:Hp} {c:Cal} {u:As} (a:At f st h c) (hu:WfA f.classes.length c.m.regs u) (hs:StepAt f c.m st c.pc.toNat u) (fs:Fits h u c) (ok:InOk h.file.classes h.file.methods c.m.code.length c.m.regs c.m.ret.kind (nth in0 c.m.code c.pc.toNat)) (e20:(nth in0 c.m.code c.pc.toNat).op=20):LeftS h c.m.ret (retP h c (nth in0 c.m.code c.pc.toNat)):=by
 have g:=a.hg
 have out:=hs.out
 generalize nth in0 c.m.code c.pc.toNat=i at *
 unfold OutOk at out
 rw [if_neg (by omega),if_neg (by omega),if_neg (by omega),if_neg (by omega),if_pos e20] at out
 unfold retP;split
 ·rename_i hk
  exact LeftS.leave g.ok (Ext.refl h) g.ty rfl (Int.le_refl _) (fun _=>Or.inl ⟨g.th,fun hx=>absurd hk hx⟩)
 ·rename_i hk
  obtain ⟨v,t1⟩:=out hk
  have hl:=hu.len
  have hlen:=fs.sl.1
  have oa:=ok.ret e20 hk
  have hme:=smeP (ck.me c.m a.m)
  have hrt:tyB f.classes.length c.m.ret=true:=by
   have:=hme.2.2.2.2.2.2.2.2.2
   unfold retB at this
   rw [Bool.or_eq_true] at this
   rcases this with this|this
   ·exact absurd (of_decide_eq_true this).1 hk
   ·exact this
  have hrk:=of_decide_eq_true hrt
  obtain ⟨e1,e2,e3⟩:=rdY_eq t1
  have fx:FitV h v (c.rd i.a):=by rw [e1];exact fs.sl.2 _ (by omega)
  have hkk:=(fx.siz (by omega)).trans e2
  have fv:=fit_of (h:=h) g.tree fx (by rw [a.file,e1];exact (hu.sl _ (nth_mem (by omega))).1) (t:=c.m.ret) (by rw [a.file];exact hrt) (by rw [a.file];exact e3)
  have hrd:h.rdH c i.a c.m.ret.kind=h:=by unfold Hp.rdH Hp.must;rw [if_pos (decide_eq_true hkk)]
  dsimp only
  rw [hrd]
  have hof:=fv.of (by rw [a.file];exact hrt)
  rw [must_t (by rw [g.ov,hof];rfl)]
  exact LeftS.leave g.ok (Ext.refl h) g.ty rfl (Int.le_refl _) (fun _=>Or.inl ⟨g.th,fun _=>fv⟩)
theorem loop_safe (f:Fi) (ck:Checked f):∀n:Nat,GoS f n (loopP n):=by
 intro n
 induction n with
 | zero =>
  intro st h c a hn
  show LeftS h c.m.ret (h.step.leave,va0)
  have hs:h.step=h.fin 0:=by
   unfold Hp.step;rw [if_neg (by rw [a.hg.ov];decide),if_pos (by omega)]
  rw [hs]
  have lf:=fin_le h 0
  exact LeftS.leave (a.hg.ok.fin (by decide)) (fin_ext h 0) (fin_ty a.hg.ty 0) lf.fuel lf.steps (fun ho=>by rw [fin_over'] at ho;exact absurd ho (by decide))
 | succ n ih =>
  intro st h c a hn
  unfold loopP
  split
  ·rename_i hb
   have hs:h.step=h.fin 0:=by
    unfold Hp.stepB at hb
    rw [a.hg.ov] at hb
    simp at hb
    unfold Hp.step;rw [if_neg (by rw [a.hg.ov];decide),if_pos (by omega)]
   rw [hs]
   have lf:=fin_le h 0
   exact LeftS.leave (a.hg.ok.fin (by decide)) (fin_ext h 0) (fin_ty a.hg.ty 0) lf.fuel lf.steps (fun ho=>by rw [fin_over'] at ho;exact absurd ho (by decide))
  ·rename_i hb
   have hs:h.step={ h with sh:={ h.sh with steps:=h.sh.steps+1 } }:=by
    unfold Hp.stepB at hb;simp at hb
    have:=hb.2
    unfold Hp.step;rw [if_neg (by rw [a.hg.ov];decide),if_neg (by omega)]
   rw [hs]
   have e1:Ext h { h with sh:={ h.sh with steps:=h.sh.steps+1 } }:=Ext.same rfl rfl
   refine LeftS.from e1 rfl (by dsimp only;omega) ?_
   obtain ⟨s0,l0,f0⟩:=a.lead
   have hg1:Hg { h with sh:={ h.sh with steps:=h.sh.steps+1 } }:=⟨a.hg.may,a.hg.ty.same rfl rfl,a.hg.ov,a.hg.th⟩
   have a1:At f st { h with sh:={ h.sh with steps:=h.sh.steps+1 } } c:=⟨a.file,hg1,a.m,a.sound,⟨s0,l0,f0.ext e1⟩,a.len⟩
   have hn1:({ h with sh:={ h.sh with steps:=h.sh.steps+1 } }:Hp).fuel-({ h with sh:={ h.sh with steps:=h.sh.steps+1 } }:Hp).sh.steps≤n:=by dsimp only;omega
   have f0:=f0.ext e1
   clear hs hb e1 hn
   generalize ({ h with sh:={ h.sh with steps:=h.sh.steps+1 } }:Hp)=h1 at *
   obtain ⟨p1,p2,u,q1,q2⟩:=l0
   obtain ⟨hu,hst⟩:=a.sound.2 _ u q1
   have fs:Fits h1 u c:=f0.le (by rw [←a1.file] at *;exact hg1.tree) (by rw [a1.file];exact q2)
   have hlt:c.pc<c.m.code.length:=by rw [←a.sound.1];exact p2
   have hme:=smeP (ck.me c.m a.m)
   have hin:=rin_ok (hme.2.2.2.2.2.2.1 _ (nth_mem (d:=in0) (i:=c.pc.toNat) (by omega)))
   have ok:InOk h1.file.classes h1.file.methods c.m.code.length c.m.regs c.m.ret.kind (nth in0 c.m.code c.pc.toNat):=by rw [a1.file];exact hin
   unfold stepP
   rw [if_neg (by rw [hg1.mustB (decide_eq_true hlt)];decide)]
   split
   ·rename_i e20
    exact ret_safe ck a1 hu hst fs ok e20
   ·rename_i e20
    split
    ·rename_i e18
     have W:=call_went ih ck a1 hu hst fs p1 ok e18 hn1
     exact next_safe ih ck.me a1 W fs p1 hst (by have:=W.fuel;have:=W.steps;omega)
    ·rename_i e18
     have W:=does_went a1 hu hst fs p1 ok e18 e20
     exact next_safe ih ck.me a1 W fs p1 hst (by have:=W.fuel;have:=W.steps;omega)
structure Wq (f:Fi) (m:Me) (s:As):Prop where
 wf:WfA f.classes.length m.regs s
 len:s.stk.length≤100
def tyOk (n:Nat) (t:Ty):Prop:=refOk n t∧1≤t.kind∧t.kind≤3
theorem tyB_ok {n:Nat} {t:Ty} (h:tyB n t=true):tyOk n t:=by
 have:=of_decide_eq_true h
 exact ⟨fun e=>Or.inr (by omega),by omega,by omega⟩
theorem mem_losT {l:List Ty} {a:Nat} {x:Ty} (h:x∈losT l a):x=ty0∨x∈l:=by
 unfold losT at h
 split at h
 ·exact mem_set' h
 ·split at h
  ·exact mem_set' h
  ·exact Or.inr h
theorem Wq.write {f:Fi} {m:Me} {s:As} {a:Nat} {v:Ty} (w:Wq f m s) (ha:a<s.slots.length) (ha2:v.kind=2→a+1<s.slots.length) (hv:tyOk f.classes.length v):Wq f m { s with slots:=wrT s.slots a v }:=by
 refine ⟨⟨by dsimp only;rw [wrT_length];exact w.wf.len,wrT_pair w.wf.pair ha ha2 (by have:=hv.2;omega),fun t ht=>?_,w.wf.st⟩,w.len⟩
 have h0:refOk f.classes.length ty0∧0≤ty0.kind∧ty0.kind≤4:=⟨fun e=>absurd e (by decide),by decide,by decide⟩
 have h4:refOk f.classes.length ⟨4,0⟩∧0≤(⟨4,0⟩:Ty).kind∧(⟨4,0⟩:Ty).kind≤4:=⟨fun e=>absurd e (by decide),by decide,by decide⟩
 have hvv:refOk f.classes.length v∧0≤v.kind∧v.kind≤4:=⟨hv.1,by have:=hv.2;omega,by have:=hv.2;omega⟩
 have ht:t∈wrT s.slots a v:=ht
 unfold wrT at ht
 split at ht
 ·rcases mem_set' ht with rfl|ht
  ·exact hvv
  rcases mem_set' ht with rfl|ht
  ·exact h4
  rcases mem_losT ht with rfl|ht
  ·exact h0
  rcases mem_losT ht with rfl|ht
  ·exact h0
  exact w.wf.sl t ht
 ·rcases mem_set' ht with rfl|ht
  ·exact hvv
  rcases mem_losT ht with rfl|ht
  ·exact h0
  exact w.wf.sl t ht
theorem Wq.clr {f:Fi} {m:Me} {s:As} (w:Wq f m s):Wq f m ⟨s.slots,[]⟩:=⟨⟨w.wf.len,w.wf.pair,w.wf.sl,fun t ht=>by cases ht⟩,Nat.zero_le _⟩
theorem Wq.one {f:Fi} {m:Me} {s:As} (w:Wq f m s) {v:Ty} (hv:tyOk f.classes.length v):Wq f m ⟨s.slots,[v]⟩:=⟨⟨w.wf.len,w.wf.pair,w.wf.sl,fun t ht=>by rw [List.mem_singleton.1 ht];exact hv⟩,by show 1≤100;omega⟩
theorem valT_ok {f:Fi} {m:Me} {i:In} {s:As} {v:Ty} {rt:Int} (w:Wq f m s) (hmay:mayB f.classes=true) (ok:InOk f.classes f.methods m.code.length m.regs rt i) (hop:i.op≠10∧i.op≠11∧i.op≠12∧i.op≠18∧i.op≠20∧i.op≠21∧i.op≠15∧i.op≠23) (h:valT f.classes i s=some v):tyOk f.classes.length v∧(v.kind=2→i.a+1<m.regs):=by
 have n1:tyOk f.classes.length ⟨1,0⟩:=⟨fun e=>absurd e (by decide),by decide,by decide⟩
 have n2:tyOk f.classes.length ⟨2,0⟩:=⟨fun e=>absurd e (by decide),by decide,by decide⟩
 have n3:tyOk f.classes.length ⟨3,-1⟩:=⟨fun _=>Or.inl rfl,by decide,by decide⟩
 have k1:∀{t:Ty},t=⟨1,0⟩→tyOk f.classes.length t∧(t.kind=2→i.a+1<m.regs):=fun e=>by subst e;exact ⟨n1,fun x=>absurd x (by decide)⟩
 have hlen:=w.wf.len
 have okop:=ok.op
 unfold valT at h
 by_cases e3:i.op=3
 ·rw [if_pos e3] at h;rw [←Option.some.inj h];exact ⟨n3,fun x=>absurd x (by decide)⟩
 rw [if_neg e3] at h
 by_cases e4:i.op=4
 ·rw [if_pos e4] at h
  obtain ⟨x1,x2⟩:=rdT_eq h
  have o:=ok.move e4
  have ob:=ok.b (by omega)
  have hx:=w.wf.sl _ (nth_mem (d:=ty0) (i:=i.b.toNat) (l:=s.slots) (by omega))
  rw [←x1] at hx
  exact ⟨⟨hx.1,by omega,by omega⟩,fun e=>ok.two (by omega)⟩
 rw [if_neg e4] at h
 by_cases e13:i.op=13
 ·rw [if_pos e13] at h
  rw [←Option.some.inj h]
  have o:=ok.cls (Or.inl e13)
  exact ⟨⟨fun _=>Or.inr o,by dsimp only;omega,by dsimp only;omega⟩,fun x=>by dsimp only at x;omega⟩
 rw [if_neg e13] at h
 by_cases e14:i.op=14
 ·rw [if_pos e14,Option.bind_eq_some_iff] at h
  obtain ⟨x,-,h⟩:=h
  have o:=ok.fld (Or.inl e14)
  have hv:v=fieldT f.classes i.c i.n:=(Option.some.inj h).symm
  subst hv
  exact ⟨tyB_ok (may_fldT hmay (by omega) (by omega)),fun e=>ok.two (Or.inr (Or.inr (Or.inr (Or.inr (Or.inr (Or.inr ⟨e14,e⟩))))))⟩
 rw [if_neg e14] at h
 by_cases e16:i.op=16
 ·rw [if_pos e16,Option.bind_eq_some_iff] at h
  obtain ⟨x,-,h⟩:=h
  rw [←Option.some.inj h]
  have o:=ok.cls (Or.inr e16)
  exact ⟨⟨fun _=>Or.inr o,by dsimp only;omega,by dsimp only;omega⟩,fun x=>by dsimp only at x;omega⟩
 rw [if_neg e16] at h
 have fe:∀{k:Int},fetchT k s=some v→tyOk f.classes.length v∧v.kind=k:=fun {k} h=>by
  unfold fetchT at h
  split at h
  ·cases h
  ·rename_i hl
   split at h
   ·rename_i hk
    rw [←Option.some.inj h]
    exact ⟨w.wf.st _ (nth_mem (by omega)),hk⟩
   ·cases h
 by_cases e19:i.op=19
 ·rw [if_pos e19] at h
  exact ⟨(fe h).1,fun e=>ok.two (by have:=(fe h).2;omega)⟩
 rw [if_neg e19] at h
 by_cases e22:i.op=22
 ·rw [if_pos e22] at h
  exact ⟨(fe h).1,fun e=>by have:=(fe h).2;omega⟩
 rw [if_neg e22] at h
 unfold numT at h
 by_cases e5:i.op=5
 ·rw [if_pos e5] at h;exact k1 (two_eq h).2.2
 rw [if_neg e5] at h
 by_cases e8:i.op=8
 ·rw [if_pos e8,Option.bind_eq_some_iff] at h;obtain ⟨x,-,h⟩:=h;exact k1 (Option.some.inj h).symm
 rw [if_neg e8] at h
 by_cases e9:i.op=9
 ·rw [if_pos e9] at h;exact k1 (two_eq h).2.2
 rw [if_neg e9] at h
 by_cases e17:i.op=17
 ·rw [if_pos e17,Option.bind_eq_some_iff] at h;obtain ⟨x,-,h⟩:=h;exact k1 (Option.some.inj h).symm
 rw [if_neg e17] at h
 by_cases e6:i.op=6
 ·rw [if_pos e6] at h;rw [(two_eq h).2.2];exact ⟨n2,fun _=>ok.two (by omega)⟩
 rw [if_neg e6] at h
 by_cases e7:i.op=7
 ·rw [if_pos e7,Option.bind_eq_some_iff] at h;obtain ⟨x,-,h⟩:=h;rw [←Option.some.inj h];exact ⟨n2,fun _=>ok.two (by omega)⟩
 rw [if_neg e7] at h
 by_cases e2:i.op=2∨i.op=24
 ·rw [if_pos e2] at h;rw [←Option.some.inj h];exact ⟨n2,fun _=>ok.two (by omega)⟩
 rw [if_neg e2] at h
 exact k1 (Option.some.inj h).symm
theorem Wq.work {f:Fi} {m:Me} {i:In} {s s1:As} {rt:Int} (w:Wq f m s) (hmay:mayB f.classes=true) (ok:InOk f.classes f.methods m.code.length m.regs rt i) (hop:i.op≠10∧i.op≠11∧i.op≠12∧i.op≠18∧i.op≠20∧i.op≠21) (h:workT f.classes i s=some s1):Wq f m s1:=by
 have hlen:=w.wf.len
 have okop:=ok.op
 unfold workT at h
 split at h
 ·rw [Option.bind_eq_some_iff] at h
  obtain ⟨x,-,h⟩:=h
  rw [Option.bind_eq_some_iff] at h
  obtain ⟨y,-,h⟩:=h
  rw [←Option.some.inj h]
  exact w.clr
 ·split at h
  ·rw [Option.bind_eq_some_iff] at h
   obtain ⟨x,-,h⟩:=h
   rw [←Option.some.inj h]
   exact w.clr
  ·rw [Option.bind_eq_some_iff] at h
   obtain ⟨x,hv,h⟩:=h
   rw [←Option.some.inj h]
   obtain ⟨v1,v2⟩:=valT_ok w hmay ok ⟨hop.1,hop.2.1,hop.2.2.1,hop.2.2.2.1,hop.2.2.2.2.1,hop.2.2.2.2.2,by assumption,by assumption⟩ hv
   have oa:=ok.a (by omega)
   exact w.clr.write (by dsimp only;omega) (fun e=>by have:=v2 e;dsimp only;omega) v1
end Go.Proofs.YtgiiapenmjollabGreat
