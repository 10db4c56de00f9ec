import Derived.Test.YtgiiapenmjollabGreatRsai
import Derived.Laws.StructEq
import Derived.Deep.RegionHeld3
namespace Go.Proofs.YtgiiapenmjollabGreat
set_option linter.all false
set_option maxHeartbeats 40000000
set_option maxRecDepth 100000
open Go.RowKit
theorem stoP_pair {l:List Va} {a:Nat} {v:Va} (P:PairV l) (ha:a<l.length) (ha2:v.kind=2→a+1<l.length) (hv:v.kind≠9):PairV (stoP l a v):=by
 unfold stoP
 by_cases h2:v.kind=2
 ·rw [if_pos h2]
  have ha2:=ha2 h2
  have P1:=losP_pair ha P
  have P2:=losP_pair (a:=a+1) (by rw [losP_length];exact ha2) P1
  have e0:nth va0 (losP (losP l a) (a+1)) a=va0:=by
   rw [losP_nth _ _ _ (by rw [losP_length];exact ha2) P1,if_neg (by omega)]
   split
   ·rfl
   ·rw [losP_nth _ _ _ ha P,if_pos rfl]
  have e1:nth va0 (losP (losP l a) (a+1)) (a+1)=va0:=by rw [losP_nth _ _ _ (by rw [losP_length];exact ha2) P1,if_pos rfl]
  have hl:(losP (losP l a) (a+1)).length=l.length:=by rw [losP_length,losP_length]
  generalize losP (losP l a) (a+1)=q at *
  have e:∀i,nth va0 ((q.set (a+1) ⟨9,0⟩).set a v) i=if a=i then v else if a+1=i then ⟨9,0⟩ else nth va0 q i:=fun i=>by
   rw [nth_setI (by rw [List.length_set];omega),nth_setI (by omega)]
  refine ⟨fun i hi hk=>?_,fun i hi hk=>?_⟩
  ·have hk:(nth va0 ((q.set (a+1) ⟨9,0⟩).set a v) i).kind=2:=hk
   show i+1<_∧(nth va0 ((q.set (a+1) ⟨9,0⟩).set a v) (i+1)).kind=9
   rw [List.length_set,List.length_set] at hi ⊢
   rw [e] at hk ⊢
   by_cases x1:a=i
   ·subst x1
    rw [if_neg (by omega),if_pos rfl]
    exact ⟨by omega,rfl⟩
   rw [if_neg x1] at hk
   by_cases x2:a+1=i
   ·rw [if_pos x2] at hk;exact absurd hk (by decide)
   rw [if_neg x2] at hk
   have:=P2.1 i hi hk
   have h9:(nth va0 q (i+1)).kind=9:=this.2
   refine ⟨this.1,?_⟩
   have n1:a≠i+1:=fun x=>by rw [←x,e0] at h9;exact absurd h9 (by decide)
   have n2:a+1≠i+1:=by omega
   rw [if_neg n1,if_neg n2];exact h9
  ·have hk:(nth va0 ((q.set (a+1) ⟨9,0⟩).set a v) i).kind=9:=hk
   show 1≤i∧(nth va0 ((q.set (a+1) ⟨9,0⟩).set a v) (i-1)).kind=2
   rw [List.length_set,List.length_set] at hi
   rw [e] at hk ⊢
   by_cases x1:a=i
   ·rw [if_pos x1] at hk;exact absurd hk hv
   rw [if_neg x1] at hk
   by_cases x2:a+1=i
   ·rw [if_pos (by omega)];exact ⟨by omega,h2⟩
   rw [if_neg x2] at hk
   have:=P2.2 i hi hk
   have h9:(nth va0 q (i-1)).kind=2:=this.2
   refine ⟨this.1,?_⟩
   have n1:a≠i-1:=fun x=>by rw [←x,e0] at h9;exact absurd h9 (by decide)
   have n2:a+1≠i-1:=fun x=>by rw [←x,e1] at h9;exact absurd h9 (by decide)
   rw [if_neg n1,if_neg n2];exact h9
 ·rw [if_neg h2]
  have P1:=losP_pair ha P
  have e0:nth va0 (losP l a) a=va0:=by rw [losP_nth _ _ _ ha P,if_pos rfl]
  have hl:(losP l a).length=l.length:=losP_length l a
  generalize losP l a=q at *
  have e:∀i,nth va0 (q.set a v) i=if a=i then v else nth va0 q i:=fun i=>nth_setI (by omega)
  refine ⟨fun i hi hk=>?_,fun i hi hk=>?_⟩
  ·have hk:(nth va0 (q.set a v) i).kind=2:=hk
   show i+1<_∧(nth va0 (q.set a v) (i+1)).kind=9
   rw [List.length_set] at hi ⊢
   rw [e] at hk ⊢
   by_cases x1:a=i
   ·rw [if_pos x1] at hk;exact absurd hk h2
   rw [if_neg x1] at hk
   have:=P1.1 i hi hk
   have h9:(nth va0 q (i+1)).kind=9:=this.2
   refine ⟨this.1,?_⟩
   have n1:a≠i+1:=fun x=>by rw [←x,e0] at h9;exact absurd h9 (by decide)
   rw [if_neg n1];exact h9
  ·have hk:(nth va0 (q.set a v) i).kind=9:=hk
   show 1≤i∧(nth va0 (q.set a v) (i-1)).kind=2
   rw [List.length_set] at hi
   rw [e] at hk ⊢
   by_cases x1:a=i
   ·rw [if_pos x1] at hk;exact absurd hk hv
   rw [if_neg x1] at hk
   have:=P1.2 i hi hk
   have h9:(nth va0 q (i-1)).kind=2:=this.2
   refine ⟨this.1,?_⟩
   have n1:a≠i-1:=fun x=>by rw [←x,e0] at h9;exact absurd h9 (by decide)
   rw [if_neg n1];exact h9
theorem wrT_pair {l:List Ty} {a:Nat} {v:Ty} (P:PairT l) (ha:a<l.length) (ha2:v.kind=2→a+1<l.length) (hv:v.kind≠4):PairT (wrT l a v):=by
 have P1:=losT_pair ha P
 have hset:∀i,nth ty0 ((losT l a).set a ty0) i=if a=i then ty0 else nth ty0 (losT l a) i:=fun i=>nth_setI (by rw [losT_length];exact ha)
 by_cases h2:v.kind=2
 ·have ha2:=ha2 h2
  have hl1:((losT l a).set a ty0).length=l.length:=by rw [List.length_set,losT_length]
  have P2:=losT_pair (a:=a+1) (by rw [hl1];exact ha2) P1
  have hlw:=wrT_length l a v
  have e:∀i,nth ty0 (wrT l a v) i=if a=i then v else if a+1=i then ⟨4,0⟩ else nth ty0 ((losT ((losT l a).set a ty0) (a+1)).set (a+1) ty0) i:=fun i=>by
   unfold wrT
   rw [if_pos h2,nth_setI (by rw [List.length_set,losT_length,losT_length];exact ha),nth_setI (l:=losT (losT l a) (a+1)) (by rw [losT_length,losT_length];exact ha2)]
   by_cases x1:a=i
   ·rw [if_pos x1,if_pos x1]
   rw [if_neg x1,if_neg x1]
   by_cases x2:a+1=i
   ·rw [if_pos x2,if_pos x2]
   rw [if_neg x2,if_neg x2,nth_set_ne x2,losT_two l a ha2 P i (fun x=>x1 x.symm)]
  have e0:nth ty0 ((losT ((losT l a).set a ty0) (a+1)).set (a+1) ty0) a=ty0:=by
   rw [nth_set_ne (by omega),losT_nth _ _ _ (by rw [hl1];exact ha2) P1]
   split
   ·rfl
   ·rw [hset,if_pos rfl]
  have e1:nth ty0 ((losT ((losT l a).set a ty0) (a+1)).set (a+1) ty0) (a+1)=ty0:=nth_set_eq (by rw [losT_length,hl1];exact ha2)
  have hl2:((losT ((losT l a).set a ty0) (a+1)).set (a+1) ty0).length=l.length:=by rw [List.length_set,losT_length,hl1]
  generalize (losT ((losT l a).set a ty0) (a+1)).set (a+1) ty0=q at *
  refine ⟨fun i hi hk=>?_,fun i hi hk=>?_⟩
  ·have hk:(nth ty0 (wrT l a v) i).kind=2:=hk
   show i+1<_∧(nth ty0 (wrT l a v) (i+1)).kind=4
   rw [hlw] at hi ⊢
   rw [e] at hk ⊢
   by_cases x1:a=i
   ·subst x1
    rw [if_neg (by omega),if_pos rfl]
    exact ⟨by omega,rfl⟩
   rw [if_neg x1] at hk
   by_cases x2:a+1=i
   ·rw [if_pos x2] at hk;exact absurd hk (by decide)
   rw [if_neg x2] at hk
   have:=P2.1 i (by omega) hk
   have h9:(nth ty0 q (i+1)).kind=4:=this.2
   refine ⟨by omega,?_⟩
   have n1:a≠i+1:=fun x=>by rw [←x,e0] at h9;exact absurd h9 (by decide)
   have n2:a+1≠i+1:=by omega
   rw [if_neg n1,if_neg n2];exact h9
  ·have hk:(nth ty0 (wrT l a v) i).kind=4:=hk
   show 1≤i∧(nth ty0 (wrT l a v) (i-1)).kind=2
   rw [hlw] at hi
   rw [e] at hk ⊢
   by_cases x1:a=i
   ·rw [if_pos x1] at hk;exact absurd hk hv
   rw [if_neg x1] at hk
   by_cases x2:a+1=i
   ·rw [if_pos (by omega)];exact ⟨by omega,h2⟩
   rw [if_neg x2] at hk
   have:=P2.2 i (by omega) hk
   have h9:(nth ty0 q (i-1)).kind=2:=this.2
   refine ⟨this.1,?_⟩
   have n1:a≠i-1:=fun x=>by rw [←x,e0] at h9;exact absurd h9 (by decide)
   have n2:a+1≠i-1:=fun x=>by rw [←x,e1] at h9;exact absurd h9 (by decide)
   rw [if_neg n1,if_neg n2];exact h9
 ·have e:∀i,nth ty0 (wrT l a v) i=if a=i then v else nth ty0 ((losT l a).set a ty0) i:=fun i=>by
   unfold wrT
   rw [if_neg h2,nth_setI (by rw [losT_length];exact ha),hset]
   by_cases x1:a=i
   ·rw [if_pos x1,if_pos x1]
   ·rw [if_neg x1,if_neg x1,if_neg x1]
  have e0:nth ty0 ((losT l a).set a ty0) a=ty0:=by rw [hset,if_pos rfl]
  have hl1:((losT l a).set a ty0).length=l.length:=by rw [List.length_set,losT_length]
  have hlw:=wrT_length l a v
  generalize (losT l a).set a ty0=q at *
  refine ⟨fun i hi hk=>?_,fun i hi hk=>?_⟩
  ·have hk:(nth ty0 (wrT l a v) i).kind=2:=hk
   show i+1<_∧(nth ty0 (wrT l a v) (i+1)).kind=4
   rw [hlw] at hi ⊢
   rw [e] at hk ⊢
   by_cases x1:a=i
   ·rw [if_pos x1] at hk;exact absurd hk h2
   rw [if_neg x1] at hk
   have:=P1.1 i (by omega) hk
   have h9:(nth ty0 q (i+1)).kind=4:=this.2
   refine ⟨by omega,?_⟩
   have n1:a≠i+1:=fun x=>by rw [←x,e0] at h9;exact absurd h9 (by decide)
   rw [if_neg n1];exact h9
  ·have hk:(nth ty0 (wrT l a v) i).kind=4:=hk
   show 1≤i∧(nth ty0 (wrT l a v) (i-1)).kind=2
   rw [hlw] at hi
   rw [e] at hk ⊢
   by_cases x1:a=i
   ·rw [if_pos x1] at hk;exact absurd hk hv
   rw [if_neg x1] at hk
   have:=P1.2 i (by omega) hk
   have h9:(nth ty0 q (i-1)).kind=2:=this.2
   refine ⟨this.1,?_⟩
   have n1:a≠i-1:=fun x=>by rw [←x,e0] at h9;exact absurd h9 (by decide)
   rw [if_neg n1];exact h9
def keyH (x:Hel):Int×Int:=(x.cls,x.fld)
structure TyH (h:Hp):Prop where
 cls:∀n,n<h.objs.length→0≤(nth ob0 h.objs n).cls∧(nth ob0 h.objs n).cls<h.file.classes.length
 keys:∀n,n<h.objs.length→(nth ob0 h.objs n).held.map keyH=(newHeld h.file.classes (nth ob0 h.objs n).cls.toNat).map keyH
 held:∀n,n<h.objs.length→∀x,x∈(nth ob0 h.objs n).held→FitV h (fieldT h.file.classes x.cls x.fld) x.v
theorem TyH.same {h h':Hp} (t:TyH h) (e1:h'.file=h.file) (e2:h'.objs=h.objs):TyH h':=by
 have e:=Ext.same e1 e2
 refine ⟨fun n hn=>?_,fun n hn=>?_,fun n hn x hx=>?_⟩
 ·rw [e2] at hn ⊢;rw [e1];exact t.cls n hn
 ·rw [e2] at hn ⊢;rw [e1];exact t.keys n hn
 ·rw [e2] at hn hx;rw [e1];exact (t.held n hn x hx).ext e
def Ok (h:Hp):Prop:=h.over=true→h.sh.fin≠6
theorem Ok.of {h:Hp} (ho:h.over=false):Ok h:=fun e=>by rw [ho] at e;exact absurd e (by decide)
theorem Ok.fin {h:Hp} (o:Ok h) {e:Int} (he:e≠6):Ok (h.fin e):=by
 unfold Hp.fin;split
 ·exact o
 ·exact fun _=>he
theorem fin_ext (h:Hp) (e:Int):Ext h (h.fin e):=by unfold Hp.fin;split;exact Ext.refl h;exact Ext.same rfl rfl
theorem fin_ty {h:Hp} (t:TyH h) (e:Int):TyH (h.fin e):=by unfold Hp.fin;split;exact t;exact t.same rfl rfl
theorem fin_over' (h:Hp) (e:Int):(h.fin e).over=true:=by unfold Hp.fin;split;assumption;rfl
theorem may_fldT {cs:List Cl} (hm:mayB cs=true) {c k:Nat} (hc:c<cs.length) (hk:k<(nth cl0 cs c).fields.length):tyB cs.length (nth ty0 (nth cl0 cs c).fields k)=true:=by
 unfold mayB at hm
 rw [Bool.and_eq_true,List.all_eq_true] at hm
 have:=hm.2 c (by simpa using hc)
 unfold clB at this
 rw [Bool.and_eq_true,List.all_eq_true] at this
 exact this.2 _ (nth_mem hk)
theorem init_fit (h:Hp) {n:Nat} {t:Ty} (ht:tyB n t=true):FitV h t (initV t):=by
 have ht:=of_decide_eq_true ht
 unfold initV
 refine ⟨fun e=>e,fun e=>e,fun e=>⟨e,fun hn=>?_⟩,fun e=>by omega⟩
 dsimp only at hn
 rw [if_pos e] at hn
 omega
theorem newHeld_fit (h:Hp) (hm:mayB h.file.classes=true) (c:Nat):∀x,x∈newHeld h.file.classes c→FitV h (fieldT h.file.classes x.cls x.fld) x.v:=by
 intro x hx
 unfold newHeld at hx
 rw [List.mem_flatMap] at hx
 obtain ⟨d,hd,hx⟩:=hx
 unfold heldOf at hx
 split at hx
 ·rw [List.mem_map] at hx
  obtain ⟨k,hk,rfl⟩:=hx
  simp at hd hk
  dsimp only
  unfold fieldT
  rw [Int.toNat_natCast,Int.toNat_natCast]
  exact init_fit h (may_fldT hm hd hk)
 ·simp at hx
theorem new_ext (h:Hp) (c:Int):Ext h (h.new c):=by
 unfold Hp.new;split
 ·exact fin_ext h 4
 ·exact ⟨rfl,by simp,fun n hn=>by dsimp only;rw [nth_app_l hn]⟩
theorem new_ty {h:Hp} (t:TyH h) (hm:mayB h.file.classes=true) {c:Int} (hc:0≤c∧c<h.file.classes.length):TyH (h.new c):=by
 have e:=new_ext h c
 unfold Hp.new at e ⊢;split
 ·exact fin_ty t 4
 ·rename_i hf
  rw [if_neg hf] at e
  have key:∀n,n<(h.objs++[(⟨c,newHeld h.file.classes c.toNat⟩:Ob)]).length→(n<h.objs.length∧nth ob0 (h.objs++[(⟨c,newHeld h.file.classes c.toNat⟩:Ob)]) n=nth ob0 h.objs n)∨nth ob0 (h.objs++[(⟨c,newHeld h.file.classes c.toNat⟩:Ob)]) n=⟨c,newHeld h.file.classes c.toNat⟩:=fun n hn=>by
   rw [List.length_append,List.length_singleton] at hn
   by_cases hx:n<h.objs.length
   ·exact Or.inl ⟨hx,nth_app_l hx⟩
   ·obtain rfl:n=h.objs.length:=by omega
    exact Or.inr nth_one
  refine ⟨fun n hn=>?_,fun n hn=>?_,fun n hn x hx=>?_⟩
  ·dsimp only at hn ⊢
   rcases key n hn with ⟨h1,h2⟩|h2
   ·rw [h2];exact t.cls n h1
   ·rw [h2];exact hc
  ·dsimp only at hn ⊢
   rcases key n hn with ⟨h1,h2⟩|h2
   ·rw [h2];exact t.keys n h1
   ·rw [h2]
  ·dsimp only at hn hx ⊢
   rcases key n hn with ⟨h1,h2⟩|h2
   ·rw [h2] at hx;exact (t.held n h1 x hx).ext e
   ·rw [h2] at hx;exact (newHeld_fit h hm _ x hx).ext e
theorem new_ok {h:Hp} (o:Ok h) (c:Int):Ok (h.new c):=by
 unfold Hp.new;split
 ·exact o.fin (by decide)
 ·exact o
theorem newV_fit {h:Hp} {c:Int} (hm:mayB h.file.classes=true) (hc:0≤c∧c<h.file.classes.length) (ho:(h.new c).over=false):FitV (h.new c) ⟨3,c⟩ h.newV:=by
 have hf:¬h.full=true:=fun hf=>by
  unfold Hp.new at ho;rw [if_pos hf,fin_over'] at ho;exact absurd ho (by decide)
 unfold Hp.newV Hp.new
 rw [if_neg hf,if_neg hf]
 refine ⟨fun e=>by dsimp only at e;omega,fun e=>by dsimp only at e;omega,fun _=>⟨rfl,fun _=>?_⟩,fun e=>by dsimp only at e;omega⟩
 dsimp only
 refine ⟨by rw [List.length_append,List.length_singleton];omega,?_⟩
 have e:(Hp.obj { h with objs:=h.objs++[⟨c,newHeld h.file.classes c.toNat⟩] } (h.objs.length:Nat))=⟨c,newHeld h.file.classes c.toNat⟩:=by
  unfold Hp.obj;rw [Int.toNat_natCast];exact nth_one
 rw [e]
 unfold belI clsI
 rw [bel_self]
 simp
 omega
structure Thrw (h h':Hp):Prop where
 ok:Ok h'
 ext:Ext h h'
 ty:TyH h'
 thr:h'.over=false→0≤h'.thrown∧h'.thrown<h'.objs.length
theorem raise_thrw {h:Hp} (t:TyH h) (hm:mayB h.file.classes=true) (o:Ok h) {c:Int} (hc:0≤c∧c<h.file.classes.length):Thrw h (h.raise c):=by
 have e:=new_ext h c
 have ty:=new_ty t hm hc
 have ok:=new_ok o c
 unfold Hp.raise;split
 ·rename_i ho
  exact ⟨ok,e,ty,fun hx=>by rw [ho] at hx;exact absurd hx (by decide)⟩
 ·rename_i ho
  have ho':(h.new c).over=false:=by simpa using ho
  have hf:¬h.full=true:=fun hf=>by
   unfold Hp.new at ho';rw [if_pos hf,fin_over'] at ho';exact absurd ho' (by decide)
  refine ⟨ok,⟨e.file,e.len,e.cls⟩,ty.same rfl rfl,fun _=>?_⟩
  dsimp only
  unfold Hp.newV Hp.new
  rw [if_neg hf,if_neg hf]
  dsimp only
  rw [List.length_append,List.length_singleton]
  omega
theorem held_there {h:Hp} (t:TyH h) {n:Nat} (hn:n<h.objs.length) {c k:Nat} (hb:belI h.file.classes (nth ob0 h.objs n).cls c=true) (hk:k<(nth cl0 h.file.classes c).fields.length) :
  ∃q:Nat,q<(nth ob0 h.objs n).held.length∧heldAt (nth ob0 h.objs n).held c k=q∧(nth hel0 (nth ob0 h.objs n).held q).cls=c∧(nth hel0 (nth ob0 h.objs n).held q).fld=k:=by
 unfold belI clsI at hb
 rw [Bool.and_eq_true,decide_eq_true_eq,Int.toNat_natCast] at hb
 have hc:c<h.file.classes.length:=by omega
 have hmem:((c:Int),(k:Int))∈(newHeld h.file.classes (nth ob0 h.objs n).cls.toNat).map keyH:=by
  rw [List.mem_map]
  refine ⟨⟨(c:Nat),(k:Nat),initV (nth ty0 (nth cl0 h.file.classes c).fields k)⟩,?_,rfl⟩
  unfold newHeld
  rw [List.mem_flatMap]
  refine ⟨c,by simpa using hc,?_⟩
  unfold heldOf
  rw [if_pos hb.2,List.mem_map]
  exact ⟨k,by simpa using hk,rfl⟩
 rw [←t.keys n hn,List.mem_map] at hmem
 obtain ⟨x,hx,hxk⟩:=hmem
 have hx1:x.cls=c∧x.fld=k:=by
  unfold keyH at hxk
  exact ⟨congrArg Prod.fst hxk,congrArg Prod.snd hxk⟩
 unfold heldAt
 cases hfi:(nth ob0 h.objs n).held.findIdx? (fun x=>decide (x.cls=(c:Int)∧x.fld=(k:Int))) with
 | none =>
  rw [List.findIdx?_eq_none_iff] at hfi
  have:=hfi x hx
  simp [hx1] at this
 | some i =>
  rw [List.findIdx?_eq_some_iff_getElem] at hfi
  obtain ⟨h1,h2,-⟩:=hfi
  have h2:=of_decide_eq_true h2
  refine ⟨i,h1,rfl,?_,?_⟩
  ·rw [nth_get h1];exact h2.1
  ·rw [nth_get h1];exact h2.2
theorem setV_ext (h:Hp) (n j:Nat) (v:Va):Ext h (h.setV n j v):=by
 unfold Hp.setV
 refine ⟨rfl,by dsimp only;rw [List.length_set];exact Nat.le_refl _,fun i hi=>?_⟩
 dsimp only
 by_cases e:n=i
 ·subst e;rw [nth_set_eq hi]
 ·rw [nth_set_ne e]
theorem setV_ty {h:Hp} (t:TyH h) {n j:Nat} {v:Va} (hn:n<h.objs.length) (hj:j<(nth ob0 h.objs n).held.length) (hv:FitV h (fieldT h.file.classes (nth hel0 (nth ob0 h.objs n).held j).cls (nth hel0 (nth ob0 h.objs n).held j).fld) v):TyH (h.setV n j v):=by
 have e:=setV_ext h n j v
 have hlen:(h.setV n j v).objs.length=h.objs.length:=by unfold Hp.setV;dsimp only;rw [List.length_set]
 have hfile:(h.setV n j v).file=h.file:=rfl
 have hob:nth ob0 (h.setV n j v).objs n={ nth ob0 h.objs n with held:=(nth ob0 h.objs n).held.set j { nth hel0 (nth ob0 h.objs n).held j with v:=v } }:=by unfold Hp.setV;dsimp only;rw [nth_set_eq hn]
 have hoth:∀i,n≠i→nth ob0 (h.setV n j v).objs i=nth ob0 h.objs i:=fun i hi=>by unfold Hp.setV;dsimp only;rw [nth_set_ne hi]
 refine ⟨fun i hi=>?_,fun i hi=>?_,fun i hi x hx=>?_⟩
 ·rw [hlen] at hi;rw [e.cls i hi,hfile];exact t.cls i hi
 ·rw [hlen] at hi
  rw [e.cls i hi,hfile,←t.keys i hi]
  by_cases ei:n=i
  ·subst ei
   rw [hob]
   dsimp only
   rw [List.map_set]
   refine List.ext_getElem? fun q=>?_
   by_cases eq:j=q
   ·subst eq
    rw [List.getElem?_set_self (by rw [List.length_map];exact hj),List.getElem?_map,List.getElem?_eq_getElem hj]
    unfold keyH
    rw [←nth_get (d:=hel0) hj];rfl
   ·rw [List.getElem?_set_ne eq]
  ·rw [hoth i ei]
 ·rw [hlen] at hi
  rw [hfile]
  by_cases ei:n=i
  ·subst ei
   rw [hob] at hx
   dsimp only at hx
   rcases mem_set' hx with rfl|hx
   ·exact hv.ext e
   ·exact (t.held n hn x hx).ext e
  ·rw [hoth i ei] at hx;exact (t.held i hi x hx).ext e
def rdT (k a:Int) (s:As):Option Ty:=if (nth ty0 s.slots a.toNat).kind=k then some (nth ty0 s.slots a.toNat) else none
def rdY (cs:List Cl) (t:Ty) (a:Int) (s:As):Option Ty:=(rdT t.kind a s).bind fun v=>if fitB cs v t=true then some v else none
def fetchT (k:Int) (s:As):Option Ty:=if s.stk.length=0 then none else if (nth ty0 s.stk 0).kind=k then some (nth ty0 s.stk 0) else none
def two (k a b:Int) (s:As) (t:Ty):Option Ty:=(rdT k a s).bind fun _=>(rdT k b s).bind fun _=>some t
def numT (i:In) (s:As):Option Ty :=
 if i.op=5 then two 1 i.b i.c s ⟨1,0⟩
 else if i.op=8 then (rdT 2 i.b s).bind fun _=>some ⟨1,0⟩
 else if i.op=9 then two 2 i.b i.c s ⟨1,0⟩
 else if i.op=17 then (rdT 3 i.b s).bind fun _=>some ⟨1,0⟩
 else if i.op=6 then two 2 i.b i.c s ⟨2,0⟩
 else if i.op=7 then (rdT 1 i.b s).bind fun _=>some ⟨2,0⟩
 else if i.op=2∨i.op=24 then some ⟨2,0⟩
 else some ⟨1,0⟩
def valT (cs:List Cl) (i:In) (s:As):Option Ty :=
 if i.op=3 then some ⟨3,-1⟩
 else if i.op=4 then rdT i.c i.b s
 else if i.op=13 then some ⟨3,i.b⟩
 else if i.op=14 then (rdY cs ⟨3,i.c⟩ i.b s).bind fun _=>some (fieldT cs i.c i.n)
 else if i.op=16 then (rdT 3 i.a s).bind fun _=>some ⟨3,i.b⟩
 else if i.op=19 then fetchT i.b s
 else if i.op=22 then fetchT 3 s
 else numT i s
def workT (cs:List Cl) (i:In) (s:As):Option As :=
 if i.op=15 then (rdY cs ⟨3,i.c⟩ i.b s).bind fun _=>(rdY cs (fieldT cs i.c i.n) i.a s).bind fun _=>some ⟨s.slots,[]⟩
 else if i.op=23 then (rdT i.b i.a s).bind fun _=>some ⟨s.slots,[]⟩
 else (valT cs i s).bind fun v=>some ⟨wrT s.slots i.a.toNat v,[]⟩
structure WfA (n:Nat) (nl:Int) (s:As):Prop where
 len:(s.slots.length:Int)=nl
 pair:PairT s.slots
 sl:∀t∈s.slots,refOk n t∧0≤t.kind∧t.kind≤4
 st:∀t∈s.stk,refOk n t∧1≤t.kind∧t.kind≤3
def Leads (cs:List Cl) (st:List (Option As)) (t:Int) (s:As):Prop:=0≤t∧t<st.length∧∃u,nth none st t.toNat=some u∧leA cs s u
def isF (m:Me) (t op:Int):Prop:=0≤t∧t<m.code.length∧(nth in0 m.code t.toNat).op=op
def LeadH (cs:List Cl) (m:Me) (st:List (Option As)) (t op:Int) (v:Ty) (sl:List Ty):Prop:=(isF m t op→Leads cs st t ⟨sl,[v]⟩)∧(¬isF m t op→Leads cs st t ⟨sl,[]⟩)
def rdsOk (cs:List Cl) (ts:List Ty) (args:List Int) (s:As):Prop:=∀j,j<ts.length→∃v,rdY cs (nth ty0 ts j) (nth (0:Int) args j) s=some v
def OutOk (f:Fi) (m:Me) (st:List (Option As)) (k:Nat) (s:As) (i:In):Prop :=
 if i.op=10 then Leads f.classes st i.a ⟨s.slots,[]⟩
 else if i.op=11 then (∃v,rdT 1 i.c s=some v)∧Leads f.classes st i.a ⟨s.slots,[]⟩∧Leads f.classes st (k+1:Nat) ⟨s.slots,[]⟩
 else if i.op=12 then (∃v,rdT 3 i.c s=some v)∧Leads f.classes st i.a ⟨s.slots,[]⟩∧Leads f.classes st (k+1:Nat) ⟨s.slots,[]⟩
 else if i.op=18 then rdsOk f.classes (nth me0 f.methods i.a.toNat).params i.args s∧((nth me0 f.methods i.a.toNat).ret.kind=0→Leads f.classes st (k+1:Nat) ⟨s.slots,[]⟩)∧((nth me0 f.methods i.a.toNat).ret.kind≠0→LeadH f.classes m st (k+1:Nat) 19 (nth me0 f.methods i.a.toNat).ret s.slots)
 else if i.op=20 then (m.ret.kind≠0→∃v,rdY f.classes m.ret i.a s=some v)
 else if i.op=21 then ∃v,rdT 3 i.a s=some v
 else ∃s1,workT f.classes i s=some s1∧Leads f.classes st (k+1:Nat) s1
structure StepAt (f:Fi) (m:Me) (st:List (Option As)) (k:Nat) (s:As):Prop where
 hands:∀x∈m.hands,x.fr≤k→k<x.til→LeadH f.classes m st x.pc 22 ⟨3,x.cls⟩ s.slots
 out:OutOk f m st k s (nth in0 m.code k)
def argsT (l:List Ty) (at':Nat):List Ty→List Ty
 | []=>l
 | t::k=>argsT (wrT l at' t) (at'+slotsN [t]) k
def firstT (m:Me) (nl:Int):As:=⟨argsT (List.replicate nl.toNat ty0) 0 m.params,[]⟩
def SoundM (f:Fi) (m:Me):Prop:=∃st:List (Option As),st.length=m.code.length∧(∀k s,nth none st k=some s→WfA f.classes.length m.regs s∧StepAt f m st k s)∧Leads f.classes st 0 (firstT m m.regs)
theorem rdT_eq {k a:Int} {s:As} {v:Ty} (h:rdT k a s=some v):v=nth ty0 s.slots a.toNat∧v.kind=k:=by
 unfold rdT at h
 split at h
 ·rename_i hk;have:=Option.some.inj h;subst this;exact ⟨rfl,hk⟩
 ·cases h
theorem rdY_eq {cs:List Cl} {t:Ty} {a:Int} {s:As} {v:Ty} (h:rdY cs t a s=some v):v=nth ty0 s.slots a.toNat∧v.kind=t.kind∧fitB cs v t=true:=by
 unfold rdY at h
 rw [Option.bind_eq_some_iff] at h
 obtain ⟨u,h1,h2⟩:=h
 split at h2
 ·have:=Option.some.inj h2;subst this;exact ⟨(rdT_eq h1).1,(rdT_eq h1).2,by assumption⟩
 ·cases h2
theorem two_eq {k a b:Int} {s:As} {t u:Ty} (h:two k a b s t=some u):(nth ty0 s.slots a.toNat).kind=k∧(nth ty0 s.slots b.toNat).kind=k∧u=t:=by
 unfold two at h
 rw [Option.bind_eq_some_iff] at h
 obtain ⟨v,h1,h2⟩:=h
 rw [Option.bind_eq_some_iff] at h2
 obtain ⟨v2,h2,h3⟩:=h2
 exact ⟨by rw [←(rdT_eq h1).1];exact (rdT_eq h1).2,by rw [←(rdT_eq h2).1];exact (rdT_eq h2).2,(Option.some.inj h3).symm⟩
structure Fits (h:Hp) (s:As) (c:Cal):Prop where
 sl:FitL h s.slots c.locs
 pr:PairV c.locs
 hd:s.stk=[]∨∃t,s.stk=[t]∧((nth in0 c.m.code c.pc.toNat).op=19→FitV h t c.giv)∧((nth in0 c.m.code c.pc.toNat).op=22→FitV h t c.cau)
theorem Fits.ext {h h':Hp} {s:As} {c:Cal} (g:Fits h s c) (e:Ext h h'):Fits h' s c :=
 ⟨g.sl.ext e,g.pr,g.hd.imp id (fun ⟨t,a,b,d⟩=>⟨t,a,fun x=>(b x).ext e,fun x=>(d x).ext e⟩)⟩
theorem Fits.le {h:Hp} (ht:Tree h.file.classes) {s u:As} {c:Cal} (g:Fits h s c) (l:leA h.file.classes s u):Fits h u c:=by
 refine ⟨l.1.fit ht g.sl,g.pr,?_⟩
 obtain ⟨l1,l2⟩:=l.2
 rcases g.hd with e|⟨t,e,a,b⟩
 ·left
  rw [e] at l1
  exact List.length_eq_zero_iff.1 l1.symm
 ·right
  rw [e] at l1 l2
  have h1:u.stk.length=1:=l1.symm
  obtain ⟨x,hx⟩:∃x,u.stk=[x]:=by
   match hq:u.stk,h1 with
   | [x],_=>exact ⟨x,rfl⟩
  have lx:=l2 0 (by simp)
  rw [hx] at lx
  have lx:leT h.file.classes t x:=lx
  exact ⟨x,hx,fun q=>lx.fit ht (a q),fun q=>lx.fit ht (b q)⟩
theorem slots_app (a b:List Ty):slotsN (a++b)=slotsN a+slotsN b:=by
 induction a with
 | nil=>simp [slotsN]
 | cons x a ih=>simp [slotsN,ih];omega
theorem FitV.siz {h:Hp} {t:Ty} {v:Va} (g:FitV h t v) (hk:1≤t.kind∧t.kind≤3):v.kind=t.kind:=by
 rcases (by omega:t.kind=1∨t.kind=2∨t.kind=3) with e|e|e
 ·rw [g.one e,e]
 ·rw [g.two e,e]
 ·rw [(g.ref e).1,e]
theorem Fits.rd {h:Hp} {s:As} {c:Cal} (g:Fits h s c) {a k:Int} {v:Ty} (hk:1≤k∧k≤3) (ha:a.toNat<s.slots.length) (hr:rdT k a s=some v):FitV h v (c.rd a)∧(c.rd a).kind=k∧h.rdH c a k=h:=by
 obtain ⟨e1,e2⟩:=rdT_eq hr
 have f:FitV h v (c.rd a):=by rw [e1];exact g.sl.2 _ ha
 have hkk:=(f.siz (by omega)).trans e2
 refine ⟨f,hkk,?_⟩
 unfold Hp.rdH Hp.must
 rw [if_pos (decide_eq_true hkk)]
abbrev upE:Ending:=.panicked [{ v:=.iface 309 (.agg #[]),recovered:=false }]
abbrev fvV (t:Ty):Value:=.agg #[.int .i64 t.kind,.int .i64 t.cls]
theorem info_fv:(Tryz.prog.info? 243).map (·.size)=some 2:=by kernel_rfl
theorem up_any (w:World):Calls Tryz.prog 286 #[] w fun e w'=>e=upE∧w'=w:=by
 go_enter Tryz.func286,Tryz.ntmps286
 go_wp2
 exact ⟨rfl,rfl,rfl⟩
theorem fint_any (w:World):Calls Tryz.prog 290 #[] w fun e w'=>e=.returned (fvV ⟨1,0⟩)∧Bl w w':=by
 go_enter Tryz.func290,Tryz.ntmps290
 go_wp2
 refine bodyPost_ret (results_cell_row rfl _ _ w.heap.size _ _ _ _ rfl (mblk rfl) Tryz.underlying243 rfl info_fv) rfl ?_
 exact ⟨rfl,(Bl.refl w).alloc _⟩
theorem flong_any (w:World):Calls Tryz.prog 291 #[] w fun e w'=>e=.returned (fvV ⟨2,0⟩)∧Bl w w':=by
 go_enter Tryz.func291,Tryz.ntmps291
 go_wp2
 refine bodyPost_ret (results_cell_row rfl _ _ w.heap.size _ _ _ _ rfl (mblk rfl) Tryz.underlying243 rfl info_fv) rfl ?_
 exact ⟨rfl,(Bl.refl w).alloc _⟩
theorem fref_any (c:Int) (w:World):Calls Tryz.prog 278 #[.int .i64 c] w fun e w'=>e=.returned (fvV ⟨3,c⟩)∧Bl w w':=by
 go_enter Tryz.func278,Tryz.ntmps278
 go_wp2
 refine bodyPost_ret (results_cell_row rfl _ _ w.heap.size _ _ _ _ rfl (mblk rfl) Tryz.underlying243 rfl info_fv) rfl ?_
 exact ⟨rfl,(Bl.refl w).alloc _⟩
theorem fnot_any (w:World):Calls Tryz.prog 292 #[] w fun e w'=>e=.returned (fvV ⟨3,-1⟩)∧Bl w w':=by
 go_enter Tryz.func292,Tryz.ntmps292
 go_wp2_with (go_at_call 278;refine (fref_any (-1) _).mono ?_;rintro e w1 ⟨rfl,b1⟩;have B1:Hid (_):=b1;have hb:=(b1.block w.heap.size (by simp)).trans (mblk (w:=w) rfl);have hc0:=cell_blk (i:=0) hb;have hc1:=cell_blk (i:=1) hb;have hf:=free_blk hb;have HB:Hid (_):=hb;clear b1 hb)
 refine bodyPost_ret (results_cell_row rfl _ _ w.heap.size _ _ _ _ rfl (block_set (block_set HB.out _) _) Tryz.underlying243 rfl info_fv) rfl ?_
 exact ⟨rfl,((((Bl.refl w).alloc _).trans B1.out).setCell (Nat.le_refl _) _).setCell (Nat.le_refl _) _⟩
theorem fmust_yes (v:Ty) (k:Int) (w:World) (h:v.kind=k):Calls Tryz.prog 279 #[fvV v,.int .i64 k] w fun e w'=>e=.returned (fvV v)∧Bl w w':=by
 subst h
 go_enter Tryz.func279,Tryz.ntmps279
 go_wp2
 refine bodyPost_ret (results_cell_row rfl _ _ (w.heap.size+1) _ _ _ _ rfl (mblk (by simp)) Tryz.underlying243 rfl info_fv) rfl ?_
 exact ⟨rfl,((Bl.refl w).alloc _).alloc _⟩
theorem fmust_no (v:Ty) (k:Int) (w:World) (h:v.kind≠k):Calls Tryz.prog 279 #[fvV v,.int .i64 k] w fun e w'=>e=upE∧Bl w w':=by
 have hz:(v.kind !=k)=true:=by simpa using h
 go_enter Tryz.func279,Tryz.ntmps279
 go_wp2_with (go_at_call 286;refine (up_any _).mono ?_;rintro e w1 ⟨rfl,hw⟩;rw [hw];clear hw w1)
 exact ⟨rfl,rfl,((Bl.refl w).alloc _).alloc _⟩
def bothT (cs:List Cl) (v u:Ty):Ty:=if v.kind≠3∨u.kind≠3 then ty0 else if v.cls=-1 then u else if u.cls=-1 then v else ⟨3,(joinN cs v.cls.toNat u.cls.toNat:Nat)⟩
def eqT (x y:Ty):Bool:=decide (x.kind=y.kind)&&decide (x.cls=y.cls)
theorem eqT_eq {x y:Ty}:eqT x y=true↔x=y:=by
 unfold eqT
 rw [Bool.and_eq_true,decide_eq_true_eq,decide_eq_true_eq]
 constructor
 ·rintro ⟨h1,h2⟩
  cases x;cases y
  dsimp only at h1 h2
  subst h1;subst h2;rfl
 ·rintro rfl;exact ⟨rfl,rfl⟩
def m1 (cs:List Cl) (x y:Ty):Ty:=if eqT x y=true then x else bothT cs x y
def mergeTo (cs:List Cl) (a b:List Ty) (k:Nat):List Ty:=(List.range a.length).map fun j=>if j<k then m1 cs (nth ty0 a j) (nth ty0 b j) else nth ty0 a j
def mergeL (cs:List Cl) (a b:List Ty):List Ty:=mergeTo cs a b a.length
def lessTo (cs:List Cl) (a b:List Ty) (k:Nat):Bool:=(List.range k).any fun j=>!eqT (m1 cs (nth ty0 a j) (nth ty0 b j)) (nth ty0 a j)
theorem mergeTo_length (cs:List Cl) (a b:List Ty) (k:Nat):(mergeTo cs a b k).length=a.length:=by unfold mergeTo;simp
theorem mergeTo_nth (cs:List Cl) (a b:List Ty) (k j:Nat) (hj:j<a.length):nth ty0 (mergeTo cs a b k) j=if j<k then m1 cs (nth ty0 a j) (nth ty0 b j) else nth ty0 a j:=by
 rw [nth_get (by rw [mergeTo_length];exact hj)]
 unfold mergeTo
 simp
theorem ext_nth {a b:List Ty} (hl:a.length=b.length) (h:∀j,j<a.length→nth ty0 a j=nth ty0 b j):a=b:=by
 refine List.ext_getElem hl fun j h1 h2=>?_
 have:=h j h1
 rw [nth_get h1,nth_get h2] at this;exact this
theorem mergeTo_zero (cs:List Cl) (a b:List Ty):mergeTo cs a b 0=a:=ext_nth (mergeTo_length cs a b 0) fun j hj=>by
 rw [mergeTo_length] at hj
 rw [mergeTo_nth cs a b 0 j hj,if_neg (by omega)]
theorem mergeTo_succ (cs:List Cl) (a b:List Ty) (k:Nat) (hk:k<a.length):(mergeTo cs a b k).set k (m1 cs (nth ty0 a k) (nth ty0 b k))=mergeTo cs a b (k+1):=ext_nth (by rw [List.length_set,mergeTo_length,mergeTo_length]) fun j hj=>by
 rw [List.length_set,mergeTo_length] at hj
 rw [nth_setI (by rw [mergeTo_length];exact hk),mergeTo_nth cs a b (k+1) j hj]
 by_cases e:k=j
 ·subst e;rw [if_pos rfl,if_pos (by omega)]
 ·rw [if_neg e,mergeTo_nth cs a b k j hj]
  by_cases e2:j<k
  ·rw [if_pos e2,if_pos (by omega)]
  ·rw [if_neg e2,if_neg (by omega)]
theorem mergeTo_same (cs:List Cl) (a b:List Ty) (k:Nat) (hk:k<a.length) (he:m1 cs (nth ty0 a k) (nth ty0 b k)=nth ty0 a k):mergeTo cs a b k=mergeTo cs a b (k+1):=by
 rw [←mergeTo_succ cs a b k hk,he]
 refine ext_nth (by rw [List.length_set]) fun j hj=>?_
 rw [mergeTo_length] at hj
 rw [nth_setI (by rw [mergeTo_length];exact hk)]
 by_cases e:k=j
 ·subst e;rw [if_pos rfl,mergeTo_nth cs a b k k hj,if_neg (by omega)]
 ·rw [if_neg e]
theorem lessTo_succ (cs:List Cl) (a b:List Ty) (k:Nat):lessTo cs a b (k+1)=(lessTo cs a b k||!eqT (m1 cs (nth ty0 a k) (nth ty0 b k)) (nth ty0 a k)):=by
 unfold lessTo
 rw [List.range_succ,List.any_append]
 simp
def htT (t:Ty):Nat:=if t.kind=3 then (if t.cls=-1 then 20 else 2+t.cls.toNat) else if t.kind=0∧t.cls=0 then 0 else 1
theorem m1_refOk {cs:List Cl} (ht:Tree cs) {x y:Ty} (hx:refOk cs.length x) (hy:refOk cs.length y):refOk cs.length (m1 cs x y):=by
 unfold m1 bothT
 split
 ·exact hx
 split
 ·exact fun e=>absurd e (by decide)
 split
 ·exact hy
 split
 ·exact hx
 ·rename_i h1 h2 h3
  have k1:x.kind=3:=by omega
  have k2:y.kind=3:=by omega
  have a1:=(hx k1).resolve_left h2
  have a2:=(hy k2).resolve_left h3
  intro _
  right
  have:=(join_there ht x.cls.toNat y.cls.toNat (by omega) (by omega)).1
  have:=ups_le ht _ (by omega) _ this
  dsimp only
  omega
theorem m1_le {cs:List Cl} (ht:Tree cs) {x y:Ty} (hx:refOk cs.length x) (hy:refOk cs.length y):leT cs x (m1 cs x y)∧leT cs y (m1 cs x y):=by
 unfold m1
 split
 ·rename_i h
  rw [eqT_eq] at h
  subst h
  exact ⟨leT.refl cs x,leT.refl cs x⟩
 unfold bothT
 split
 ·exact ⟨Or.inl rfl,Or.inl rfl⟩
 rename_i h1
 have k1:x.kind=3:=by omega
 have k2:y.kind=3:=by omega
 split
 ·rename_i h2
  exact ⟨Or.inr (Or.inr ⟨k1,k2,Or.inl h2⟩),leT.refl cs y⟩
 split
 ·rename_i h2 h3
  exact ⟨leT.refl cs x,Or.inr (Or.inr ⟨k2,k1,Or.inl h3⟩)⟩
 rename_i h2 h3
 have a1:=(hx k1).resolve_left h2
 have a2:=(hy k2).resolve_left h3
 have J:=join_there ht x.cls.toNat y.cls.toNat (by omega) (by omega)
 have l1:=ups_le ht _ (by omega) _ J.1
 refine ⟨Or.inr (Or.inr ⟨k1,rfl,Or.inr ⟨a1.1,a1.2,by dsimp only;omega,by dsimp only;omega,?_⟩⟩),Or.inr (Or.inr ⟨k2,rfl,Or.inr ⟨a2.1,a2.2,by dsimp only;omega,by dsimp only;omega,?_⟩⟩)⟩
 ·dsimp only;rw [Int.toNat_natCast];exact bel_iff.2 J.1
 ·dsimp only;rw [Int.toNat_natCast];exact bel_iff.2 J.2.1
theorem m1_ht {cs:List Cl} (ht:Tree cs) (h12:cs.length≤12) {x y:Ty} (hx:refOk cs.length x) (hy:refOk cs.length y) (hn:eqT (m1 cs x y) x=false):htT (m1 cs x y)<htT x:=by
 have hne:m1 cs x y≠x:=fun e=>by rw [eqT_eq.2 e] at hn;exact absurd hn (by decide)
 unfold m1 at hne ⊢
 split at hne
 ·exact absurd rfl hne
 rename_i hxy
 rw [if_neg hxy]
 have hxy':x≠y:=fun e=>hxy (eqT_eq.2 e)
 unfold bothT at hne ⊢
 split at hne
 ·rename_i h1
  rw [if_pos h1]
  have h0:htT ty0=0:=rfl
  rw [h0]
  unfold htT
  split
  ·split<;>omega
  split
  ·rename_i h3 h4
   exfalso
   apply hne
   cases x
   dsimp only at h4
   rw [show ty0=(⟨0,0⟩:Ty) from rfl,h4.1,h4.2]
  ·omega
 rename_i h1
 rw [if_neg h1]
 have k1:x.kind=3:=by omega
 have k2:y.kind=3:=by omega
 split at hne
 ·rename_i h2
  rw [if_pos h2]
  unfold htT
  rw [if_pos k2,if_pos k1,if_pos h2]
  by_cases h3:y.cls=-1
  ·exfalso;apply hxy'
   cases x;cases y
   dsimp only at k1 k2 h2 h3
   rw [k1,k2,h2,h3]
  ·rw [if_neg h3]
   have:=(hy k2).resolve_left h3
   omega
 rename_i h2
 rw [if_neg h2]
 split at hne
 ·exact absurd rfl hne
 rename_i h3
 rw [if_neg h3]
 have a1:=(hx k1).resolve_left h2
 have a2:=(hy k2).resolve_left h3
 have J:=join_there ht x.cls.toNat y.cls.toNat (by omega) (by omega)
 have l1:=ups_le ht _ (by omega) _ J.1
 unfold htT
 dsimp only
 rw [if_pos rfl,if_neg (by omega),if_pos k1,if_neg h2,Int.toNat_natCast]
 have:joinN cs x.cls.toNat y.cls.toNat≠x.cls.toNat:=fun e=>by
  apply hne
  cases x
  dsimp only at k1 a1 e ⊢
  rw [k1,e]
  congr 1
  omega
 omega
def JnAt (w:World) (vj:Value) (cs:List Cl):Prop:=∃jb jo jc,vj=.slice (some ⟨jb,jo,none⟩) cs.length jc∧∀i,i<cs.length→∃rb ro rc,w.cell? ⟨jb,jo+i,none⟩=some (.slice (some ⟨rb,ro,none⟩) cs.length rc)∧∀j,j<cs.length→w.cell? ⟨rb,ro+j,none⟩=some (.int .i64 (joinN cs i j:Nat))
theorem JnAt.bl {w w':World} {vj:Value} {cs:List Cl} (h:JnAt w vj cs) (b:Bl w w'):JnAt w' vj cs:=by
 obtain ⟨jb,jo,jc,h1,h2⟩:=h
 refine ⟨jb,jo,jc,h1,fun i hi=>?_⟩
 obtain ⟨rb,ro,rc,h3,h4⟩:=h2 i hi
 exact ⟨rb,ro,rc,b.cell h3,fun j hj=>b.cell (h4 j hj)⟩
theorem fv_fields:Tryz.prog.underlying 243=some (.struct (Tryz.prog.fieldsOf 243)):=by kernel_rfl
theorem fv_held:Tryz.prog.stoodInHeld 243=false:=by kernel_rfl
theorem eql_fv (a b c d:Int) (w:World):(binOp .eql 243 (.agg #[.int .i64 a,.int .i64 b]) (.agg #[.int .i64 c,.int .i64 d])).run Tryz.prog w=.ok (.bool (decide (a=c)&&decide (b=d))) w:=by
 rw [run_eql_struct,run_equalIn_agg w 9999 _ _ _ fv_fields fv_held]
 simp [go_sem,Tryz.underlying243,Tryz.underlying3]
 by_cases h1:a=c<;>by_cases h2:b=d<;>simp [h1,h2]
abbrev fvO (t:Ty):Obj:=.cells #[.int .i64 t.kind,.int .i64 t.cls] 243
abbrev fvZ:Obj:=.cells #[.int .i64 0,.int .i64 0] 243
theorem both_any (cs:List Cl) (vj:Value) (v u:Ty) (w:World) (h:v.kind≠3∨u.kind≠3) :
  Calls Tryz.prog 325 #[vj,fvV v,fvV u] w fun e w'=>e=.returned (fvV ty0)∧Bl w w':=by
 have HB:Hid (Bl w (((w.alloc (fvO v)).alloc (fvO u)).alloc fvZ)):=(((Bl.refl w).alloc _).alloc _).alloc _
 by_cases h1:v.kind=3
 ·have h2:(u.kind !=3)=true:=by have:u.kind≠3:=(by omega);simpa using this
  have h1':(v.kind !=3)=false:=by simpa using h1
  clear h1 h
  go_enter Tryz.func325,Tryz.ntmps325
  go_wp2
  refine bodyPost_ret (results_cell_row rfl _ _ (w.heap.size+2) _ _ _ _ rfl (mblk (by simp)) Tryz.underlying243 rfl info_fv) rfl ?_
  exact ⟨rfl,HB.out⟩
 ·have h1':(v.kind !=3)=true:=by simpa using h1
  clear h1 h
  go_enter Tryz.func325,Tryz.ntmps325
  go_wp2
  refine bodyPost_ret (results_cell_row rfl _ _ (w.heap.size+2) _ _ _ _ rfl (mblk (by simp)) Tryz.underlying243 rfl info_fv) rfl ?_
  exact ⟨rfl,HB.out⟩
structure Bx3 (w:World) (b:Nat) (v u:Ty):Prop where
 one:w.heap[b]?=some (.cells #[.int .i64 v.kind,.int .i64 v.cls] 243 (0,0))
 two:w.heap[b+1]?=some (.cells #[.int .i64 u.kind,.int .i64 u.cls] 243 (0,0))
 res:w.heap[b+2]?=some (.cells #[.int .i64 0,.int .i64 0] 243 (0,0))
theorem Bx3.new (w:World) (v u:Ty):Bx3 (((w.alloc (fvO v)).alloc (fvO u)).alloc fvZ) w.heap.size v u :=
 ⟨((heap_alloc_old _ _ (by simp;omega)).trans (heap_alloc_old _ _ (by simp))).trans (mblk rfl),(heap_alloc_old _ _ (by simp)).trans (mblk (by simp)),mblk (by simp)⟩
theorem Bx3.bl {w w':World} {b:Nat} {v u:Ty} (h:Bx3 w b v u) (k:Bl w w'):Bx3 w' b v u :=
 ⟨(k.block _ (lt_some h.one)).trans h.one,(k.block _ (lt_some h.two)).trans h.two,(k.block _ (lt_some h.res)).trans h.res⟩
theorem both_l (cs:List Cl) (vj:Value) (v u:Ty) (w:World) (hv:v.kind=3) (hu:u.kind=3) (hn:v.cls=-1) :
  Calls Tryz.prog 325 #[vj,fvV v,fvV u] w fun e w'=>e=.returned (fvV u)∧Bl w w':=by
 have HB:Hid (Bl w (((w.alloc (fvO v)).alloc (fvO u)).alloc fvZ)):=(((Bl.refl w).alloc _).alloc _).alloc _
 have H3:Hid (Bx3 (((w.alloc (fvO v)).alloc (fvO u)).alloc fvZ) w.heap.size v u):=Bx3.new w v u
 have hv':(v.kind !=3)=false:=by simpa using hv
 have hu':(u.kind !=3)=false:=by simpa using hu
 have hq:∀w,_:=fun w=>eql_fv v.kind v.cls 3 (-1) w
 have hd:(decide (v.kind=3)&&decide (v.cls=-1))=true:=by simp [hv,hn]
 rw [hd] at hq
 clear hv hn hd hu
 go_enter Tryz.func325,Tryz.ntmps325
 go_wp2
 have x0:∀x:Fut (((w.alloc (fvO v)).alloc (fvO u)).alloc fvZ),x.to.cell? ⟨w.heap.size,0,none⟩=some (.int .i64 v.kind):=fut_cell ((cell_blk H3.out.one).trans rfl)
 have x1:∀x:Fut (((w.alloc (fvO v)).alloc (fvO u)).alloc fvZ),x.to.cell? ⟨w.heap.size,1,none⟩=some (.int .i64 v.cls):=fut_cell ((cell_blk H3.out.one).trans rfl)
 refine wp_region_fut (by kernel_rfl) (by kernel_rfl) fun hne=>?_
 repeat (go_big_quiet_step ((go_at_call 292;exact Calls.fut_eq _ (fnot_any _) rfl)))
 refine wpQuiet_nil ?_
 rintro W2 ⟨⟨w2,hw2⟩,hE⟩
 replace hE:w2=W2:=hE.symm
 subst hE
 clear x0 x1 hne hq
 have B2:Hid (Bx3 w2 w.heap.size v u):=H3.out.bl hw2
 have HW:Hid (Bl _ w2):=hw2
 clear hw2
 have c0:=(cell_blk (i:=0) B2.out.two).trans rfl
 have c1:=(cell_blk (i:=1) B2.out.two).trans rfl
 have r0:=(cell_blk (i:=0) B2.out.res).trans rfl
 have r1:=(cell_blk (i:=1) B2.out.res).trans rfl
 have rf:=free_blk B2.out.res
 go_wp2
 refine bodyPost_ret (results_cell_row rfl _ _ (w.heap.size+2) _ _ _ _ rfl (block_set (block_set B2.out.res _) _) Tryz.underlying243 rfl info_fv) rfl ?_
 exact ⟨rfl,((HB.out.trans HW.out).setCell (by show _≤w.heap.size+2;omega) _).setCell (by show _≤w.heap.size+2;omega) _⟩
theorem both_r (cs:List Cl) (vj:Value) (v u:Ty) (w:World) (hv:v.kind=3) (hu:u.kind=3) (hn:v.cls≠-1) (hm:u.cls=-1) :
  Calls Tryz.prog 325 #[vj,fvV v,fvV u] w fun e w'=>e=.returned (fvV v)∧Bl w w':=by
 have HB:Hid (Bl w (((w.alloc (fvO v)).alloc (fvO u)).alloc fvZ)):=(((Bl.refl w).alloc _).alloc _).alloc _
 have H3:Hid (Bx3 (((w.alloc (fvO v)).alloc (fvO u)).alloc fvZ) w.heap.size v u):=Bx3.new w v u
 have hv':(v.kind !=3)=false:=by simpa using hv
 have hu':(u.kind !=3)=false:=by simpa using hu
 have hq:∀w,_:=fun w=>eql_fv v.kind v.cls 3 (-1) w
 have hd:(decide (v.kind=3)&&decide (v.cls=-1))=false:=by simp [hv,hn]
 rw [hd] at hq
 have HQ2:Hid (∀w,_):=fun w=>eql_fv u.kind u.cls 3 (-1) w
 have hd2:(decide (u.kind=3)&&decide (u.cls=-1))=true:=by simp [hu,hm]
 rw [hd2] at HQ2
 clear hv hn hd hu hm hd2
 go_enter Tryz.func325,Tryz.ntmps325
 go_wp2
 have x0:∀x:Fut (((w.alloc (fvO v)).alloc (fvO u)).alloc fvZ),x.to.cell? ⟨w.heap.size,0,none⟩=some (.int .i64 v.kind):=fut_cell ((cell_blk H3.out.one).trans rfl)
 have x1:∀x:Fut (((w.alloc (fvO v)).alloc (fvO u)).alloc fvZ),x.to.cell? ⟨w.heap.size,1,none⟩=some (.int .i64 v.cls):=fut_cell ((cell_blk H3.out.one).trans rfl)
 refine wp_region_fut (by kernel_rfl) (by kernel_rfl) fun hne=>?_
 repeat (go_big_quiet_step ((go_at_call 292;exact Calls.fut_eq _ (fnot_any _) rfl)))
 refine wpQuiet_nil ?_
 rintro W2 ⟨⟨w2,hw2⟩,hE⟩
 replace hE:w2=W2:=hE.symm
 subst hE
 clear x0 x1 hne hq
 have B2:Hid (Bx3 w2 w.heap.size v u):=H3.out.bl hw2
 have HW:Hid (Bl _ w2):=hw2
 clear hw2
 have hq2:=HQ2.out
 go_wp2
 have x0:∀x:Fut w2,x.to.cell? ⟨w.heap.size+1,0,none⟩=some (.int .i64 u.kind):=fut_cell ((cell_blk B2.out.two).trans rfl)
 have x1:∀x:Fut w2,x.to.cell? ⟨w.heap.size+1,1,none⟩=some (.int .i64 u.cls):=fut_cell ((cell_blk B2.out.two).trans rfl)
 refine wp_region_fut (by kernel_rfl) (by kernel_rfl) fun hne=>?_
 repeat (go_big_quiet_step ((go_at_call 292;exact Calls.fut_eq _ (fnot_any _) rfl)))
 refine wpQuiet_nil ?_
 rintro W3 ⟨⟨w3,hw3⟩,hE⟩
 replace hE:w3=W3:=hE.symm
 subst hE
 clear x0 x1 hne hq2
 have B3:Hid (Bx3 w3 w.heap.size v u):=B2.out.bl hw3
 have HW3:Hid (Bl _ w3):=HW.out.trans hw3
 clear hw3
 have c0:=(cell_blk (i:=0) B3.out.one).trans rfl
 have c1:=(cell_blk (i:=1) B3.out.one).trans rfl
 have r0:=(cell_blk (i:=0) B3.out.res).trans rfl
 have r1:=(cell_blk (i:=1) B3.out.res).trans rfl
 have rf:=free_blk B3.out.res
 go_wp2
 refine bodyPost_ret (results_cell_row rfl _ _ (w.heap.size+2) _ _ _ _ rfl (block_set (block_set B3.out.res _) _) Tryz.underlying243 rfl info_fv) rfl ?_
 exact ⟨rfl,((HB.out.trans HW3.out).setCell (by show _≤w.heap.size+2;omega) _).setCell (by show _≤w.heap.size+2;omega) _⟩
theorem both_j (cs:List Cl) (jb jo jc rb ro rc:Nat) (v u:Ty) (i j:Nat) (w:World) (hv:v.kind=3) (hu:u.kind=3) (hi:v.cls=i) (hj:u.cls=j) (hil:i<cs.length) (hjl:j<cs.length) (hcs:cs.length≤12)
  (h1:w.cell? ⟨jb,jo+i,none⟩=some (.slice (some ⟨rb,ro,none⟩) cs.length rc)) (h2:w.cell? ⟨rb,ro+j,none⟩=some (.int .i64 (joinN cs i j:Nat))) :
  Calls Tryz.prog 325 #[.slice (some ⟨jb,jo,none⟩) cs.length jc,fvV v,fvV u] w fun e w'=>e=.returned (fvV ⟨3,(joinN cs i j:Nat)⟩)∧Bl w w':=by
 have HB:Hid (Bl w (((w.alloc (fvO v)).alloc (fvO u)).alloc fvZ)):=(((Bl.refl w).alloc _).alloc _).alloc _
 have H3:Hid (Bx3 (((w.alloc (fvO v)).alloc (fvO u)).alloc fvZ) w.heap.size v u):=Bx3.new w v u
 have hv':(v.kind !=3)=false:=by simpa using hv
 have hu':(u.kind !=3)=false:=by simpa using hu
 have hq:∀w,_:=fun w=>eql_fv v.kind v.cls 3 (-1) w
 have hd:(decide (v.kind=3)&&decide (v.cls=-1))=false:=by simp [hv,hi]
 rw [hd] at hq
 have HQ2:Hid (∀w,_):=fun w=>eql_fv u.kind u.cls 3 (-1) w
 have hd2:(decide (u.kind=3)&&decide (u.cls=-1))=false:=by simp [hu,hj]
 rw [hd2] at HQ2
 have HI:Hid (v.cls=(i:Int)):=hi
 have HJ:Hid (u.cls=(j:Int)):=hj
 have H1:Hid (w.cell? ⟨jb,jo+i,none⟩=some (.slice (some ⟨rb,ro,none⟩) cs.length rc)):=h1
 have H2:Hid (w.cell? ⟨rb,ro+j,none⟩=some (.int .i64 (joinN cs i j:Nat))):=h2
 have HL:Hid (cs.length≤12):=hcs
 clear hv hi hd hu hj hd2 h1 h2 hcs
 generalize hn:cs.length=n at *
 generalize (joinN cs i j:Nat)=z at *
 go_enter Tryz.func325,Tryz.ntmps325
 go_wp2
 have x0:∀x:Fut (((w.alloc (fvO v)).alloc (fvO u)).alloc fvZ),x.to.cell? ⟨w.heap.size,0,none⟩=some (.int .i64 v.kind):=fut_cell ((cell_blk H3.out.one).trans rfl)
 have x1:∀x:Fut (((w.alloc (fvO v)).alloc (fvO u)).alloc fvZ),x.to.cell? ⟨w.heap.size,1,none⟩=some (.int .i64 v.cls):=fut_cell ((cell_blk H3.out.one).trans rfl)
 refine wp_region_fut (by kernel_rfl) (by kernel_rfl) fun hne=>?_
 repeat (go_big_quiet_step ((go_at_call 292;exact Calls.fut_eq _ (fnot_any _) rfl)))
 refine wpQuiet_nil ?_
 rintro W2 ⟨⟨w2,hw2⟩,hE⟩
 replace hE:w2=W2:=hE.symm
 subst hE
 clear x0 x1 hne hq
 have B2:Hid (Bx3 w2 w.heap.size v u):=H3.out.bl hw2
 have HW:Hid (Bl _ w2):=hw2
 clear hw2
 have hq2:=HQ2.out
 go_wp2
 have x0:∀x:Fut w2,x.to.cell? ⟨w.heap.size+1,0,none⟩=some (.int .i64 u.kind):=fut_cell ((cell_blk B2.out.two).trans rfl)
 have x1:∀x:Fut w2,x.to.cell? ⟨w.heap.size+1,1,none⟩=some (.int .i64 u.cls):=fut_cell ((cell_blk B2.out.two).trans rfl)
 refine wp_region_fut (by kernel_rfl) (by kernel_rfl) fun hne=>?_
 repeat (go_big_quiet_step ((go_at_call 292;exact Calls.fut_eq _ (fnot_any _) rfl)))
 refine wpQuiet_nil ?_
 rintro W3 ⟨⟨w3,hw3⟩,hE⟩
 replace hE:w3=W3:=hE.symm
 subst hE
 clear x0 x1 hne hq2
 have B3:Hid (Bx3 w3 w.heap.size v u):=B2.out.bl hw3
 have HW3:Hid (Bl _ w3):=HW.out.trans hw3
 clear hw3
 have c0:w3.cell? ⟨w.heap.size,1,none⟩=some (.int .i64 (i:Int)):=by rw [cell_blk B3.out.one,←HI.out];rfl
 have c1:w3.cell? ⟨w.heap.size+1,1,none⟩=some (.int .i64 (j:Int)):=by rw [cell_blk B3.out.two,←HJ.out];rfl
 have c2:=(HB.out.trans HW3.out).cell H1.out
 have c3:=(HB.out.trans HW3.out).cell H2.out
 have r0:=(cell_blk (i:=0) B3.out.res).trans rfl
 have r1:=(cell_blk (i:=1) B3.out.res).trans rfl
 have rf:=free_blk B3.out.res
 have n1:w.heap.size+2≠jb:=by have:=cell_lt H1.out;omega
 have n2:w.heap.size+2≠rb:=by have:=cell_lt H2.out;omega
 have n3:w.heap.size+2≠w.heap.size:=by omega
 have n4:w.heap.size+2≠w.heap.size+1:=by omega
 have hi0:(0:Int)≤(i:Int):=by omega
 have hi1:(i:Int)<(n:Int):=by omega
 have hj0:(0:Int)≤(j:Int):=by omega
 have hj1:(j:Int)<(n:Int):=by omega
 go_wp2
 go_region_held3 (fun w'=>w'.cell? ⟨w.heap.size,1,none⟩=some (.int .i64 (i:Int))∧w'.cell? ⟨w.heap.size+1,1,none⟩=some (.int .i64 (j:Int))∧w'.cell? ⟨jb,jo+i,none⟩=some (.slice (some ⟨rb,ro,none⟩) n rc)∧w'.cell? ⟨rb,ro+j,none⟩=some (.int .i64 (z:Int)))
  (go_keep)
  ((go_at_call 278;refine (fref_any _ _).mono ?_;rintro e w4 ⟨rfl,b4⟩;have B4:Hid (Bx3 w4 w.heap.size v u):=B3.out.bl ((Bl.refl w3).drew.trans b4);have HW4:Hid (Bl _ w4):=HW3.out.trans ((Bl.refl w3).drew.trans b4);have d0:=b4.cell c0;have d1:=b4.cell c1;have d2:=b4.cell c2;have d3:=b4.cell c3;have s0:=(cell_blk (i:=0) B4.out.res).trans rfl;have s1:=(cell_blk (i:=1) B4.out.res).trans rfl;have sf:=free_blk B4.out.res))
 go_wp2
 refine bodyPost_ret (results_cell_row rfl _ _ (w.heap.size+2) _ _ _ _ rfl (block_set (block_set B4.out.res _) _) Tryz.underlying243 rfl info_fv) rfl ?_
 exact ⟨rfl,((HB.out.trans HW4.out).setCell (by show _≤w.heap.size+2;omega) _).setCell (by show _≤w.heap.size+2;omega) _⟩
end Go.Proofs.YtgiiapenmjollabGreat
