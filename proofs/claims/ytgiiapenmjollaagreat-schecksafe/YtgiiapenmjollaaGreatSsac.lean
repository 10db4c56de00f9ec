import Derived.Test.YtgiiapenmjollaaGreatSsab
import Derived.BigQuiet
namespace Go.Proofs.YtgiiapenmjollaaGreat
set_option linter.all false
set_option maxHeartbeats 40000000
set_option maxRecDepth 100000
open Go.RowKit
structure As where
 slots:List Ty
 stk:List Ty
def losT (l:List Ty) (a:Nat):List Ty:=if (nth ty0 l a).kind=2 then l.set (a+1) ty0 else if (nth ty0 l a).kind=4 then l.set (a-1) ty0 else l
def wrT (l:List Ty) (a:Nat) (v:Ty):List Ty :=
 if v.kind=2 then (((losT (losT l a) (a+1)).set (a+1) ⟨4,0⟩).set a v) else (losT l a).set a v
theorem losT_length (l:List Ty) (a:Nat):(losT l a).length=l.length:=by unfold losT;split<;>(try split)<;>simp
theorem wrT_length (l:List Ty) (a:Nat) (v:Ty):(wrT l a v).length=l.length:=by unfold wrT;split<;>simp [losT_length]
def fitB (cs:List Cl) (v t:Ty):Bool:=decide (v.kind=t.kind)&&(decide (t.kind≠3)||(decide (v.cls=-1)||decide (joinN cs v.cls.toNat t.cls.toNat=t.cls.toNat)))
structure FitV (h:Hp) (t:Ty) (v:Va):Prop where
 one:t.kind=1→v.kind=1
 two:t.kind=2→v.kind=2
 ref:t.kind=3→v.kind=3∧(0≤v.n→v.n<h.objs.length∧belI h.file.classes (h.obj v.n).cls t.cls=true)
 sec:t.kind=4→v.kind=9
structure Ext (h h':Hp):Prop where
 file:h'.file=h.file
 len:h.objs.length≤h'.objs.length
 cls:∀n,n<h.objs.length→(nth ob0 h'.objs n).cls=(nth ob0 h.objs n).cls
theorem Ext.refl (h:Hp):Ext h h:=⟨rfl,Nat.le_refl _,fun _ _=>rfl⟩
theorem Ext.trans {a b c:Hp} (x:Ext a b) (y:Ext b c):Ext a c:=⟨y.file.trans x.file,Nat.le_trans x.len y.len,fun n hn=>(y.cls n (Nat.lt_of_lt_of_le hn x.len)).trans (x.cls n hn)⟩
theorem FitV.ext {h h':Hp} {t:Ty} {v:Va} (g:FitV h t v) (e:Ext h h'):FitV h' t v:=by
 refine ⟨g.one,g.two,fun hk=>⟨(g.ref hk).1,fun hn=>?_⟩,g.sec⟩
 obtain ⟨h1,h2⟩:=(g.ref hk).2 hn
 have hl:v.n.toNat<h.objs.length:=by omega
 have e1:(h'.obj v.n).cls=(h.obj v.n).cls:=e.cls _ hl
 refine ⟨by have:=e.len;omega,?_⟩
 rw [e.file,e1];exact h2
theorem Ext.same {h h':Hp} (e1:h'.file=h.file) (e2:h'.objs=h.objs):Ext h h':=⟨e1,by rw [e2];exact Nat.le_refl _,fun n _=>by rw [e2]⟩
def PairK (s:Int) (k:Nat→Int) (n:Nat):Prop:=(∀i,i<n→k i=2→i+1<n∧k (i+1)=s)∧(∀i,i<n→k i=s→1≤i∧k (i-1)=2)
def PairT (l:List Ty):Prop:=PairK 4 (fun i=>(nth ty0 l i).kind) l.length
def PairV (l:List Va):Prop:=PairK 9 (fun i=>(nth va0 l i).kind) l.length
def FitL (h:Hp) (ts:List Ty) (vs:List Va):Prop:=ts.length=vs.length∧∀j,j<ts.length→FitV h (nth ty0 ts j) (nth va0 vs j)
theorem FitL.ext {h h':Hp} {ts:List Ty} {vs:List Va} (g:FitL h ts vs) (e:Ext h h'):FitL h' ts vs:=⟨g.1,fun j hj=>(g.2 j hj).ext e⟩
theorem FitL.nil (h:Hp):FitL h [] []:=⟨rfl,fun j hj=>absurd hj (by simp)⟩
theorem nth_app_l {α:Type} {d:α} {a b:List α} {i:Nat} (hi:i<a.length):nth d (a++b) i=nth d a i:=by simp [nth,List.getD,List.getElem?_append_left hi]
theorem nth_app_r {α:Type} {d:α} {a b:List α} {i:Nat} (hi:a.length≤i):nth d (a++b) i=nth d b (i-a.length):=by simp [nth,List.getD,List.getElem?_append_right hi]
theorem nth_one {α:Type} {d x:α} {a:List α}:nth d (a++[x]) a.length=x:=by rw [nth_app_r (Nat.le_refl _)];simp [nth]
theorem FitL.snoc {h:Hp} {ts:List Ty} {vs:List Va} {t:Ty} {v:Va} (g:FitL h ts vs) (hv:FitV h t v):FitL h (ts++[t]) (vs++[v]):=by
 refine ⟨by simp [g.1],fun j hj=>?_⟩
 rw [List.length_append,List.length_singleton] at hj
 by_cases hx:j<ts.length
 ·rw [nth_app_l hx,nth_app_l (by rw [←g.1];exact hx)];exact g.2 j hx
 ·obtain rfl:j=ts.length:=by omega
  rw [nth_one,g.1,nth_one];exact hv
theorem FitL.last {h:Hp} {ts:List Ty} {vs:List Va} {t:Ty} (g:FitL h (ts++[t]) vs):∃us v,vs=us++[v]∧FitL h ts us∧FitV h t v:=by
 have hl:vs.length=ts.length+1:=by have:=g.1;simp at this;omega
 obtain ⟨us,v,rfl⟩:∃us v,vs=us++[v]:=⟨vs.dropLast,vs.getLast (fun e=>by rw [e] at hl;simp at hl),(List.dropLast_concat_getLast _).symm⟩
 have hu:us.length=ts.length:=by simp at hl;omega
 refine ⟨us,v,rfl,⟨hu.symm,fun j hj=>?_⟩,?_⟩
 ·have:=g.2 j (by simp;omega)
  rw [nth_app_l hj,nth_app_l (by omega)] at this;exact this
 ·have:=g.2 ts.length (by simp)
  rw [nth_one,←hu,nth_one] at this;exact this
theorem nth_setI {α:Type} {d:α} {l:List α} {n i:Nat} {x:α} (h:n<l.length):nth d (l.set n x) i=if n=i then x else nth d l i:=by
 by_cases e:n=i
 ·subst e;rw [nth_set_eq h,if_pos rfl]
 ·rw [nth_set_ne e,if_neg e]
theorem joinN_bel {l:List Cl} (ht:Tree l) {c d:Nat} (hc:c<l.length) (hd:d<l.length) (h:joinN l c d=d):belN l c d=true:=by
 have:=join_there ht c d hc hd
 rw [h] at this
 exact bel_iff.2 this.1
theorem bel_trans {l:List Cl} (ht:Tree l) {c d e:Nat} (hc:c<l.length) (h1:belN l c d=true) (h2:belN l d e=true):belN l c e=true:=by
 rw [bel_iff] at *
 exact ((ups_mid ht c hc h1).1 h2).1
theorem belI_trans {l:List Cl} (ht:Tree l) {c:Int} {d e:Nat} (hd:d<l.length) (he:e<l.length) (h1:belI l c d=true) (h2:belN l d e=true):belI l c e=true:=by
 unfold belI clsI at *
 rw [Bool.and_eq_true,decide_eq_true_eq] at *
 refine ⟨by omega,?_⟩
 have:=h1.2
 rw [Int.toNat_natCast] at *
 exact bel_trans ht (by omega) this h2
def refOk (n:Nat) (t:Ty):Prop:=t.kind=3→t.cls=-1∨(0≤t.cls∧t.cls<n)
theorem fit_of {h:Hp} (ht:Tree h.file.classes) {v t:Ty} {x:Va} (g:FitV h v x) (hr:refOk h.file.classes.length v) (hty:tyB h.file.classes.length t=true) (hf:fitB h.file.classes v t=true):FitV h t x:=by
 unfold fitB at hf
 rw [Bool.and_eq_true,decide_eq_true_eq] at hf
 obtain ⟨hk,hf⟩:=hf
 have hty:=of_decide_eq_true hty
 refine ⟨fun e=>g.one (hk.trans e),fun e=>g.two (hk.trans e),fun e=>?_,fun e=>by omega⟩
 obtain ⟨h1,h2⟩:=g.ref (hk.trans e)
 refine ⟨h1,fun hn=>?_⟩
 obtain ⟨h3,h4⟩:=h2 hn
 refine ⟨h3,?_⟩
 have hv:=hr (hk.trans e)
 rcases hv with hv|hv
 ·exfalso
  unfold belI clsI at h4
  rw [Bool.and_eq_true,decide_eq_true_eq] at h4
  omega
 ·have hj:joinN h.file.classes v.cls.toNat t.cls.toNat=t.cls.toNat:=by
   simp at hf
   rcases hf with hf|hf|hf
   ·omega
   ·omega
   ·exact hf
  obtain ⟨c,hc⟩:∃c:Nat,v.cls=c:=⟨v.cls.toNat,by omega⟩
  obtain ⟨d,hd⟩:∃d:Nat,t.cls=d:=⟨t.cls.toNat,by omega⟩
  rw [hc] at h4
  rw [hc,hd,Int.toNat_natCast,Int.toNat_natCast] at hj
  rw [hd]
  exact belI_trans ht (by omega) (by omega) h4 (joinN_bel ht (by omega) (by omega) hj)
theorem FitV.of {h:Hp} {t:Ty} {x:Va} (g:FitV h t x) (hty:tyB h.file.classes.length t=true):h.of x t=true:=by
 have hty:=of_decide_eq_true hty
 unfold Hp.of
 by_cases h3:t.kind=3
 ·obtain ⟨h1,h2⟩:=g.ref h3
  by_cases hn:x.n<0
  ·simp [h1,h3,hn]
  ·have:=(h2 (by omega)).2
   simp [h1,h3,this]
 ·have:x.kind=t.kind:=by
   rcases hty with hty|⟨h1|h1,-⟩
   ·omega
   ·rw [g.one h1,h1]
   ·rw [g.two h1,h1]
  simp [this,h3]
def leT (cs:List Cl) (x u:Ty):Prop:=u.kind=0∨x=u∨(x.kind=3∧u.kind=3∧(x.cls=-1∨(0≤x.cls∧x.cls<cs.length∧0≤u.cls∧u.cls<cs.length∧belN cs x.cls.toNat u.cls.toNat=true)))
theorem leT.refl (cs:List Cl) (x:Ty):leT cs x x:=Or.inr (Or.inl rfl)
theorem leT.trans {cs:List Cl} (ht:Tree cs) {a b c:Ty} (h:leT cs a b) (k:leT cs b c):leT cs a c:=by
 rcases k with k|rfl|⟨k1,k2,k3⟩
 ·exact Or.inl k
 ·exact h
 ·rcases h with h|rfl|⟨h1,h2,h3⟩
  ·omega
  ·exact Or.inr (Or.inr ⟨k1,k2,k3⟩)
  ·refine Or.inr (Or.inr ⟨h1,k2,?_⟩)
   rcases h3 with h3|h3
   ·exact Or.inl h3
   ·rcases k3 with k3|k3
    ·omega
    ·exact Or.inr ⟨h3.1,h3.2.1,k3.2.2.1,k3.2.2.2.1,bel_trans ht (by omega) h3.2.2.2.2 k3.2.2.2.2⟩
theorem leT.fit {h:Hp} (ht:Tree h.file.classes) {x u:Ty} {v:Va} (l:leT h.file.classes x u) (g:FitV h x v):FitV h u v:=by
 rcases l with l|rfl|⟨l1,l2,l3⟩
 ·exact ⟨fun e=>by omega,fun e=>by omega,fun e=>by omega,fun e=>by omega⟩
 ·exact g
 ·refine ⟨fun e=>by omega,fun e=>by omega,fun _=>?_,fun e=>by omega⟩
  obtain ⟨h1,h2⟩:=g.ref l1
  refine ⟨h1,fun hn=>?_⟩
  obtain ⟨h3,h4⟩:=h2 hn
  refine ⟨h3,?_⟩
  rcases l3 with l3|⟨a1,a2,a3,a4,a5⟩
  ·exfalso
   unfold belI clsI at h4
   rw [Bool.and_eq_true,decide_eq_true_eq] at h4
   omega
  ·obtain ⟨c,hc⟩:∃c:Nat,x.cls=c:=⟨x.cls.toNat,by omega⟩
   obtain ⟨d,hd⟩:∃d:Nat,u.cls=d:=⟨u.cls.toNat,by omega⟩
   rw [hc] at h4 a5
   rw [hd] at a5 ⊢
   rw [Int.toNat_natCast,Int.toNat_natCast] at a5
   exact belI_trans ht (by omega) (by omega) h4 a5
def leL (cs:List Cl) (a b:List Ty):Prop:=a.length=b.length∧∀j,j<a.length→leT cs (nth ty0 a j) (nth ty0 b j)
theorem leL.refl (cs:List Cl) (a:List Ty):leL cs a a:=⟨rfl,fun j _=>leT.refl cs _⟩
theorem leL.trans {cs:List Cl} (ht:Tree cs) {a b c:List Ty} (h:leL cs a b) (k:leL cs b c):leL cs a c:=⟨h.1.trans k.1,fun j hj=>(h.2 j hj).trans ht (k.2 j (by rw [←h.1];exact hj))⟩
theorem leL.fit {h:Hp} (ht:Tree h.file.classes) {a b:List Ty} {vs:List Va} (l:leL h.file.classes a b) (g:FitL h a vs):FitL h b vs:=⟨l.1.symm.trans g.1,fun j hj=>(l.2 j (by rw [l.1];exact hj)).fit ht (g.2 j (by rw [l.1];exact hj))⟩
def leA (cs:List Cl) (a b:As):Prop:=leL cs a.slots b.slots∧leL cs a.stk b.stk
theorem leA.refl (cs:List Cl) (a:As):leA cs a a:=⟨leL.refl cs _,leL.refl cs _⟩
theorem leA.trans {cs:List Cl} (ht:Tree cs) {a b c:As} (h:leA cs a b) (k:leA cs b c):leA cs a c:=⟨h.1.trans ht k.1,h.2.trans ht k.2⟩
theorem FitV.any (h:Hp) (v:Va):FitV h ty0 v:=⟨fun e=>absurd e (by decide),fun e=>absurd e (by decide),fun e=>absurd e (by decide),fun e=>absurd e (by decide)⟩
theorem losP_nth (l:List Va) (a i:Nat) (ha:a<l.length) (P:PairV l):nth va0 (losP l a) i=if i=a then va0 else if ((nth va0 l a).kind=9∧i+1=a)∨((nth va0 l a).kind=2∧i=a+1) then va0 else nth va0 l i:=by
 unfold losP
 by_cases h9:(nth va0 l a).kind=9
 ·have:=P.2 a ha h9
  rw [if_pos h9,nth_setI (by simp;exact ha)]
  by_cases e:a=i
  ·rw [if_pos e,if_pos e.symm]
  ·rw [if_neg e,if_neg (fun x=>e x.symm),nth_setI (by omega)]
   by_cases e2:a-1=i
   ·rw [if_pos e2,if_pos (Or.inl ⟨h9,by omega⟩)]
   ·rw [if_neg e2,if_neg (by omega)]
 ·rw [if_neg h9]
  by_cases h2:(nth va0 l a).kind=2
  ·have:=P.1 a ha h2
   rw [if_pos h2,nth_setI (by simp;exact ha)]
   by_cases e:a=i
   ·rw [if_pos e,if_pos e.symm]
   ·rw [if_neg e,if_neg (fun x=>e x.symm),nth_setI (by omega)]
    by_cases e2:a+1=i
    ·rw [if_pos e2,if_pos (Or.inr ⟨h2,by omega⟩)]
    ·rw [if_neg e2,if_neg (by omega)]
  ·rw [if_neg h2,nth_setI ha]
   by_cases e:a=i
   ·rw [if_pos e,if_pos e.symm]
   ·rw [if_neg e,if_neg (fun x=>e x.symm),if_neg (by omega)]
theorem losT_nth (l:List Ty) (a i:Nat) (ha:a<l.length) (P:PairT l):nth ty0 (losT l a) i=if ((nth ty0 l a).kind=4∧i+1=a)∨((nth ty0 l a).kind=2∧i=a+1) then ty0 else nth ty0 l i:=by
 unfold losT
 by_cases h2:(nth ty0 l a).kind=2
 ·have:=P.1 a ha h2
  rw [if_pos h2,nth_setI (by omega)]
  by_cases e:a+1=i
  ·rw [if_pos e,if_pos (Or.inr ⟨h2,by omega⟩)]
  ·rw [if_neg e,if_neg (by omega)]
 ·rw [if_neg h2]
  by_cases h4:(nth ty0 l a).kind=4
  ·have:=P.2 a ha h4
   rw [if_pos h4,nth_setI (by omega)]
   by_cases e:a-1=i
   ·rw [if_pos e,if_pos (Or.inl ⟨h4,by omega⟩)]
   ·rw [if_neg e,if_neg (by omega)]
  ·rw [if_neg h4,if_neg (by omega)]
theorem va0_kind:va0.kind=0:=rfl
theorem ty0_kind:ty0.kind=0:=rfl
theorem losP_pair {l:List Va} {a:Nat} (ha:a<l.length) (P:PairV l):PairV (losP l a):=by
 have e:=fun i=>losP_nth l a i ha P
 refine ⟨fun i hi hk=>?_,fun i hi hk=>?_⟩
 ·rw [losP_length] at hi ⊢
  have hk:(nth va0 (losP l a) i).kind=2:=hk
  show i+1<l.length∧(nth va0 (losP l a) (i+1)).kind=9
  rw [e] at hk ⊢
  by_cases h1:i=a
  ·rw [if_pos h1,va0_kind] at hk;omega
  rw [if_neg h1] at hk
  by_cases h2:((nth va0 l a).kind=9∧i+1=a)∨((nth va0 l a).kind=2∧i=a+1)
  ·rw [if_pos h2,va0_kind] at hk;omega
  rw [if_neg h2] at hk
  have:=P.1 i hi hk
  refine ⟨this.1,?_⟩
  have h9:(nth va0 l (i+1)).kind=9:=this.2
  by_cases h3:i+1=a
  ·subst h3;exact absurd (Or.inl ⟨h9,rfl⟩) h2
  rw [if_neg h3]
  by_cases h4:((nth va0 l a).kind=9∧i+1+1=a)∨((nth va0 l a).kind=2∧i+1=a+1)
  ·exfalso
   rcases h4 with ⟨h4,h5⟩|⟨h4,h5⟩
   ·subst h5
    have:=(P.2 (i+1+1) ha h4).2
    have h6:(nth va0 l (i+1)).kind=2:=this
    omega
   ·omega
  rw [if_neg h4];exact h9
 ·rw [losP_length] at hi
  have hk:(nth va0 (losP l a) i).kind=9:=hk
  show 1≤i∧(nth va0 (losP l a) (i-1)).kind=2
  rw [e] at hk ⊢
  by_cases h1:i=a
  ·rw [if_pos h1,va0_kind] at hk;omega
  rw [if_neg h1] at hk
  by_cases h2:((nth va0 l a).kind=9∧i+1=a)∨((nth va0 l a).kind=2∧i=a+1)
  ·rw [if_pos h2,va0_kind] at hk;omega
  rw [if_neg h2] at hk
  have:=P.2 i hi hk
  have h22:(nth va0 l (i-1)).kind=2:=this.2
  refine ⟨this.1,?_⟩
  by_cases h3:i-1=a
  ·subst h3;exact absurd (Or.inr ⟨h22,by omega⟩) h2
  rw [if_neg h3]
  by_cases h4:((nth va0 l a).kind=9∧i-1+1=a)∨((nth va0 l a).kind=2∧i-1=a+1)
  ·exfalso
   rcases h4 with ⟨h4,h5⟩|⟨h4,h5⟩
   ·omega
   ·have:=(P.1 a ha h4).2
    have h6:(nth va0 l (a+1)).kind=9:=this
    rw [←h5] at h6;omega
  rw [if_neg h4];exact h22
theorem losT_nth2 (l:List Ty) (a i:Nat) (ha:a<l.length) (P:PairT l) (hi:i≠a):nth ty0 (losT l a) i=ty0∨nth ty0 (losT l a) i=nth ty0 l i:=by
 rw [losT_nth l a i ha P];split
 ·exact Or.inl rfl
 ·exact Or.inr rfl
theorem los_fit {h:Hp} {ts:List Ty} {vs:List Va} {a:Nat} (g:FitL h ts vs) (ha:a<ts.length) (T:PairT ts) (P:PairV vs) (j:Nat) (hj:j<ts.length) (hja:j≠a):FitV h (nth ty0 (losT ts a) j) (nth va0 (losP vs a) j):=by
 have hl:=g.1
 rw [losT_nth ts a j ha T,losP_nth vs a j (by omega) P,if_neg hja]
 by_cases h1:((nth ty0 ts a).kind=4∧j+1=a)∨((nth ty0 ts a).kind=2∧j=a+1)
 ·rw [if_pos h1];exact FitV.any h _
 rw [if_neg h1]
 by_cases h2:((nth va0 vs a).kind=9∧j+1=a)∨((nth va0 vs a).kind=2∧j=a+1)
 ·rw [if_pos h2]
  have gj:=g.2 j hj
  rcases h2 with ⟨h2,h3⟩|⟨h2,h3⟩
  ·-- the long's first slot is lost
   have hv:(nth va0 vs j).kind=2:=by have:=(P.2 a (by omega) h2).2;rw [show j=a-1 by omega];exact this
   have k1:(nth ty0 ts j).kind≠1:=fun e=>by have:=gj.one e;omega
   have k2:(nth ty0 ts j).kind≠2:=fun e=>by
    have:=(T.1 j hj e).2
    have h4:(nth ty0 ts (j+1)).kind=4:=this
    rw [h3] at h4
    exact h1 (Or.inl ⟨h4,h3⟩)
   have k3:(nth ty0 ts j).kind≠3:=fun e=>by have:=(gj.ref e).1;omega
   have k4:(nth ty0 ts j).kind≠4:=fun e=>by have:=gj.sec e;omega
   exact ⟨fun e=>absurd e k1,fun e=>absurd e k2,fun e=>absurd e k3,fun e=>absurd e k4⟩
  ·have hv:(nth va0 vs j).kind=9:=by have:=(P.1 a (by omega) h2).2;rw [h3];exact this
   have k1:(nth ty0 ts j).kind≠1:=fun e=>by have:=gj.one e;omega
   have k2:(nth ty0 ts j).kind≠2:=fun e=>by have:=gj.two e;omega
   have k3:(nth ty0 ts j).kind≠3:=fun e=>by have:=(gj.ref e).1;omega
   have k4:(nth ty0 ts j).kind≠4:=fun e=>by
    have:=(T.2 j hj e).2
    have h4:(nth ty0 ts (j-1)).kind=2:=this
    rw [show j-1=a by omega] at h4
    exact h1 (Or.inr ⟨h4,h3⟩)
   exact ⟨fun e=>absurd e k1,fun e=>absurd e k2,fun e=>absurd e k3,fun e=>absurd e k4⟩
 ·rw [if_neg h2];exact g.2 j hj
theorem losT_pair {l:List Ty} {a:Nat} (ha:a<l.length) (P:PairT l):PairT ((losT l a).set a ty0):=by
 have e:∀i,nth ty0 ((losT l a).set a ty0) i=if a=i then ty0 else nth ty0 (losT l a) i:=fun i=>nth_setI (by rw [losT_length];exact ha)
 have e':=fun i=>losT_nth l a i ha P
 refine ⟨fun i hi hk=>?_,fun i hi hk=>?_⟩
 ·rw [List.length_set,losT_length] at hi ⊢
  have hk:(nth ty0 ((losT l a).set a ty0) i).kind=2:=hk
  show i+1<l.length∧(nth ty0 ((losT l a).set a ty0) (i+1)).kind=4
  rw [e] at hk ⊢
  by_cases h1:a=i
  ·rw [if_pos h1,ty0_kind] at hk;omega
  rw [if_neg h1,e'] at hk
  by_cases h2:((nth ty0 l a).kind=4∧i+1=a)∨((nth ty0 l a).kind=2∧i=a+1)
  ·rw [if_pos h2,ty0_kind] at hk;omega
  rw [if_neg h2] at hk
  have:=P.1 i hi hk
  refine ⟨this.1,?_⟩
  have h9:(nth ty0 l (i+1)).kind=4:=this.2
  by_cases h3:a=i+1
  ·subst h3;exact absurd (Or.inl ⟨h9,rfl⟩) h2
  rw [if_neg h3,e']
  by_cases h4:((nth ty0 l a).kind=4∧i+1+1=a)∨((nth ty0 l a).kind=2∧i+1=a+1)
  ·exfalso
   rcases h4 with ⟨h4,h5⟩|⟨h4,h5⟩
   ·subst h5
    have:=(P.2 (i+1+1) ha h4).2
    have h6:(nth ty0 l (i+1)).kind=2:=this
    omega
   ·omega
  rw [if_neg h4];exact h9
 ·rw [List.length_set,losT_length] at hi
  have hk:(nth ty0 ((losT l a).set a ty0) i).kind=4:=hk
  show 1≤i∧(nth ty0 ((losT l a).set a ty0) (i-1)).kind=2
  rw [e] at hk ⊢
  by_cases h1:a=i
  ·rw [if_pos h1,ty0_kind] at hk;omega
  rw [if_neg h1,e'] at hk
  by_cases h2:((nth ty0 l a).kind=4∧i+1=a)∨((nth ty0 l a).kind=2∧i=a+1)
  ·rw [if_pos h2,ty0_kind] at hk;omega
  rw [if_neg h2] at hk
  have:=P.2 i hi hk
  have h22:(nth ty0 l (i-1)).kind=2:=this.2
  refine ⟨this.1,?_⟩
  by_cases h3:a=i-1
  ·subst h3;exact absurd (Or.inr ⟨h22,by omega⟩) h2
  rw [if_neg h3,e']
  by_cases h4:((nth ty0 l a).kind=4∧i-1+1=a)∨((nth ty0 l a).kind=2∧i-1=a+1)
  ·exfalso
   rcases h4 with ⟨h4,h5⟩|⟨h4,h5⟩
   ·omega
   ·have:=(P.1 a ha h4).2
    have h6:(nth ty0 l (a+1)).kind=4:=this
    rw [←h5] at h6;omega
  rw [if_neg h4];exact h22
theorem losT_two (l:List Ty) (a:Nat) (ha:a+1<l.length) (P:PairT l) (i:Nat) (hi:i≠a):nth ty0 (losT (losT l a) (a+1)) i=nth ty0 (losT ((losT l a).set a ty0) (a+1)) i:=by
 have e:∀i,nth ty0 ((losT l a).set a ty0) i=if a=i then ty0 else nth ty0 (losT l a) i:=fun i=>nth_setI (by rw [losT_length];omega)
 have e1:nth ty0 ((losT l a).set a ty0) (a+1)=nth ty0 (losT l a) (a+1):=by rw [e,if_neg (by omega)]
 unfold losT
 rw [show (if (nth ty0 l a).kind=2 then l.set (a+1) ty0 else if (nth ty0 l a).kind=4 then l.set (a-1) ty0 else l)=losT l a from rfl]
 rw [e1]
 split
 ·by_cases h:a+2<l.length
  ·rw [nth_setI (by rw [losT_length];exact h),nth_setI (by simp [losT_length];exact h),e,if_neg (c:=a=i) (fun x=>hi x.symm)]
  ·rw [List.set_eq_of_length_le (by rw [losT_length];omega),List.set_eq_of_length_le (by simp [losT_length];omega),e,if_neg (fun x=>hi x.symm)]
 ·split
  ·rw [nth_setI (by rw [losT_length];omega),nth_setI (by simp [losT_length];omega),e,if_neg (c:=a=i) (fun x=>hi x.symm)]
  ·rw [e,if_neg (fun x=>hi x.symm)]
theorem sto_fit {h:Hp} {ts:List Ty} {vs:List Va} {a:Nat} {t:Ty} {v:Va} (g:FitL h ts vs) (T:PairT ts) (P:PairV vs) (ha:a<ts.length) (ha2:t.kind=2→a+1<ts.length) (hk:v.kind=t.kind) (ht:t.kind≠4) (hv9:v.kind≠9) (hv:FitV h t v):FitL h (wrT ts a t) (stoP vs a v):=by
 have hl:=g.1
 refine ⟨by rw [wrT_length,stoP_length];exact hl,fun j hj=>?_⟩
 rw [wrT_length] at hj
 unfold wrT stoP
 by_cases h2:t.kind=2
 ·rw [if_pos h2,if_pos (hk.trans h2)]
  have ha2:=ha2 h2
  rw [nth_setI (d:=ty0) (by rw [List.length_set,losT_length,losT_length];exact ha),nth_setI (d:=va0) (by rw [List.length_set,losP_length,losP_length];omega)]
  by_cases e:a=j
  ·rw [if_pos e,if_pos e];exact hv
  rw [if_neg e,if_neg e,nth_setI (d:=ty0) (by rw [losT_length,losT_length];exact ha2),nth_setI (d:=va0) (by rw [losP_length,losP_length];omega)]
  by_cases e2:a+1=j
  ·rw [if_pos e2,if_pos e2];exact ⟨fun x=>absurd x (by decide),fun x=>absurd x (by decide),fun x=>absurd x (by decide),fun _=>rfl⟩
  rw [if_neg e2,if_neg e2,losT_two ts a ha2 T j (fun x=>e x.symm)]
  have gset:FitL h ((losT ts a).set a ty0) (losP vs a):=by
   refine ⟨by rw [List.length_set,losT_length,losP_length];exact hl,fun i hi=>?_⟩
   rw [List.length_set,losT_length] at hi
   rw [nth_setI (by rw [losT_length];exact ha)]
   by_cases ei:a=i
   ·rw [if_pos ei];exact FitV.any h _
   ·rw [if_neg ei];exact los_fit g ha T P i hi (fun x=>ei x.symm)
  exact los_fit gset (by rw [List.length_set,losT_length];exact ha2) (losT_pair ha T) (losP_pair (by omega) P) j (by rw [List.length_set,losT_length];exact hj) (fun x=>e2 x.symm)
 ·rw [if_neg h2,if_neg (by omega),nth_setI (d:=ty0) (by rw [losT_length];exact ha),nth_setI (d:=va0) (by rw [losP_length];omega)]
  by_cases e:a=j
  ·rw [if_pos e,if_pos e];exact hv
  ·rw [if_neg e,if_neg e];exact los_fit g ha T P j hj (fun x=>e x.symm)
theorem stoP_pair {l:List Va} {a:Nat} {v:Va} (P:PairV l) (ha:a<l.length) (ha2:v.kind=2→a+1<l.length) (hv:v.kind≠9):PairV (stoP l a v):=by
 unfold stoP
 by_cases h2:v.kind=2
 ·rw [if_pos h2]
  have ha2:=ha2 h2
  have P1:=losP_pair ha P
  have P2:=losP_pair (a:=a+1) (by rw [losP_length];exact ha2) P1
  have e0:nth va0 (losP (losP l a) (a+1)) a=va0:=by
   rw [losP_nth _ _ _ (by rw [losP_length];exact ha2) P1,if_neg (by omega)]
   split
   ·rfl
   ·rw [losP_nth _ _ _ ha P,if_pos rfl]
  have e1:nth va0 (losP (losP l a) (a+1)) (a+1)=va0:=by rw [losP_nth _ _ _ (by rw [losP_length];exact ha2) P1,if_pos rfl]
  have hl:(losP (losP l a) (a+1)).length=l.length:=by rw [losP_length,losP_length]
  generalize losP (losP l a) (a+1)=q at *
  have e:∀i,nth va0 ((q.set (a+1) ⟨9,0⟩).set a v) i=if a=i then v else if a+1=i then ⟨9,0⟩ else nth va0 q i:=fun i=>by
   rw [nth_setI (by rw [List.length_set];omega),nth_setI (by omega)]
  refine ⟨fun i hi hk=>?_,fun i hi hk=>?_⟩
  ·have hk:(nth va0 ((q.set (a+1) ⟨9,0⟩).set a v) i).kind=2:=hk
   show i+1<_∧(nth va0 ((q.set (a+1) ⟨9,0⟩).set a v) (i+1)).kind=9
   rw [List.length_set,List.length_set] at hi ⊢
   rw [e] at hk ⊢
   by_cases x1:a=i
   ·subst x1
    rw [if_neg (by omega),if_pos rfl]
    exact ⟨by omega,rfl⟩
   rw [if_neg x1] at hk
   by_cases x2:a+1=i
   ·rw [if_pos x2] at hk;exact absurd hk (by decide)
   rw [if_neg x2] at hk
   have:=P2.1 i hi hk
   have h9:(nth va0 q (i+1)).kind=9:=this.2
   refine ⟨this.1,?_⟩
   have n1:a≠i+1:=fun x=>by rw [←x,e0] at h9;exact absurd h9 (by decide)
   have n2:a+1≠i+1:=by omega
   rw [if_neg n1,if_neg n2];exact h9
  ·have hk:(nth va0 ((q.set (a+1) ⟨9,0⟩).set a v) i).kind=9:=hk
   show 1≤i∧(nth va0 ((q.set (a+1) ⟨9,0⟩).set a v) (i-1)).kind=2
   rw [List.length_set,List.length_set] at hi
   rw [e] at hk ⊢
   by_cases x1:a=i
   ·rw [if_pos x1] at hk;exact absurd hk hv
   rw [if_neg x1] at hk
   by_cases x2:a+1=i
   ·rw [if_pos (by omega)];exact ⟨by omega,h2⟩
   rw [if_neg x2] at hk
   have:=P2.2 i hi hk
   have h9:(nth va0 q (i-1)).kind=2:=this.2
   refine ⟨this.1,?_⟩
   have n1:a≠i-1:=fun x=>by rw [←x,e0] at h9;exact absurd h9 (by decide)
   have n2:a+1≠i-1:=fun x=>by rw [←x,e1] at h9;exact absurd h9 (by decide)
   rw [if_neg n1,if_neg n2];exact h9
 ·rw [if_neg h2]
  have P1:=losP_pair ha P
  have e0:nth va0 (losP l a) a=va0:=by rw [losP_nth _ _ _ ha P,if_pos rfl]
  have hl:(losP l a).length=l.length:=losP_length l a
  generalize losP l a=q at *
  have e:∀i,nth va0 (q.set a v) i=if a=i then v else nth va0 q i:=fun i=>nth_setI (by omega)
  refine ⟨fun i hi hk=>?_,fun i hi hk=>?_⟩
  ·have hk:(nth va0 (q.set a v) i).kind=2:=hk
   show i+1<_∧(nth va0 (q.set a v) (i+1)).kind=9
   rw [List.length_set] at hi ⊢
   rw [e] at hk ⊢
   by_cases x1:a=i
   ·rw [if_pos x1] at hk;exact absurd hk h2
   rw [if_neg x1] at hk
   have:=P1.1 i hi hk
   have h9:(nth va0 q (i+1)).kind=9:=this.2
   refine ⟨this.1,?_⟩
   have n1:a≠i+1:=fun x=>by rw [←x,e0] at h9;exact absurd h9 (by decide)
   rw [if_neg n1];exact h9
  ·have hk:(nth va0 (q.set a v) i).kind=9:=hk
   show 1≤i∧(nth va0 (q.set a v) (i-1)).kind=2
   rw [List.length_set] at hi
   rw [e] at hk ⊢
   by_cases x1:a=i
   ·rw [if_pos x1] at hk;exact absurd hk hv
   rw [if_neg x1] at hk
   have:=P1.2 i hi hk
   have h9:(nth va0 q (i-1)).kind=2:=this.2
   refine ⟨this.1,?_⟩
   have n1:a≠i-1:=fun x=>by rw [←x,e0] at h9;exact absurd h9 (by decide)
   rw [if_neg n1];exact h9
theorem wrT_pair {l:List Ty} {a:Nat} {v:Ty} (P:PairT l) (ha:a<l.length) (ha2:v.kind=2→a+1<l.length) (hv:v.kind≠4):PairT (wrT l a v):=by
 have P1:=losT_pair ha P
 have hset:∀i,nth ty0 ((losT l a).set a ty0) i=if a=i then ty0 else nth ty0 (losT l a) i:=fun i=>nth_setI (by rw [losT_length];exact ha)
 by_cases h2:v.kind=2
 ·have ha2:=ha2 h2
  have hl1:((losT l a).set a ty0).length=l.length:=by rw [List.length_set,losT_length]
  have P2:=losT_pair (a:=a+1) (by rw [hl1];exact ha2) P1
  have hlw:=wrT_length l a v
  have e:∀i,nth ty0 (wrT l a v) i=if a=i then v else if a+1=i then ⟨4,0⟩ else nth ty0 ((losT ((losT l a).set a ty0) (a+1)).set (a+1) ty0) i:=fun i=>by
   unfold wrT
   rw [if_pos h2,nth_setI (by rw [List.length_set,losT_length,losT_length];exact ha),nth_setI (l:=losT (losT l a) (a+1)) (by rw [losT_length,losT_length];exact ha2)]
   by_cases x1:a=i
   ·rw [if_pos x1,if_pos x1]
   rw [if_neg x1,if_neg x1]
   by_cases x2:a+1=i
   ·rw [if_pos x2,if_pos x2]
   rw [if_neg x2,if_neg x2,nth_set_ne x2,losT_two l a ha2 P i (fun x=>x1 x.symm)]
  have e0:nth ty0 ((losT ((losT l a).set a ty0) (a+1)).set (a+1) ty0) a=ty0:=by
   rw [nth_set_ne (by omega),losT_nth _ _ _ (by rw [hl1];exact ha2) P1]
   split
   ·rfl
   ·rw [hset,if_pos rfl]
  have e1:nth ty0 ((losT ((losT l a).set a ty0) (a+1)).set (a+1) ty0) (a+1)=ty0:=nth_set_eq (by rw [losT_length,hl1];exact ha2)
  have hl2:((losT ((losT l a).set a ty0) (a+1)).set (a+1) ty0).length=l.length:=by rw [List.length_set,losT_length,hl1]
  generalize (losT ((losT l a).set a ty0) (a+1)).set (a+1) ty0=q at *
  refine ⟨fun i hi hk=>?_,fun i hi hk=>?_⟩
  ·have hk:(nth ty0 (wrT l a v) i).kind=2:=hk
   show i+1<_∧(nth ty0 (wrT l a v) (i+1)).kind=4
   rw [hlw] at hi ⊢
   rw [e] at hk ⊢
   by_cases x1:a=i
   ·subst x1
    rw [if_neg (by omega),if_pos rfl]
    exact ⟨by omega,rfl⟩
   rw [if_neg x1] at hk
   by_cases x2:a+1=i
   ·rw [if_pos x2] at hk;exact absurd hk (by decide)
   rw [if_neg x2] at hk
   have:=P2.1 i (by omega) hk
   have h9:(nth ty0 q (i+1)).kind=4:=this.2
   refine ⟨by omega,?_⟩
   have n1:a≠i+1:=fun x=>by rw [←x,e0] at h9;exact absurd h9 (by decide)
   have n2:a+1≠i+1:=by omega
   rw [if_neg n1,if_neg n2];exact h9
  ·have hk:(nth ty0 (wrT l a v) i).kind=4:=hk
   show 1≤i∧(nth ty0 (wrT l a v) (i-1)).kind=2
   rw [hlw] at hi
   rw [e] at hk ⊢
   by_cases x1:a=i
   ·rw [if_pos x1] at hk;exact absurd hk hv
   rw [if_neg x1] at hk
   by_cases x2:a+1=i
   ·rw [if_pos (by omega)];exact ⟨by omega,h2⟩
   rw [if_neg x2] at hk
   have:=P2.2 i (by omega) hk
   have h9:(nth ty0 q (i-1)).kind=2:=this.2
   refine ⟨this.1,?_⟩
   have n1:a≠i-1:=fun x=>by rw [←x,e0] at h9;exact absurd h9 (by decide)
   have n2:a+1≠i-1:=fun x=>by rw [←x,e1] at h9;exact absurd h9 (by decide)
   rw [if_neg n1,if_neg n2];exact h9
 ·have e:∀i,nth ty0 (wrT l a v) i=if a=i then v else nth ty0 ((losT l a).set a ty0) i:=fun i=>by
   unfold wrT
   rw [if_neg h2,nth_setI (by rw [losT_length];exact ha),hset]
   by_cases x1:a=i
   ·rw [if_pos x1,if_pos x1]
   ·rw [if_neg x1,if_neg x1,if_neg x1]
  have e0:nth ty0 ((losT l a).set a ty0) a=ty0:=by rw [hset,if_pos rfl]
  have hl1:((losT l a).set a ty0).length=l.length:=by rw [List.length_set,losT_length]
  have hlw:=wrT_length l a v
  generalize (losT l a).set a ty0=q at *
  refine ⟨fun i hi hk=>?_,fun i hi hk=>?_⟩
  ·have hk:(nth ty0 (wrT l a v) i).kind=2:=hk
   show i+1<_∧(nth ty0 (wrT l a v) (i+1)).kind=4
   rw [hlw] at hi ⊢
   rw [e] at hk ⊢
   by_cases x1:a=i
   ·rw [if_pos x1] at hk;exact absurd hk h2
   rw [if_neg x1] at hk
   have:=P1.1 i (by omega) hk
   have h9:(nth ty0 q (i+1)).kind=4:=this.2
   refine ⟨by omega,?_⟩
   have n1:a≠i+1:=fun x=>by rw [←x,e0] at h9;exact absurd h9 (by decide)
   rw [if_neg n1];exact h9
  ·have hk:(nth ty0 (wrT l a v) i).kind=4:=hk
   show 1≤i∧(nth ty0 (wrT l a v) (i-1)).kind=2
   rw [hlw] at hi
   rw [e] at hk ⊢
   by_cases x1:a=i
   ·rw [if_pos x1] at hk;exact absurd hk hv
   rw [if_neg x1] at hk
   have:=P1.2 i (by omega) hk
   have h9:(nth ty0 q (i-1)).kind=2:=this.2
   refine ⟨this.1,?_⟩
   have n1:a≠i-1:=fun x=>by rw [←x,e0] at h9;exact absurd h9 (by decide)
   rw [if_neg n1];exact h9
def keyH (x:Hel):Int×Int:=(x.cls,x.fld)
structure TyH (h:Hp):Prop where
 cls:∀n,n<h.objs.length→0≤(nth ob0 h.objs n).cls∧(nth ob0 h.objs n).cls<h.file.classes.length
 keys:∀n,n<h.objs.length→(nth ob0 h.objs n).held.map keyH=(newHeld h.file.classes (nth ob0 h.objs n).cls.toNat).map keyH
 held:∀n,n<h.objs.length→∀x,x∈(nth ob0 h.objs n).held→FitV h (fieldT h.file.classes x.cls x.fld) x.v
theorem TyH.same {h h':Hp} (t:TyH h) (e1:h'.file=h.file) (e2:h'.objs=h.objs):TyH h':=by
 have e:=Ext.same e1 e2
 refine ⟨fun n hn=>?_,fun n hn=>?_,fun n hn x hx=>?_⟩
 ·rw [e2] at hn ⊢;rw [e1];exact t.cls n hn
 ·rw [e2] at hn ⊢;rw [e1];exact t.keys n hn
 ·rw [e2] at hn hx;rw [e1];exact (t.held n hn x hx).ext e
def Ok (h:Hp):Prop:=h.over=true→h.sh.fin≠6
theorem Ok.of {h:Hp} (ho:h.over=false):Ok h:=fun e=>by rw [ho] at e;exact absurd e (by decide)
theorem Ok.fin {h:Hp} (o:Ok h) {e:Int} (he:e≠6):Ok (h.fin e):=by
 unfold Hp.fin;split
 ·exact o
 ·exact fun _=>he
theorem fin_ext (h:Hp) (e:Int):Ext h (h.fin e):=by unfold Hp.fin;split;exact Ext.refl h;exact Ext.same rfl rfl
theorem fin_ty {h:Hp} (t:TyH h) (e:Int):TyH (h.fin e):=by unfold Hp.fin;split;exact t;exact t.same rfl rfl
theorem fin_over' (h:Hp) (e:Int):(h.fin e).over=true:=by unfold Hp.fin;split;assumption;rfl
theorem may_fldT {cs:List Cl} (hm:mayB cs=true) {c k:Nat} (hc:c<cs.length) (hk:k<(nth cl0 cs c).fields.length):tyB cs.length (nth ty0 (nth cl0 cs c).fields k)=true:=by
 unfold mayB at hm
 rw [Bool.and_eq_true,List.all_eq_true] at hm
 have:=hm.2 c (by simpa using hc)
 unfold clB at this
 rw [Bool.and_eq_true,List.all_eq_true] at this
 exact this.2 _ (nth_mem hk)
theorem init_fit (h:Hp) {n:Nat} {t:Ty} (ht:tyB n t=true):FitV h t (initV t):=by
 have ht:=of_decide_eq_true ht
 unfold initV
 refine ⟨fun e=>e,fun e=>e,fun e=>⟨e,fun hn=>?_⟩,fun e=>by omega⟩
 dsimp only at hn
 rw [if_pos e] at hn
 omega
theorem newHeld_fit (h:Hp) (hm:mayB h.file.classes=true) (c:Nat):∀x,x∈newHeld h.file.classes c→FitV h (fieldT h.file.classes x.cls x.fld) x.v:=by
 intro x hx
 unfold newHeld at hx
 rw [List.mem_flatMap] at hx
 obtain ⟨d,hd,hx⟩:=hx
 unfold heldOf at hx
 split at hx
 ·rw [List.mem_map] at hx
  obtain ⟨k,hk,rfl⟩:=hx
  simp at hd hk
  dsimp only
  unfold fieldT
  rw [Int.toNat_natCast,Int.toNat_natCast]
  exact init_fit h (may_fldT hm hd hk)
 ·simp at hx
theorem new_ext (h:Hp) (c:Int):Ext h (h.new c):=by
 unfold Hp.new;split
 ·exact fin_ext h 4
 ·exact ⟨rfl,by simp,fun n hn=>by dsimp only;rw [nth_app_l hn]⟩
theorem new_ty {h:Hp} (t:TyH h) (hm:mayB h.file.classes=true) {c:Int} (hc:0≤c∧c<h.file.classes.length):TyH (h.new c):=by
 have e:=new_ext h c
 unfold Hp.new at e ⊢;split
 ·exact fin_ty t 4
 ·rename_i hf
  rw [if_neg hf] at e
  have key:∀n,n<(h.objs++[(⟨c,newHeld h.file.classes c.toNat⟩:Ob)]).length→(n<h.objs.length∧nth ob0 (h.objs++[(⟨c,newHeld h.file.classes c.toNat⟩:Ob)]) n=nth ob0 h.objs n)∨nth ob0 (h.objs++[(⟨c,newHeld h.file.classes c.toNat⟩:Ob)]) n=⟨c,newHeld h.file.classes c.toNat⟩:=fun n hn=>by
   rw [List.length_append,List.length_singleton] at hn
   by_cases hx:n<h.objs.length
   ·exact Or.inl ⟨hx,nth_app_l hx⟩
   ·obtain rfl:n=h.objs.length:=by omega
    exact Or.inr nth_one
  refine ⟨fun n hn=>?_,fun n hn=>?_,fun n hn x hx=>?_⟩
  ·dsimp only at hn ⊢
   rcases key n hn with ⟨h1,h2⟩|h2
   ·rw [h2];exact t.cls n h1
   ·rw [h2];exact hc
  ·dsimp only at hn ⊢
   rcases key n hn with ⟨h1,h2⟩|h2
   ·rw [h2];exact t.keys n h1
   ·rw [h2]
  ·dsimp only at hn hx ⊢
   rcases key n hn with ⟨h1,h2⟩|h2
   ·rw [h2] at hx;exact (t.held n h1 x hx).ext e
   ·rw [h2] at hx;exact (newHeld_fit h hm _ x hx).ext e
theorem new_ok {h:Hp} (o:Ok h) (c:Int):Ok (h.new c):=by
 unfold Hp.new;split
 ·exact o.fin (by decide)
 ·exact o
theorem newV_fit {h:Hp} {c:Int} (hm:mayB h.file.classes=true) (hc:0≤c∧c<h.file.classes.length) (ho:(h.new c).over=false):FitV (h.new c) ⟨3,c⟩ h.newV:=by
 have hf:¬h.full=true:=fun hf=>by
  unfold Hp.new at ho;rw [if_pos hf,fin_over'] at ho;exact absurd ho (by decide)
 unfold Hp.newV Hp.new
 rw [if_neg hf,if_neg hf]
 refine ⟨fun e=>by dsimp only at e;omega,fun e=>by dsimp only at e;omega,fun _=>⟨rfl,fun _=>?_⟩,fun e=>by dsimp only at e;omega⟩
 dsimp only
 refine ⟨by rw [List.length_append,List.length_singleton];omega,?_⟩
 have e:(Hp.obj { h with objs:=h.objs++[⟨c,newHeld h.file.classes c.toNat⟩] } (h.objs.length:Nat))=⟨c,newHeld h.file.classes c.toNat⟩:=by
  unfold Hp.obj;rw [Int.toNat_natCast];exact nth_one
 rw [e]
 unfold belI clsI
 rw [bel_self]
 simp
 omega
structure Thrw (h h':Hp):Prop where
 ok:Ok h'
 ext:Ext h h'
 ty:TyH h'
 thr:h'.over=false→0≤h'.thrown∧h'.thrown<h'.objs.length
theorem raise_thrw {h:Hp} (t:TyH h) (hm:mayB h.file.classes=true) (o:Ok h) {c:Int} (hc:0≤c∧c<h.file.classes.length):Thrw h (h.raise c):=by
 have e:=new_ext h c
 have ty:=new_ty t hm hc
 have ok:=new_ok o c
 unfold Hp.raise;split
 ·rename_i ho
  exact ⟨ok,e,ty,fun hx=>by rw [ho] at hx;exact absurd hx (by decide)⟩
 ·rename_i ho
  have ho':(h.new c).over=false:=by simpa using ho
  have hf:¬h.full=true:=fun hf=>by
   unfold Hp.new at ho';rw [if_pos hf,fin_over'] at ho';exact absurd ho' (by decide)
  refine ⟨ok,⟨e.file,e.len,e.cls⟩,ty.same rfl rfl,fun _=>?_⟩
  dsimp only
  unfold Hp.newV Hp.new
  rw [if_neg hf,if_neg hf]
  dsimp only
  rw [List.length_append,List.length_singleton]
  omega
theorem held_there {h:Hp} (t:TyH h) {n:Nat} (hn:n<h.objs.length) {c k:Nat} (hb:belI h.file.classes (nth ob0 h.objs n).cls c=true) (hk:k<(nth cl0 h.file.classes c).fields.length) :
  ∃q:Nat,q<(nth ob0 h.objs n).held.length∧heldAt (nth ob0 h.objs n).held c k=q∧(nth hel0 (nth ob0 h.objs n).held q).cls=c∧(nth hel0 (nth ob0 h.objs n).held q).fld=k:=by
 unfold belI clsI at hb
 rw [Bool.and_eq_true,decide_eq_true_eq,Int.toNat_natCast] at hb
 have hc:c<h.file.classes.length:=by omega
 have hmem:((c:Int),(k:Int))∈(newHeld h.file.classes (nth ob0 h.objs n).cls.toNat).map keyH:=by
  rw [List.mem_map]
  refine ⟨⟨(c:Nat),(k:Nat),initV (nth ty0 (nth cl0 h.file.classes c).fields k)⟩,?_,rfl⟩
  unfold newHeld
  rw [List.mem_flatMap]
  refine ⟨c,by simpa using hc,?_⟩
  unfold heldOf
  rw [if_pos hb.2,List.mem_map]
  exact ⟨k,by simpa using hk,rfl⟩
 rw [←t.keys n hn,List.mem_map] at hmem
 obtain ⟨x,hx,hxk⟩:=hmem
 have hx1:x.cls=c∧x.fld=k:=by
  unfold keyH at hxk
  exact ⟨congrArg Prod.fst hxk,congrArg Prod.snd hxk⟩
 unfold heldAt
 cases hfi:(nth ob0 h.objs n).held.findIdx? (fun x=>decide (x.cls=(c:Int)∧x.fld=(k:Int))) with
 | none =>
  rw [List.findIdx?_eq_none_iff] at hfi
  have:=hfi x hx
  simp [hx1] at this
 | some i =>
  rw [List.findIdx?_eq_some_iff_getElem] at hfi
  obtain ⟨h1,h2,-⟩:=hfi
  have h2:=of_decide_eq_true h2
  refine ⟨i,h1,rfl,?_,?_⟩
  ·rw [nth_get h1];exact h2.1
  ·rw [nth_get h1];exact h2.2
theorem setV_ext (h:Hp) (n j:Nat) (v:Va):Ext h (h.setV n j v):=by
 unfold Hp.setV
 refine ⟨rfl,by dsimp only;rw [List.length_set];exact Nat.le_refl _,fun i hi=>?_⟩
 dsimp only
 by_cases e:n=i
 ·subst e;rw [nth_set_eq hi]
 ·rw [nth_set_ne e]
theorem setV_ty {h:Hp} (t:TyH h) {n j:Nat} {v:Va} (hn:n<h.objs.length) (hj:j<(nth ob0 h.objs n).held.length) (hv:FitV h (fieldT h.file.classes (nth hel0 (nth ob0 h.objs n).held j).cls (nth hel0 (nth ob0 h.objs n).held j).fld) v):TyH (h.setV n j v):=by
 have e:=setV_ext h n j v
 have hlen:(h.setV n j v).objs.length=h.objs.length:=by unfold Hp.setV;dsimp only;rw [List.length_set]
 have hfile:(h.setV n j v).file=h.file:=rfl
 have hob:nth ob0 (h.setV n j v).objs n={ nth ob0 h.objs n with held:=(nth ob0 h.objs n).held.set j { nth hel0 (nth ob0 h.objs n).held j with v:=v } }:=by unfold Hp.setV;dsimp only;rw [nth_set_eq hn]
 have hoth:∀i,n≠i→nth ob0 (h.setV n j v).objs i=nth ob0 h.objs i:=fun i hi=>by unfold Hp.setV;dsimp only;rw [nth_set_ne hi]
 refine ⟨fun i hi=>?_,fun i hi=>?_,fun i hi x hx=>?_⟩
 ·rw [hlen] at hi;rw [e.cls i hi,hfile];exact t.cls i hi
 ·rw [hlen] at hi
  rw [e.cls i hi,hfile,←t.keys i hi]
  by_cases ei:n=i
  ·subst ei
   rw [hob]
   dsimp only
   rw [List.map_set]
   refine List.ext_getElem? fun q=>?_
   by_cases eq:j=q
   ·subst eq
    rw [List.getElem?_set_self (by rw [List.length_map];exact hj),List.getElem?_map,List.getElem?_eq_getElem hj]
    unfold keyH
    rw [←nth_get (d:=hel0) hj];rfl
   ·rw [List.getElem?_set_ne eq]
  ·rw [hoth i ei]
 ·rw [hlen] at hi
  rw [hfile]
  by_cases ei:n=i
  ·subst ei
   rw [hob] at hx
   dsimp only at hx
   rcases mem_set' hx with rfl|hx
   ·exact hv.ext e
   ·exact (t.held n hn x hx).ext e
  ·rw [hoth i ei] at hx;exact (t.held i hi x hx).ext e
def takeT (s:As):Option (Ty×As):=if s.stk.length=0 then none else some (nth ty0 s.stk (s.stk.length-1),{ s with stk:=s.stk.take (s.stk.length-1) })
def takeK (k:Int) (s:As):Option (Ty×As):=(takeT s).bind fun p=>if p.1.kind=k then some p else none
def takeY (cs:List Cl) (t:Ty) (s:As):Option As:=(takeT s).bind fun p=>if fitB cs p.1 t=true then some p.2 else none
def takesY (cs:List Cl) (ts:List Ty):Nat→As→Option As
 | 0,s=>some s
 | k+1,s=>(takeY cs (nth ty0 ts k) s).bind fun s1=>takesY cs ts k s1
def putT (room:Int) (v:Ty) (s:As):Option As:=if (slotsN (s.stk++[v]):Int)≤room then some { s with stk:=s.stk++[v] } else none
def workT (f:Fi) (m:Me) (i:In) (s:As):Option As :=
 if i.op=1 then putT m.stack ⟨1,0⟩ s
 else if i.op=2∨i.op=25 then putT m.stack ⟨2,0⟩ s
 else if i.op=3 then putT m.stack ⟨3,-1⟩ s
 else if i.op=4 then (if (nth ty0 s.slots i.a.toNat).kind=i.b then putT m.stack (nth ty0 s.slots i.a.toNat) s else none)
 else if i.op=5 then (takeK i.b s).bind fun p=>some { p.2 with slots:=wrT p.2.slots i.a.toNat p.1 }
 else if i.op=22 then (takeT s).bind fun p=>some p.2
 else if i.op=23 then (takeT s).bind fun p=>(putT m.stack p.1 p.2).bind fun q=>putT m.stack p.1 q
 else if i.op=24 then (takeK i.a s).bind fun p=>some p.2
 else if i.op=19 then (takesY f.classes (nth me0 f.methods i.a.toNat).params (nth me0 f.methods i.a.toNat).params.length s).bind fun q =>
  if (nth me0 f.methods i.a.toNat).ret.kind=0 then some q else putT m.stack (nth me0 f.methods i.a.toNat).ret q
 else if i.op=6 then (takeK 1 s).bind fun p=>(takeK 1 p.2).bind fun q=>putT m.stack ⟨1,0⟩ q.2
 else if i.op=7 then (takeK 2 s).bind fun p=>(takeK 2 p.2).bind fun q=>putT m.stack ⟨2,0⟩ q.2
 else if i.op=8 then (takeK 1 s).bind fun p=>putT m.stack ⟨2,0⟩ p.2
 else if i.op=9 then (takeK 2 s).bind fun p=>putT m.stack ⟨1,0⟩ p.2
 else if i.op=10 then (takeK 2 s).bind fun p=>(takeK 2 p.2).bind fun q=>putT m.stack ⟨1,0⟩ q.2
 else if i.op=14 then putT m.stack ⟨3,i.a⟩ s
 else if i.op=15 then (takeY f.classes ⟨3,i.a⟩ s).bind fun p=>putT m.stack (fieldT f.classes i.a i.b) p
 else if i.op=16 then (takeY f.classes (fieldT f.classes i.a i.b) s).bind fun p=>takeY f.classes ⟨3,i.a⟩ p
 else if i.op=17 then (takeK 3 s).bind fun p=>putT m.stack ⟨3,i.a⟩ p.2
 else if i.op=18 then (takeK 3 s).bind fun p=>putT m.stack ⟨1,0⟩ p.2
 else some s
structure WfA (n:Nat) (nl:Int) (s:As):Prop where
 len:(s.slots.length:Int)=nl
 pair:PairT s.slots
 sl:∀t∈s.slots,refOk n t∧0≤t.kind∧t.kind≤4
 st:∀t∈s.stk,refOk n t∧1≤t.kind∧t.kind≤3
def Leads (cs:List Cl) (st:List (Option As)) (t:Int) (s:As):Prop:=0≤t∧t<st.length∧∃u,nth none st t.toNat=some u∧leA cs s u
def OutOk (f:Fi) (m:Me) (st:List (Option As)) (k:Nat) (s:As) (i:In):Prop :=
 if i.op=11 then Leads f.classes st i.a s
 else if i.op=12 then ∃p,takeK 1 s=some p∧Leads f.classes st i.a p.2∧Leads f.classes st (k+1:Nat) p.2
 else if i.op=13 then ∃p,takeK 3 s=some p∧Leads f.classes st i.a p.2∧Leads f.classes st (k+1:Nat) p.2
 else if i.op=20 then (m.ret.kind≠0→∃p,takeY f.classes m.ret s=some p)
 else if i.op=21 then ∃p,takeK 3 s=some p
 else ∃s1,workT f m i s=some s1∧Leads f.classes st (k+1:Nat) s1
structure StepAt (f:Fi) (m:Me) (st:List (Option As)) (k:Nat) (s:As):Prop where
 hands:∀x∈m.hands,x.fr≤k→k<x.til→m.stack≠0∧Leads f.classes st x.pc ⟨s.slots,[⟨3,x.cls⟩]⟩
 out:OutOk f m st k s (nth in0 m.code k)
def argsT (l:List Ty) (at':Nat):List Ty→List Ty
 | []=>l
 | t::k=>argsT (wrT l at' t) (at'+slotsN [t]) k
def firstT (m:Me) (nl:Int):As:=⟨argsT (List.replicate nl.toNat ty0) 0 m.params,[]⟩
def SoundM (f:Fi) (m:Me):Prop:=∃st:List (Option As),st.length=m.code.length∧(∀k s,nth none st k=some s→WfA f.classes.length m.locs s∧StepAt f m st k s)∧Leads f.classes st 0 (firstT m m.locs)
theorem takeT_app {s:As} {p:Ty×As} (h:takeT s=some p):s.stk=p.2.stk++[p.1]∧p.2.slots=s.slots:=by
 unfold takeT at h
 split at h
 ·exact absurd h (by simp)
 ·rename_i hl
  have h:=Option.some.inj h
  subst h
  dsimp only
  refine ⟨?_,rfl⟩
  rw [nth_get (by omega),List.take_append_getElem,show s.stk.length-1+1=s.stk.length by omega,List.take_length]
theorem takeK_app {k:Int} {s:As} {p:Ty×As} (h:takeK k s=some p):s.stk=p.2.stk++[p.1]∧p.2.slots=s.slots∧p.1.kind=k:=by
 unfold takeK at h
 rw [Option.bind_eq_some_iff] at h
 obtain ⟨q,h1,h2⟩:=h
 split at h2
 ·have:=Option.some.inj h2;subst this
  exact ⟨(takeT_app h1).1,(takeT_app h1).2,by assumption⟩
 ·exact absurd h2 (by simp)
theorem takeY_app {cs:List Cl} {t:Ty} {s s1:As} (h:takeY cs t s=some s1):∃x,s.stk=s1.stk++[x]∧s1.slots=s.slots∧fitB cs x t=true:=by
 unfold takeY at h
 rw [Option.bind_eq_some_iff] at h
 obtain ⟨q,h1,h2⟩:=h
 split at h2
 ·have:=Option.some.inj h2;subst this
  exact ⟨q.1,(takeT_app h1).1,(takeT_app h1).2,by assumption⟩
 ·exact absurd h2 (by simp)
theorem putT_eq {room:Int} {v:Ty} {s s1:As} (h:putT room v s=some s1):s1={ s with stk:=s.stk++[v] }∧(slotsN (s.stk++[v]):Int)≤room:=by
 unfold putT at h
 split at h
 ·exact ⟨(Option.some.inj h).symm,by assumption⟩
 ·exact absurd h (by simp)
structure Fits (h:Hp) (s:As) (c:Cal):Prop where
 sl:FitL h s.slots c.locs
 st:FitL h s.stk c.stk
 pr:PairV c.locs
theorem Fits.ext {h h':Hp} {s:As} {c:Cal} (g:Fits h s c) (e:Ext h h'):Fits h' s c:=⟨g.sl.ext e,g.st.ext e,g.pr⟩
theorem Fits.le {h:Hp} (ht:Tree h.file.classes) {s u:As} {c:Cal} (g:Fits h s c) (l:leA h.file.classes s u):Fits h u c:=⟨l.1.fit ht g.sl,l.2.fit ht g.st,g.pr⟩
theorem Fits.at' {h:Hp} {s:As} {c:Cal} (g:Fits h s c) (n:Int):Fits h s { c with pc:=n }:=⟨g.sl,g.st,g.pr⟩
theorem top_app {c:Cal} {a b:List Va} (h:c.stk=a++b):c.has b.length=true∧c.top b.length=b∧c.cut b.length={ c with stk:=a }:=by
 have hl:b.length≤c.stk.length:=by rw [h,List.length_append];omega
 have he:c.stk.length-b.length=a.length:=by rw [h,List.length_append];omega
 refine ⟨has_le hl,?_,?_⟩
 ·unfold Cal.top;rw [if_pos hl,he,h,List.drop_left]
 ·unfold Cal.cut;rw [if_pos hl,he,h,List.take_left]
theorem Fits.take1 {h:Hp} {s s1:As} {c:Cal} {x:Ty} (g:Fits h s c) (hs:s.stk=s1.stk++[x]) (hl:s1.slots=s.slots) :
  ∃v,c.has 1=true∧nth va0 (c.top 1) 0=v∧FitV h x v∧Fits h s1 (c.cut 1)∧(c.cut 1).locs=c.locs∧(c.cut 1).m=c.m∧(c.cut 1).pc=c.pc:=by
 obtain ⟨us,v,h1,h2,h3⟩:=(hs▸g.st:FitL h (s1.stk++[x]) c.stk).last
 obtain ⟨a1,a2,a3⟩:=top_app (b:=[v]) h1
 have a1:c.has 1=true:=a1
 have a2:c.top 1=[v]:=a2
 have a3:c.cut 1={ c with stk:=us }:=a3
 refine ⟨v,a1,by rw [a2];rfl,h3,?_,by rw [a3],by rw [a3],by rw [a3]⟩
 rw [a3]
 exact ⟨by rw [hl];exact g.sl,h2,g.pr⟩
theorem Fits.take2 {h:Hp} {s s1 s2:As} {c:Cal} {x y:Ty} (g:Fits h s c) (hs:s.stk=s1.stk++[x]) (hl:s1.slots=s.slots) (hs2:s1.stk=s2.stk++[y]) (hl2:s2.slots=s1.slots) :
  ∃u v,c.has 2=true∧nth va0 (c.top 2) 0=u∧nth va0 (c.top 2) 1=v∧FitV h y u∧FitV h x v∧Fits h s2 (c.cut 2)∧(c.cut 2).locs=c.locs∧(c.cut 2).m=c.m∧(c.cut 2).pc=c.pc:=by
 obtain ⟨us,v,h1,h2,h3⟩:=(hs▸g.st:FitL h (s1.stk++[x]) c.stk).last
 obtain ⟨ws,u,h4,h5,h6⟩:=(hs2▸h2:FitL h (s2.stk++[y]) us).last
 obtain ⟨a1,a2,a3⟩:=top_app (a:=ws) (b:=[u,v]) (c:=c) (by rw [h1,h4];simp)
 have a1:c.has 2=true:=a1
 have a2:c.top 2=[u,v]:=a2
 have a3:c.cut 2={ c with stk:=ws }:=a3
 refine ⟨u,v,a1,by rw [a2];rfl,by rw [a2];rfl,h6,h3,?_,by rw [a3],by rw [a3],by rw [a3]⟩
 rw [a3]
 exact ⟨by rw [hl2,hl];exact g.sl,h5,g.pr⟩
theorem slots_app (a b:List Ty):slotsN (a++b)=slotsN a+slotsN b:=by
 induction a with
 | nil=>simp [slotsN]
 | cons x a ih=>simp [slotsN,ih];omega
theorem FitV.siz {h:Hp} {t:Ty} {v:Va} (g:FitV h t v) (hk:1≤t.kind∧t.kind≤3):v.kind=t.kind:=by
 rcases (by omega:t.kind=1∨t.kind=2∨t.kind=3) with e|e|e
 ·rw [g.one e,e]
 ·rw [g.two e,e]
 ·rw [(g.ref e).1,e]
theorem siz_fit {h:Hp}:∀(ts:List Ty) (vs:List Va),FitL h ts vs→(∀t∈ts,1≤t.kind∧t.kind≤3)→sizP vs=slotsN ts
 | [],vs,g,_=>by
  have:vs=[]:=List.length_eq_zero_iff.1 g.1.symm
  subst this;rfl
 | t::ts,vs,g,hk=>by
  cases vs with
  | nil=>have:=g.1;simp at this
  | cons v vs =>
   have h0:v.kind=t.kind:=(g.2 0 (by simp)).siz (hk t (by simp))
   have ih:=siz_fit ts vs ⟨by have:=g.1;simp at this;exact this,fun j hj=>g.2 (j+1) (by simp;exact hj)⟩ (fun x hx=>hk x (List.mem_cons_of_mem _ hx))
   simp only [sizP,slotsN,ih,h0]
theorem Fits.put {h:Hp} {s s1:As} {c:Cal} {t:Ty} {v:Va} (g:Fits h s c) (hv:FitV h t v) (hk:∀x∈s.stk,1≤x.kind∧x.kind≤3) (ht:1≤t.kind∧t.kind≤3) (hp:putT c.m.stack t s=some s1):h.putH c v=h∧Fits h s1 (c.put v):=by
 obtain ⟨rfl,hr⟩:=putT_eq hp
 have hf:=g.st.snoc hv
 have hz:=siz_fit _ _ hf (fun x hx=>by
  rw [List.mem_append] at hx
  rcases hx with hx|hx
  ·exact hk x hx
  ·rw [List.mem_singleton] at hx;rw [hx];exact ht)
 refine ⟨?_,⟨g.sl,hf,g.pr⟩⟩
 unfold Hp.putH;split
 ·rfl
 ·unfold Hp.must;rw [if_pos (decide_eq_true (by rw [hz];exact hr))]
abbrev upE:Ending:=.panicked [{ v:=.iface 251 (.agg #[]),recovered:=false }]
abbrev fvV (t:Ty):Value:=.agg #[.int .i64 t.kind,.int .i64 t.cls]
theorem info_fv:(Tryz.prog.info? 233).map (·.size)=some 2:=by kernel_rfl
theorem up_any (w:World):Calls Tryz.prog 208 #[] w fun e w'=>e=upE∧w'=w:=by
 go_enter Tryz.func208,Tryz.ntmps208
 go_wp2
 exact ⟨rfl,rfl,rfl⟩
theorem fint_any (w:World):Calls Tryz.prog 214 #[] w fun e w'=>e=.returned (fvV ⟨1,0⟩)∧Bl w w':=by
 go_enter Tryz.func214,Tryz.ntmps214
 go_wp2
 refine bodyPost_ret (results_cell_row rfl _ _ w.heap.size _ _ _ _ rfl (mblk rfl) Tryz.underlying233 rfl info_fv) rfl ?_
 exact ⟨rfl,(Bl.refl w).alloc _⟩
theorem flong_any (w:World):Calls Tryz.prog 215 #[] w fun e w'=>e=.returned (fvV ⟨2,0⟩)∧Bl w w':=by
 go_enter Tryz.func215,Tryz.ntmps215
 go_wp2
 refine bodyPost_ret (results_cell_row rfl _ _ w.heap.size _ _ _ _ rfl (mblk rfl) Tryz.underlying233 rfl info_fv) rfl ?_
 exact ⟨rfl,(Bl.refl w).alloc _⟩
theorem fref_any (c:Int) (w:World):Calls Tryz.prog 209 #[.int .i64 c] w fun e w'=>e=.returned (fvV ⟨3,c⟩)∧Bl w w':=by
 go_enter Tryz.func209,Tryz.ntmps209
 go_wp2
 refine bodyPost_ret (results_cell_row rfl _ _ w.heap.size _ _ _ _ rfl (mblk rfl) Tryz.underlying233 rfl info_fv) rfl ?_
 exact ⟨rfl,(Bl.refl w).alloc _⟩
theorem fnot_any (w:World):Calls Tryz.prog 216 #[] w fun e w'=>e=.returned (fvV ⟨3,-1⟩)∧Bl w w':=by
 go_enter Tryz.func216,Tryz.ntmps216
 go_wp2_with (go_at_call 209;refine (fref_any (-1) _).mono ?_;rintro e w1 ⟨rfl,b1⟩;have B1:Hid (_):=b1;have hb:=(b1.block w.heap.size (by simp)).trans (mblk (w:=w) rfl);have hc0:=cell_blk (i:=0) hb;have hc1:=cell_blk (i:=1) hb;have hf:=free_blk hb;have HB:Hid (_):=hb;clear b1 hb)
 refine bodyPost_ret (results_cell_row rfl _ _ w.heap.size _ _ _ _ rfl (block_set (block_set HB.out _) _) Tryz.underlying233 rfl info_fv) rfl ?_
 exact ⟨rfl,((((Bl.refl w).alloc _).trans B1.out).setCell (Nat.le_refl _) _).setCell (Nat.le_refl _) _⟩
theorem fmust_yes (v:Ty) (k:Int) (w:World) (h:v.kind=k):Calls Tryz.prog 211 #[fvV v,.int .i64 k] w fun e w'=>e=.returned (fvV v)∧Bl w w':=by
 subst h
 go_enter Tryz.func211,Tryz.ntmps211
 go_wp2
 refine bodyPost_ret (results_cell_row rfl _ _ (w.heap.size+1) _ _ _ _ rfl (mblk (by simp)) Tryz.underlying233 rfl info_fv) rfl ?_
 exact ⟨rfl,((Bl.refl w).alloc _).alloc _⟩
theorem fmust_no (v:Ty) (k:Int) (w:World) (h:v.kind≠k):Calls Tryz.prog 211 #[fvV v,.int .i64 k] w fun e w'=>e=upE∧Bl w w':=by
 have hz:(v.kind !=k)=true:=by simpa using h
 go_enter Tryz.func211,Tryz.ntmps211
 go_wp2_with (go_at_call 208;refine (up_any _).mono ?_;rintro e w1 ⟨rfl,hw⟩;rw [hw];clear hw w1)
 exact ⟨rfl,rfl,((Bl.refl w).alloc _).alloc _⟩
structure Fut (w:World) where
 to:World
 is:Bl w to
theorem wp_region_fut {P:Program} {id:Nat} {Q:Exit→Act→World→Prop} {a:Act} {w:World} {l:List Oper} (hm:P.follows .mixedOrders=true) (hB:Region.lexB .any l.toArray=true)
  (h:Nonempty (Fut w)→wpQuiet P l.toArray (fun w'=>∃x:Fut w,w'=x.to) (fun a'=>∀w',(∃x:Fut w,w'=x.to)→Q .normal a' w') l a):(Code.region id l.toArray true).wp P Q a w :=
 wp_region_quiet (C:=fun w'=>∃x:Fut w,w'=x.to) hm hB ⟨⟨_,(Bl.refl w).drew⟩,rfl⟩ (by simpa using h ⟨⟨w,Bl.refl w⟩⟩)
theorem Calls.fut {P:Program} {f:FuncId} {args:Array Value} {w:World} {v:Value} (x:Fut w)
  (h:Calls P f args x.to fun e w'=>e=.returned v∧Bl x.to w'):Calls P f args x.to fun e w''=>e=.returned v∧∃y:Fut w,w''=y.to :=
 h.mono fun _ w'' ⟨he,hb⟩=>⟨he,⟨w'',x.is.trans hb⟩,rfl⟩
theorem Calls.fut_same {P:Program} {f:FuncId} {args:Array Value} {w:World} {v:Value} (x:Fut w)
  (h:Calls P f args x.to fun e w'=>e=.returned v∧w'=x.to):Calls P f args x.to fun e w''=>e=.returned v∧∃y:Fut w,w''=y.to :=
 h.mono fun _ _ ⟨he,hb⟩=>⟨he,x,hb⟩
theorem Calls.fut_eq {P:Program} {f:FuncId} {args:Array Value} {w:World} {v v':Value} (x:Fut w)
  (h:Calls P f args x.to fun e w'=>e=.returned v∧Bl x.to w') (hv:v=v'):Calls P f args x.to fun e w''=>e=.returned v'∧∃y:Fut w,w''=y.to :=
 hv▸Calls.fut x h
theorem Calls.fut_same_eq {P:Program} {f:FuncId} {args:Array Value} {w:World} {v v':Value} (x:Fut w)
  (h:Calls P f args x.to fun e w'=>e=.returned v∧w'=x.to) (hv:v=v'):Calls P f args x.to fun e w''=>e=.returned v'∧∃y:Fut w,w''=y.to :=
 hv▸Calls.fut_same x h
theorem fut_cell {w:World} {b o:Nat} {v:Value} (h:w.cell? ⟨b,o,none⟩=some v) (x:Fut w):x.to.cell? ⟨b,o,none⟩=some v:=x.is.cell h
end Go.Proofs.YtgiiapenmjollaaGreat
