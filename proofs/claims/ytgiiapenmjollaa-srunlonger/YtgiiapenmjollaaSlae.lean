import Derived.Test.YtgiiapenmjollaaSlad
import Derived.Maps.OwnSet
namespace Go.Proofs.Ytgiiapenmjollaa
set_option linter.all false
set_option maxHeartbeats 40000000
open Go.RowKit
def im (v:Va):Va:=⟨v.kind,if v.kind=3 then v.n+1 else v.n⟩
theorem im_kind (v:Va):(im v).kind=v.kind:=rfl
theorem im_num {v:Va} (h:v.kind≠3):im v=v:=by unfold im;rw [if_neg h]
theorem im_ref {v:Va} (h:v.kind=3):im v=⟨3,v.n+1⟩:=by unfold im;rw [if_pos h,h]
theorem nth_set {α:Type} (d:α) (l:List α) (i j:Nat) (v:α):nth d (l.set i v) j=if i=j∧i<l.length then v else nth d l j:=by
 unfold nth
 simp only [List.getD_eq_getElem?_getD,List.getElem?_set]
 by_cases h:i=j
 ·subst h
  by_cases hl:i<l.length
  ·simp [hl]
  ·simp [hl]
 ·simp [h]
theorem nth_out {α:Type} {d:α} {l:List α} {i:Nat} (h:l.length≤i):nth d l i=d:=by
 unfold nth
 simp [List.getD_eq_getElem?_getD,h]
structure LRel (l k:List Va):Prop where
 len:k.length=l.length
 zero:(nth va0 l 0).kind≠9
 pair:∀i,(nth va0 l i).kind=2↔(nth va0 l (i+1)).kind=9
 rd:∀i,1≤(nth va0 l i).kind→(nth va0 l i).kind≤3→nth va0 k i=im (nth va0 l i)
 long:∀i,(nth va0 l i).kind=2→(nth va0 k (i+1)).kind=4
 back:∀i,1≤(nth va0 k i).kind→(nth va0 k i).kind≤3→((nth va0 k i).kind=2→(nth va0 k (i+1)).kind=4)→(nth va0 l i).kind=(nth va0 k i).kind
def stoM (k:List Va) (a:Nat) (v:Va):List Va:=if v.kind=2 then (k.set a v).set (a+1) ⟨4,0⟩ else k.set a v
theorem stoM_length (k:List Va) (a:Nat) (v:Va):(stoM k a v).length=k.length:=by unfold stoM;split<;>simp
theorem los_length (l:List Va) (a:Nat):(losP l a).length=l.length:=losP_length l a
theorem sto_length (l:List Va) (a:Nat) (v:Va):(stoP l a v).length=l.length:=stoP_length l a v
theorem los_nth (l:List Va) (a j:Nat) (ha:a<l.length):nth va0 (losP l a) j=if j=a∨((nth va0 l a).kind=9∧j=a-1)∨((nth va0 l a).kind=2∧j=a+1) then va0 else nth va0 l j:=by
 have hz:∀(l:List Va) i,nth va0 (l.set i va0) j=if i=j then va0 else nth va0 l j:=by
  intro l i
  rw [nth_set]
  by_cases h:i=j
  ·by_cases hl:i<l.length
   ·rw [if_pos ⟨h,hl⟩,if_pos h]
   ·rw [if_neg (fun x=>hl x.2),if_pos h,nth_out (by omega)]
  ·rw [if_neg (fun x=>h x.1),if_neg h]
 unfold losP
 by_cases h9:(nth va0 l a).kind=9
 ·rw [if_pos h9,hz,hz]
  have h2:¬(nth va0 l a).kind=2:=by omega
  by_cases h1:a=j
  ·rw [if_pos h1,if_pos (Or.inl h1.symm)]
  ·rw [if_neg h1]
   by_cases h3:a-1=j
   ·rw [if_pos h3,if_pos (Or.inr (Or.inl ⟨h9,h3.symm⟩))]
   ·rw [if_neg h3,if_neg];rintro (h|h|h)
    ·exact h1 h.symm
    ·exact h3 h.2.symm
    ·exact h2 h.1
 ·rw [if_neg h9]
  by_cases h2:(nth va0 l a).kind=2
  ·rw [if_pos h2,hz,hz]
   by_cases h1:a=j
   ·rw [if_pos h1,if_pos (Or.inl h1.symm)]
   ·rw [if_neg h1]
    by_cases h3:a+1=j
    ·rw [if_pos h3,if_pos (Or.inr (Or.inr ⟨h2,h3.symm⟩))]
    ·rw [if_neg h3,if_neg];rintro (h|h|h)
     ·exact h1 h.symm
     ·exact h9 h.1
     ·exact h3 h.2.symm
  ·rw [if_neg h2,hz]
   by_cases h1:a=j
   ·rw [if_pos h1,if_pos (Or.inl h1.symm)]
   ·rw [if_neg h1,if_neg];rintro (h|h|h)
    ·exact h1 h.symm
    ·exact h9 h.1
    ·exact h2 h.1
theorem LRel.los {l k:List Va} (h:LRel l k) {a:Nat} (ha:a<l.length) (x:Va) (hx:x.kind=0∨4<x.kind):LRel (losP l a) (k.set a x):=by
 have e:=fun j=>los_nth l a j ha
 have e':=fun j=>nth_set va0 k a j x
 have hk:a<k.length:=by rw [h.len];exact ha
 refine ⟨?_,?_,fun i=>?_,fun i h1 h2=>?_,fun i h1=>?_,fun i h1 h2 h3=>?_⟩
 ·rw [List.length_set,los_length,h.len]
 ·rw [e];split
  ·decide
  ·exact h.zero
 ·rw [e,e]
  have hp:=h.pair i
  have hp1:=h.pair a
  have hp0:=h.pair (a-1)
  have hz:=h.zero
  by_cases c1:i=a
  ·subst c1
   rw [if_pos (Or.inl rfl)]
   constructor
   ·intro q;exact absurd q (by decide)
   ·intro q
    split at q
    ·exact absurd q (by decide)
    ·rename_i hn
     have:=hp.mpr q
     exact absurd (Or.inr (Or.inr ⟨this,rfl⟩)) hn
  by_cases c2:i+1=a
  ·have c2':i=a-1:=by omega
   rw [if_pos (Or.inl c2:i+1=a∨_)]
   constructor
   ·intro q
    split at q
    ·exact absurd q (by decide)
    ·rename_i hn
     have:=hp.mp q
     rw [c2] at this
     exact absurd (Or.inr (Or.inl ⟨this,c2'⟩)) hn
   ·intro q;exact absurd q (by decide)
  by_cases c3:(nth va0 l a).kind=2∧i=a+1
  ·have hn:(nth va0 l i).kind=9:=by rw [c3.2];exact hp1.mp c3.1
   rw [if_pos (Or.inr (Or.inr c3))]
   rw [if_neg (by rintro (q|q|q)<;>omega)]
   constructor
   ·intro q;exact absurd q (by decide)
   ·intro q
    have:=hp.mpr q
    omega
  by_cases c4:(nth va0 l a).kind=9∧i+1=a-1
  ·have hn:(nth va0 l (a-1)).kind=2:=by
    have e1:a-1+1=a:=by omega
    rw [e1] at hp0
    exact hp0.mpr c4.1
   rw [if_pos (Or.inr (Or.inl c4):i+1=a∨((nth va0 l a).kind=9∧i+1=a-1)∨_)]
   rw [if_neg (by rintro (q|q|q)<;>omega)]
   constructor
   ·intro q
    have:=hp.mp q
    rw [c4.2] at this
    omega
   ·intro q;exact absurd q (by decide)
  rw [if_neg (by rintro (q|q|q)<;>omega)]
  by_cases c5:(nth va0 l a).kind=9∧i=a-1
  ·exact absurd c5.2 (by omega)
  rw [if_neg]
  ·exact hp
  ·rintro (q|q|q)
   ·omega
   ·exact c4 q
   ·omega
 ·rw [e] at h1 h2 ⊢
  split at h1
  ·exact absurd h1 (by decide)
  ·rename_i hn
   rw [if_neg hn] at h2 ⊢
   rw [e',if_neg (fun q=>hn (Or.inl q.1.symm))]
   exact h.rd i h1 h2
 ·rw [e] at h1
  split at h1
  ·exact absurd h1 (by decide)
  ·rename_i hn
   have hl:=h.long i h1
   rw [e',if_neg]
   ·exact hl
   ·rintro ⟨q,-⟩
    have hp:=(h.pair i).mp h1
    rw [←q] at hp
    exact hn (Or.inr (Or.inl ⟨hp,by omega⟩))
 ·rw [e'] at h1 h2
  split at h1
  ·rename_i hq
   rw [if_pos hq] at h2
   omega
  ·rename_i hn
   rw [if_neg hn] at h2
   rw [e',if_neg hn] at h3 ⊢
   have hb:(nth va0 l i).kind=(nth va0 k i).kind:=by
    refine h.back i h1 h2 fun q=>?_
    have h4:=h3 q
    rw [e'] at h4
    split at h4
    ·omega
    ·exact h4
   rw [e,if_neg]
   ·exact hb
   ·rintro (q|q|q)
    ·exact hn ⟨q.symm,hk⟩
    ·have e1:a-1+1=a:=by
      have:a≠0:=fun z=>h.zero (by rw [←z];exact q.1)
      omega
     have hp:=h.pair (a-1)
     rw [e1] at hp
     have h2':=hp.mpr q.1
     rw [←q.2,hb] at h2'
     have h4:=h3 h2'
     rw [e',q.2,e1,if_pos ⟨rfl,hk⟩] at h4
     omega
    ·have hp:=(h.pair a).mp q.1
     rw [←q.2,hb] at hp
     omega
theorem LRel.sto {l k:List Va} (h:LRel l k) {a:Nat} (ha:a<l.length) (v:Va) (hv:1≤v.kind∧v.kind≤3) (h2:v.kind=2→a+1<l.length):LRel (stoP l a v) (stoM k a (im v)):=by
 have hv2:(im v).kind=v.kind:=rfl
 by_cases hk:v.kind=2
 ·have ha1:=h2 hk
  have r1:=(h.los ha va0 (Or.inl rfl)).los (a:=a+1) (by rw [los_length];exact ha1) va0 (Or.inl rfl)
  have r0:stoP l a v=(((losP (losP l a) (a+1)).set (a+1) ⟨9,0⟩).set a v):=by unfold stoP;rw [if_pos hk]
  have r2:stoM k a (im v)=(k.set a (im v)).set (a+1) ⟨4,0⟩:=by unfold stoM;rw [if_pos (by rw [hv2];exact hk)]
  rw [r0,r2]
  have hl2:(losP (losP l a) (a+1)).length=l.length:=by rw [los_length,los_length]
  have e:∀j,nth va0 (((losP (losP l a) (a+1)).set (a+1) ⟨9,0⟩).set a v) j=if j=a then v else if j=a+1 then ⟨9,0⟩ else nth va0 (losP (losP l a) (a+1)) j:=by
   intro j
   rw [nth_set,nth_set,List.length_set,hl2]
   by_cases c1:j=a
   ·rw [if_pos ⟨c1.symm,ha⟩,if_pos c1]
   ·rw [if_neg (fun q=>c1 q.1.symm),if_neg c1]
    by_cases c2:j=a+1
    ·rw [if_pos ⟨c2.symm,ha1⟩,if_pos c2]
    ·rw [if_neg (fun q=>c2 q.1.symm),if_neg c2]
  have e':∀j,nth va0 ((k.set a (im v)).set (a+1) ⟨4,0⟩) j=if j=a then im v else if j=a+1 then ⟨4,0⟩ else nth va0 ((k.set a va0).set (a+1) va0) j:=by
   intro j
   rw [nth_set,nth_set,nth_set,nth_set,List.length_set,List.length_set,h.len]
   by_cases c1:j=a
   ·rw [if_neg (by omega),if_pos ⟨c1.symm,ha⟩,if_pos c1]
   ·rw [if_neg c1]
    by_cases c2:j=a+1
    ·rw [if_pos ⟨c2.symm,ha1⟩,if_pos c2]
    ·rw [if_neg (fun q=>c2 q.1.symm),if_neg (fun q=>c1 q.1.symm),if_neg c2,if_neg (fun q=>c2 q.1.symm),if_neg (fun q=>c1 q.1.symm)]
  have z0:nth va0 (losP (losP l a) (a+1)) a=va0:=by
   have hlt:a+1<(losP l a).length:=by rw [los_length];exact ha1
   rw [los_nth _ _ _ hlt]
   split
   ·rfl
   ·rw [los_nth _ _ _ ha,if_pos (Or.inl rfl)]
  have z1:nth va0 (losP (losP l a) (a+1)) (a+1)=va0:=by
   have hlt:a+1<(losP l a).length:=by rw [los_length];exact ha1
   rw [los_nth _ _ _ hlt,if_pos (Or.inl rfl)]
  have zp:∀i,i+1=a→(nth va0 (losP (losP l a) (a+1)) i).kind≠2:=by
   intro i hi q
   have:=(r1.pair i).mp q
   rw [hi,z0] at this
   exact absurd this (by decide)
  have zn:(nth va0 (losP (losP l a) (a+1)) (a+1+1)).kind≠9:=by
   intro q
   have:=(r1.pair (a+1)).mpr q
   rw [z1] at this
   exact absurd this (by decide)
  refine ⟨?_,?_,fun i=>?_,fun i h1 h3=>?_,fun i h1=>?_,fun i h1 h3 h4=>?_⟩
  ·simp [hl2,h.len]
  ·rw [e];split
   ·omega
   ·split
    ·omega
    ·exact r1.zero
  ·rw [e,e]
   by_cases c1:i=a
   ·subst c1;rw [if_pos rfl,if_neg (by omega),if_pos rfl];exact ⟨fun _=>rfl,fun _=>hk⟩
   ·rw [if_neg c1]
    by_cases c2:i=a+1
    ·subst c2
     rw [if_pos rfl,if_neg (by omega),if_neg (by omega)]
     constructor
     ·intro q;exact absurd q (by decide)
     ·intro q;exact absurd q zn
    ·rw [if_neg c2]
     by_cases c3:i+1=a
     ·rw [if_pos c3]
      constructor
      ·intro q;exact absurd q (zp i c3)
      ·intro q;omega
     ·rw [if_neg c3,if_neg (by omega)];exact r1.pair i
  ·rw [e] at h1 h3 ⊢
   rw [e']
   by_cases c1:i=a
   ·rw [if_pos c1,if_pos c1]
   ·rw [if_neg c1] at h1 h3 ⊢
    rw [if_neg c1]
    by_cases c2:i=a+1
    ·rw [if_pos c2] at h3;exact absurd h3 (by decide)
    ·rw [if_neg c2] at h1 h3 ⊢
     rw [if_neg c2]
     exact r1.rd i h1 h3
  ·rw [e] at h1
   rw [e']
   by_cases c1:i=a
   ·rw [if_neg (by omega),if_pos (by omega)]
   ·rw [if_neg c1] at h1
    by_cases c2:i=a+1
    ·rw [if_pos c2] at h1;exact absurd h1 (by decide)
    ·rw [if_neg c2] at h1
     by_cases c3:i+1=a
     ·exact absurd h1 (zp i c3)
     ·rw [if_neg c3,if_neg (by omega)]
      exact r1.long i h1
  ·rw [e'] at h1 h3
   rw [e,e']
   by_cases c1:i=a
   ·rw [if_pos c1,if_pos c1];rfl
   ·rw [if_neg c1] at h1 h3
    rw [if_neg c1,if_neg c1]
    by_cases c2:i=a+1
    ·rw [if_pos c2] at h3;exact absurd h3 (by decide)
    ·rw [if_neg c2] at h1 h3
     rw [if_neg c2,if_neg c2]
     refine r1.back i h1 h3 fun q=>?_
     have h5:=h4 (by rw [e',if_neg c1,if_neg c2];exact q)
     rw [e'] at h5
     by_cases c3:i+1=a
     ·rw [if_pos c3] at h5
      rw [hv2,hk] at h5
      exact absurd h5 (by decide)
     ·rw [if_neg c3,if_neg (by omega)] at h5
      exact h5
 ·have r1:=h.los ha va0 (Or.inl rfl)
  have r0:stoP l a v=(losP l a).set a v:=by unfold stoP;rw [if_neg hk]
  have r2:stoM k a (im v)=k.set a (im v):=by unfold stoM;rw [if_neg (by rw [hv2];exact hk)]
  rw [r0,r2]
  have e:∀j,nth va0 ((losP l a).set a v) j=if j=a then v else nth va0 (losP l a) j:=by
   intro j
   rw [nth_set,los_length]
   by_cases c1:j=a
   ·rw [if_pos ⟨c1.symm,ha⟩,if_pos c1]
   ·rw [if_neg (fun q=>c1 q.1.symm),if_neg c1]
  have e':∀j,nth va0 (k.set a (im v)) j=if j=a then im v else nth va0 (k.set a va0) j:=by
   intro j
   rw [nth_set,nth_set,h.len]
   by_cases c1:j=a
   ·rw [if_pos ⟨c1.symm,ha⟩,if_pos c1]
   ·rw [if_neg (fun q=>c1 q.1.symm),if_neg c1,if_neg (fun q=>c1 q.1.symm)]
  have z0:nth va0 (losP l a) a=va0:=by rw [los_nth _ _ _ ha,if_pos (Or.inl rfl)]
  have zp:∀i,i+1=a→(nth va0 (losP l a) i).kind≠2:=by
   intro i hi q
   have:=(r1.pair i).mp q
   rw [hi,z0] at this
   exact absurd this (by decide)
  have zn:(nth va0 (losP l a) (a+1)).kind≠9:=by
   intro q
   have:=(r1.pair a).mpr q
   rw [z0] at this
   exact absurd this (by decide)
  refine ⟨?_,?_,fun i=>?_,fun i h1 h3=>?_,fun i h1=>?_,fun i h1 h3 h4=>?_⟩
  ·simp [los_length,h.len]
  ·rw [e];split
   ·omega
   ·exact r1.zero
  ·rw [e,e]
   by_cases c1:i=a
   ·subst c1;rw [if_pos rfl,if_neg (by omega)]
    constructor
    ·intro q;exact absurd q hk
    ·intro q;exact absurd q zn
   ·rw [if_neg c1]
    by_cases c3:i+1=a
    ·rw [if_pos c3]
     constructor
     ·intro q;exact absurd q (zp i c3)
     ·intro q;omega
    ·rw [if_neg c3];exact r1.pair i
  ·rw [e] at h1 h3 ⊢
   rw [e']
   by_cases c1:i=a
   ·rw [if_pos c1,if_pos c1]
   ·rw [if_neg c1] at h1 h3 ⊢
    rw [if_neg c1]
    exact r1.rd i h1 h3
  ·rw [e] at h1
   rw [e']
   by_cases c1:i=a
   ·rw [if_pos c1] at h1;exact absurd h1 hk
   ·rw [if_neg c1] at h1
    by_cases c3:i+1=a
    ·exact absurd h1 (zp i c3)
    ·rw [if_neg c3]
     exact r1.long i h1
  ·rw [e'] at h1 h3
   rw [e,e']
   by_cases c1:i=a
   ·rw [if_pos c1,if_pos c1];rfl
   ·rw [if_neg c1] at h1 h3
    rw [if_neg c1,if_neg c1]
    refine r1.back i h1 h3 fun q=>?_
    have h5:=h4 (by rw [e',if_neg c1];exact q)
    rw [e'] at h5
    by_cases c3:i+1=a
    ·rw [if_pos c3] at h5
     rw [hv2] at h5
     omega
    ·rw [if_neg c3] at h5
     exact h5
theorem LRel.new (n:Nat):LRel (List.replicate n va0) (List.replicate n va0):=by
 have e:∀i,nth va0 (List.replicate n va0) i=va0:=by
  intro i
  unfold nth
  simp [List.getD_eq_getElem?_getD,List.getElem?_replicate]
  split<;>rfl
 refine ⟨rfl,?_,fun i=>?_,fun i h=>?_,fun i h=>?_,fun i h=>?_⟩
 ·rw [e];decide
 ·rw [e,e];decide
 ·rw [e] at h;exact absurd h (by decide)
 ·rw [e] at h;exact absurd h (by decide)
 ·rw [e] at h;exact absurd h (by decide)
section
open Go.Maps (Keyed has)
structure Mg where
 r:Nat
 hb:Nat
 mp:Nat
 A:Option Addr
 a:Nat
 M:Option Addr
 m:Nat
 I:Option Addr
 i:Nat
structure Mc where
 q:Nat
 lb:Nat
 lc:Nat
 P:Option Addr
 p:Nat
 C:Option Addr
 c:Nat
 K:Option Addr
 k:Nat
def runRow (g:Mg) (h:Hp) (vc vx:Value):Array Value :=
 #[.pointer (some ⟨g.hb,0,none⟩),.slice g.M h.file.methods.length g.m,.func (.func 51) #[] #[],vc,.slice g.I h.input.length g.i,.int .i64 h.fuel,.int .i64 h.sh.steps,.int .i64 h.sh.used,vx]
def heapRow (g:Mg) (h:Hp) (vo:Value):Array Value:=#[.slice g.A h.file.classes.length g.a,vo,.map (some g.mp)]
def callRow (g:Mg) (a:Mc) (c:Cal) (vs:Value):Array Value :=
 #[.pointer (some ⟨g.hb,0,none⟩),.pointer (some ⟨g.r,0,none⟩),.slice a.P c.m.params.length a.p,.int .i64 c.m.ret.kind,.int .i64 c.m.ret.cls,.int .i64 c.m.stack,.int .i64 c.m.locs,.int .i64 c.m.regs,.slice a.C c.m.code.length a.c,.slice a.K c.m.hands.length a.k,
  .int .i64 c.pc,.slice (some ⟨a.lb,0,none⟩) c.locs.length a.lc,vs]
def funs (q:Nat):List Value :=
 [.func (.func 66) #[.pointer (some ⟨q,0,none⟩)] #[],.func (.func 67) #[.pointer (some ⟨q,0,none⟩)] #[],.func (.func 68) #[.pointer (some ⟨q,0,none⟩)] #[]]
def callCells:List Nat→List Value
 | []=>[]
 | q::l=>funs q++callCells l
theorem callCells_length (l:List Nat):(callCells l).length=l.length*3:=by
 induction l with
 | nil=>rfl
 | cons x l ih=>simp [callCells,funs,ih];omega
theorem callCells_append (l k:List Nat):callCells (l++k)=callCells l++callCells k:=by
 induction l with
 | nil=>rfl
 | cons x l ih=>simp [callCells,ih]
def mvElem (v:Value):Option (DataW Nat×List MemPlace):=match v with
 | .agg cs=>match cs.toList with
  | [.int .i64 k,.int .i64 n]=>some (.agg [.lit (.int .i64 k),.lit (.int .i64 n)],[])
  | _=>none
 | _=>none
def mvD (v:Va):DataW Nat:=.agg [.lit (.int .i64 v.kind),.lit (.int .i64 v.n)]
theorem mvElem_mk (v:Va):mvElem (mvV v)=some (mvD v,[]):=rfl
theorem mvElem_inv {v:Value} {x:Va} {ps:List MemPlace} (h:mvElem v=some (mvD x,ps)):v=mvV x:=by
 unfold mvElem at h
 split at h
 ·rename_i cs
  split at h
  ·rename_i k n hc
   simp only [Option.some.injEq,Prod.mk.injEq,mvD,DataW.agg.injEq,List.cons.injEq,DataW.lit.injEq,Lit.int.injEq,true_and,and_true] at h
   obtain ⟨⟨h1,h2⟩,-⟩:=h
   have:cs=#[.int .i64 k,.int .i64 n]:=by
    apply Array.ext'
    exact hc
   rw [this,h1,h2]
  ·cases h
 ·cases h
structure FldAt (s:Nat) (w:World) (mp:Nat) (h:Hp) (n:Nat) (D:DataW Nat):Prop where
 own:w.ownsMap Try.prog 159 mvElem mp n D
 few:(n:Int)+s≤h.sh.steps
 hit:∀(o:Nat) (c k:Int) (v:Va),o<h.objs.length→I64 c→I64 k→(∃x∈(nth ob0 h.objs o).held,x.cls=c∧x.fld=k∧x.v=v)→has D (keyM (o+1) c k)=true→∀z,D.atKey (keyM (o+1) c k) z=mvD (im v)
 miss:∀(o:Nat) (c k:Int) (v:Va),o<h.objs.length→I64 c→I64 k→(∃x∈(nth ob0 h.objs o).held,x.cls=c∧x.fld=k∧x.v=v)→has D (keyM (o+1) c k)=false→v=initV (fieldT h.file.classes c k)
 new:∀(o:Nat) (c k:Int),h.objs.length≤o→o≤100→I64 c→I64 k→has D (keyM (o+1) c k)=false
 ks:∀(o:Nat),o<h.objs.length→(nth ob0 h.objs o).held.map (fun x=>(x.cls,x.fld))=(newHeld h.file.classes (nth ob0 h.objs o).cls.toNat).map (fun x=>(x.cls,x.fld))
 kd:∀(o:Nat),o<h.objs.length→∀x∈(nth ob0 h.objs o).held,x.v.kind=(fieldT h.file.classes x.cls x.fld).kind
structure RH (s:Nat) (w0:World) (g:Mg) (w:World) (h:Hp) (qs:List Nat) (vc vo vx:Value):Prop where
 ownr:w0.heap.size≤g.r
 ownh:w0.heap.size≤g.hb
 ownm:w0.heap.size≤g.mp
 bl:Bl w0 w
 run:w.heap[g.r]?=some (.cells (runRow g h vc vx) 98 (0,0))
 hp:w.heap[g.hb]?=some (.cells (heapRow g h vo) 133 (0,0))
 out:w.ownsRow w0.heap.size 2 1 vx h.sh.out.length (h.sh.out.map (Value.int .i64))
 obs:w.ownsRow w0.heap.size 3 1 vo h.objs.length (h.objs.map (fun o=>Value.int .i64 o.cls))
 calls:w.ownsRow w0.heap.size 93 3 vc qs.length (callCells qs)
 fld:∃n D,FldAt s w g.mp h n D
structure CA (w0:World) (g:Mg) (w:World) (a:Mc) (c:Cal) (l:List Va) (vs:Value):Prop where
 own:w0.heap.size≤a.q
 ownl:w0.heap.size≤a.lb
 blk:w.heap[a.q]?=some (.cells (callRow g a c vs) 102 (0,0))
 loc:w.heap[a.lb]?=some (.cells (vaCells l).toArray 109 (0,0))
 rel:LRel c.locs l
 stk:w.ownsRow w0.heap.size 109 2 vs c.stk.length (vaCells (c.stk.map im))
 apart:vs.ownBlock≠some a.lb
 me:MeAt w0 c.m a.P a.C a.K
 short:c.locs.length≤1000
 kinds:∀v∈c.stk,1≤v.kind∧v.kind≤3
structure FarR (g:Mg) (vc vo vx:Value) (b:Nat):Prop where
 r:b≠g.r
 h:b≠g.hb
 m:b≠g.mp
 c:vc.ownBlock≠some b
 o:vo.ownBlock≠some b
 x:vx.ownBlock≠some b
structure FarC (a:Mc) (vs:Value) (b:Nat):Prop where
 q:b≠a.q
 l:b≠a.lb
 s:vs.ownBlock≠some b
structure KeptX (X:Nat→Prop) (wx w:World):Prop where
 size:wx.heap.size≤w.heap.size
 blk:∀b,X b→b<wx.heap.size∧w.heap[b]?=wx.heap[b]?
def HX (s:Nat) (X:Nat→Prop) (wx w0:World) (g:Mg) (w:World) (h:Hp) (qs:List Nat):Prop :=
 ∃vc vo vx,RH s w0 g w h qs vc vo vx∧(∀b,X b→FarR g vc vo vx b)∧KeptX X wx w
structure RXA (s:Nat) (X:Nat→Prop) (wx w0:World) (g:Mg) (w:World) (h:Hp) (qs:List Nat) (a:Mc) (c:Cal) (vc vo vx vs:Value) (l:List Va):Prop where
 rh:RH s w0 g w h qs vc vo vx
 ca:CA w0 g w a c l vs
 farr:∀b,X b→FarR g vc vo vx b
 farc:∀b,X b→FarC a vs b
 kept:KeptX X wx w
def RX (s:Nat) (X:Nat→Prop) (wx w0:World) (g:Mg) (w:World) (h:Hp) (qs:List Nat) (a:Mc) (c:Cal):Prop :=
 ∃vc vo vx vs l,RXA s X wx w0 g w h qs a c vc vo vx vs l
theorem blk_ne {w:World} {b b':Nat} {cs cs':Array Value} {t t':TypeId} {f f':Nat×Nat} (h:w.heap[b]?=some (.cells cs t f)) (h':w.heap[b']?=some (.cells cs' t' f')) (ht:t≠t'):b≠b':=by
 rintro rfl
 rw [h] at h'
 simp at h'
 exact ht h'.2.1
theorem row_ne {w:World} {base base':Nat} {e e':TypeId} {size size' n n':Nat} {v v':Value} {xs xs':List Value} (h:w.ownsRow base e size v n xs) (h':w.ownsRow base' e' size' v' n' xs') (ht:e≠e'):v.ownBlock=none∨v.ownBlock≠v'.ownBlock:=by
 rcases h.2 with ⟨rfl,-⟩|⟨gb,cap,cur,rfl,h2,h3,h4⟩
 ·exact Or.inl rfl
 ·right
  intro hc
  have:=own_far h' h3 ht
  exact this hc.symm
theorem map_ne {w:World} {b mp n:Nat} {D:DataW Nat} {cs:Array Value} {t:TypeId} {f:Nat×Nat} (h:w.heap[b]?=some (.cells cs t f)) (hm:w.ownsMap Try.prog 159 mvElem mp n D):b≠mp:=by
 obtain ⟨es,ck,hb,-⟩:=hm
 rintro rfl
 rw [h] at hb
 simp at hb
theorem map_row {w:World} {base:Nat} {e:TypeId} {size k:Nat} {v:Value} {xs:List Value} (h:w.ownsRow base e size v k xs) {mp n:Nat} {D:DataW Nat} (hm:w.ownsMap Try.prog 159 mvElem mp n D):v.ownBlock≠some mp:=by
 obtain ⟨es,ck,hb,-⟩:=hm
 intro hc
 rcases h.2 with ⟨rfl,-⟩|⟨gb,cap,cur,rfl,h2,h3,h4⟩
 ·simp [Value.ownBlock] at hc
 ·simp [Value.ownBlock] at hc
  subst hc
  rw [h3] at hb
  simp at hb
theorem grown_bl {w w':World} (h:Bl w w') (row:Option Nat):w.grownBy w' row:=⟨h.os,h.tape,h.output,h.size,fun i hi _=>h.block i hi⟩
theorem grown_blk {w w':World} {row:Option Nat} (hg:w.grownBy w' row) {b:Nat} {o:Obj} (h:w.heap[b]?=some o) (hr:row≠some b):w'.heap[b]?=some o:=by
 rw [hg.block b (lt_some h) (fun e=>hr e.symm)];exact h
theorem RH.kept {s:Nat} {w0 w w':World} {g:Mg} {h:Hp} {qs:List Nat} {vc vo vx:Value} (H:RH s w0 g w h qs vc vo vx) {row:Option Nat} (hg:w.grownBy w' row)
  (far:∀b,row=some b→w0.heap.size≤b∧FarR g vc vo vx b):RH s w0 g w' h qs vc vo vx:=by
 have hne:∀v:Value,(∀b,row=some b→v.ownBlock≠some b)→(v.ownBlock=none∨v.ownBlock≠row):=by
  intro v hv
  cases hr:row with
  | none=>cases hv':v.ownBlock<;>simp
  | some b=>right;exact hv b hr
 refine ⟨H.ownr,H.ownh,H.ownm,Below.grown H.bl hg H.bl.size (fun k hk=>(far k hk).1),grown_blk hg H.run (fun e=>(far _ e).2.r rfl),grown_blk hg H.hp (fun e=>(far _ e).2.h rfl),
  H.out.kept hg (hne vx fun b e=>(far b e).2.x),H.obs.kept hg (hne vo fun b e=>(far b e).2.o),H.calls.kept hg (hne vc fun b e=>(far b e).2.c),?_⟩
 obtain ⟨n,D,F⟩:=H.fld
 exact ⟨n,D,F.own.kept hg (fun e=>(far _ e.symm).2.m rfl),F.few,F.hit,F.miss,F.new,F.ks,F.kd⟩
theorem CA.kept {w0 w w':World} {g:Mg} {a:Mc} {c:Cal} {l:List Va} {vs:Value} (H:CA w0 g w a c l vs) {row:Option Nat} (hg:w.grownBy w' row)
  (far:∀b,row=some b→FarC a vs b):CA w0 g w' a c l vs:=by
 refine ⟨H.own,H.ownl,grown_blk hg H.blk (fun e=>(far _ e).q rfl),grown_blk hg H.loc (fun e=>(far _ e).l rfl),H.rel,H.stk.kept hg ?_,H.apart,H.me,H.short,H.kinds⟩
 cases hr:row with
 | none=>cases hv':vs.ownBlock<;>simp
 | some b=>right;exact (far b hr).s
theorem KeptX.kept {X:Nat→Prop} {wx w w':World} (H:KeptX X wx w) {row:Option Nat} (hg:w.grownBy w' row) (far:∀b,row=some b→¬X b):KeptX X wx w' :=
 ⟨Nat.le_trans H.size hg.size,fun b hb=>⟨(H.blk b hb).1,by
  rw [hg.block b (Nat.lt_of_lt_of_le (H.blk b hb).1 H.size) (fun e=>far b e.symm hb)];exact (H.blk b hb).2⟩⟩
theorem RH.far {s:Nat} {w0 w:World} {g:Mg} {h:Hp} {qs:List Nat} {vc vo vx:Value} (H:RH s w0 g w h qs vc vo vx) {b:Nat} {cs:Array Value} {t:TypeId} {f:Nat×Nat} (hb:w.heap[b]?=some (.cells cs t f))
  (h1:t≠98) (h2:t≠133) (h3:t≠93) (h4:t≠3) (h5:t≠2):FarR g vc vo vx b:=by
 obtain ⟨n,D,F⟩:=H.fld
 exact ⟨blk_ne hb H.run h1,blk_ne hb H.hp h2,map_ne hb F.own,own_far H.calls hb h3,own_far H.obs hb h4,own_far H.out hb h5⟩
theorem CA.far {s:Nat} {w0 w:World} {g:Mg} {h:Hp} {qs:List Nat} {vc vo vx:Value} (H:RH s w0 g w h qs vc vo vx) {a:Mc} {c:Cal} {l:List Va} {vs:Value} (K:CA w0 g w a c l vs) :
  FarR g vc vo vx a.q∧FarR g vc vo vx a.lb∧∀b,vs.ownBlock=some b→FarR g vc vo vx b:=by
 refine ⟨H.far K.blk (by decide) (by decide) (by decide) (by decide) (by decide),H.far K.loc (by decide) (by decide) (by decide) (by decide) (by decide),fun b hb=>?_⟩
 rcases K.stk.2 with ⟨rfl,-⟩|⟨gb,cap,cur,rfl,h2,h3,h4⟩
 ·simp [Value.ownBlock] at hb
 ·simp [Value.ownBlock] at hb
  subst hb
  exact H.far h3 (by decide) (by decide) (by decide) (by decide) (by decide)
theorem CA.farC {s:Nat} {w0 w:World} {g:Mg} {h:Hp} {qs:List Nat} {vc vo vx:Value} (H:RH s w0 g w h qs vc vo vx) {a:Mc} {c:Cal} {l:List Va} {vs:Value} (K:CA w0 g w a c l vs) :
  FarC a vs g.r∧FarC a vs g.hb∧FarC a vs g.mp∧(∀b,vc.ownBlock=some b→FarC a vs b)∧(∀b,vo.ownBlock=some b→FarC a vs b)∧(∀b,vx.ownBlock=some b→FarC a vs b):=by
 obtain ⟨f1,f2,f3⟩:=K.far H
 refine ⟨⟨Ne.symm f1.r,Ne.symm f2.r,fun e=>(f3 _ e).r rfl⟩,⟨Ne.symm f1.h,Ne.symm f2.h,fun e=>(f3 _ e).h rfl⟩,⟨Ne.symm f1.m,Ne.symm f2.m,fun e=>(f3 _ e).m rfl⟩,?_,?_,?_⟩
 ·exact fun b e=>⟨fun q=>f1.c (q▸e),fun q=>f2.c (q▸e),fun q=>(f3 _ q).c e⟩
 ·exact fun b e=>⟨fun q=>f1.o (q▸e),fun q=>f2.o (q▸e),fun q=>(f3 _ q).o e⟩
 ·exact fun b e=>⟨fun q=>f1.x (q▸e),fun q=>f2.x (q▸e),fun q=>(f3 _ q).x e⟩
theorem RXA.bl {s:Nat} {X:Nat→Prop} {wx w0 w w':World} {g:Mg} {h:Hp} {qs:List Nat} {a:Mc} {c:Cal} {vc vo vx vs:Value} {l:List Va} (H:RXA s X wx w0 g w h qs a c vc vo vx vs l) (hb:Bl w w'):RXA s X wx w0 g w' h qs a c vc vo vx vs l :=
 ⟨H.rh.kept (grown_bl hb none) (fun b e=>by cases e),H.ca.kept (grown_bl hb none) (fun b e=>by cases e),H.farr,H.farc,H.kept.kept (grown_bl hb none) (fun b e=>by cases e)⟩
theorem RX.bl {s:Nat} {X:Nat→Prop} {wx w0 w w':World} {g:Mg} {h:Hp} {qs:List Nat} {a:Mc} {c:Cal} (H:RX s X wx w0 g w h qs a c) (hb:Bl w w'):RX s X wx w0 g w' h qs a c:=by
 obtain ⟨vc,vo,vx,vs,l,H⟩:=H
 exact ⟨vc,vo,vx,vs,l,H.bl hb⟩
theorem HX.bl {s:Nat} {X:Nat→Prop} {wx w0 w w':World} {g:Mg} {h:Hp} {qs:List Nat} (H:HX s X wx w0 g w h qs) (hb:Bl w w'):HX s X wx w0 g w' h qs:=by
 obtain ⟨vc,vo,vx,H,f,k⟩:=H
 exact ⟨vc,vo,vx,H.kept (grown_bl hb none) (fun b e=>by cases e),f,k.kept (grown_bl hb none) (fun b e=>by cases e)⟩
structure Kp (n:Nat) (w w':World):Prop where
 size:w.heap.size≤w'.heap.size
 blk:∀b,n≤b→b<w.heap.size→w'.heap[b]?=w.heap[b]?
def Xp (X:Nat→Prop) (n m:Nat):Nat→Prop:=fun b=>X b∨(n≤b∧b<m)
theorem row_lt {w:World} {base:Nat} {e:TypeId} {size n:Nat} {v:Value} {xs:List Value} (h:w.ownsRow base e size v n xs) {b:Nat} (hb:v.ownBlock=some b):b<w.heap.size:=by
 rcases h.2 with ⟨rfl,-⟩|⟨gb,cap,cur,rfl,h2,h3,h4⟩
 ·simp [Value.ownBlock] at hb
 ·simp [Value.ownBlock] at hb;subst hb;exact lt_some h3
theorem RH.farNew {s:Nat} {w0 w:World} {g:Mg} {h:Hp} {qs:List Nat} {vc vo vx:Value} (H:RH s w0 g w h qs vc vo vx) {b:Nat} (hb:w.heap.size≤b):FarR g vc vo vx b:=by
 obtain ⟨n,D,F⟩:=H.fld
 have h1:=lt_some H.run
 have h2:=lt_some H.hp
 have h3:=F.own.lt
 exact ⟨by omega,by omega,by omega,fun e=>by have:=row_lt H.calls e;omega,fun e=>by have:=row_lt H.obs e;omega,fun e=>by have:=row_lt H.out e;omega⟩
theorem CA.farNew {w0 w:World} {g:Mg} {a:Mc} {c:Cal} {l:List Va} {vs:Value} (K:CA w0 g w a c l vs) {b:Nat} (hb:w.heap.size≤b):FarC a vs b:=by
 have h1:=lt_some K.blk
 have h2:=lt_some K.loc
 exact ⟨by omega,by omega,fun e=>by have:=row_lt K.stk e;omega⟩
theorem RX.wide {s:Nat} {X:Nat→Prop} {wx w0 w w':World} {g:Mg} {h:Hp} {qs:List Nat} {a:Mc} {c:Cal} (H:RX s X wx w0 g w h qs a c) (hb:Bl w w'):RX s (Xp X w.heap.size w'.heap.size) w' w0 g w' h qs a c:=by
 obtain ⟨vc,vo,vx,vs,l,H⟩:=H
 have H':=H.bl hb
 refine ⟨vc,vo,vx,vs,l,H'.rh,H'.ca,?_,?_,⟨Nat.le_refl _,fun b hx=>⟨?_,rfl⟩⟩⟩
 ·rintro b (hx|hx)
  ·exact H.farr b hx
  ·exact H.rh.farNew hx.1
 ·rintro b (hx|hx)
  ·exact H.farc b hx
  ·exact H.ca.farNew hx.1
 ·rcases hx with hx|hx
  ·have:=(H'.kept.blk b hx).1;have:=H'.kept.size;omega
  ·exact hx.2
theorem RX.back {s s':Nat} {X:Nat→Prop} {wx w0 w w' w2:World} {g:Mg} {h h':Hp} {qs qs':List Nat} {a a':Mc} {c c':Cal} (H:RX s X wx w0 g w h qs a c) (hb:Bl w w') (H2:RX s' (Xp X w.heap.size w'.heap.size) w' w0 g w2 h' qs' a' c') :
  RX s' X wx w0 g w2 h' qs' a' c'∧Kp w.heap.size w' w2:=by
 obtain ⟨vc,vo,vx,vs,l,H⟩:=H
 obtain ⟨vc',vo',vx',vs',l',H2⟩:=H2
 have H':=H.bl hb
 refine ⟨⟨vc',vo',vx',vs',l',H2.rh,H2.ca,fun b hx=>H2.farr b (Or.inl hx),fun b hx=>H2.farc b (Or.inl hx),Nat.le_trans H'.kept.size H2.kept.size,fun b hx=>⟨(H.kept.blk b hx).1,?_⟩⟩,H2.kept.size,fun b h1 h2=>(H2.kept.blk b (Or.inr ⟨h1,h2⟩)).2⟩
 rw [(H2.kept.blk b (Or.inl hx)).2]
 exact (H'.kept.blk b hx).2
theorem RX.use {s:Nat} {X:Nat→Prop} {wx w0 w w':World} {g:Mg} {h:Hp} {qs:List Nat} {a:Mc} {c:Cal} (H:RX s X wx w0 g w h qs a c) (hb:Bl w w') {f:FuncId} {args:Array Value} {Q:Ending→Prop} {s':Nat} {h':Hp} {qs':List Nat} {P:Cal→Prop}
  (hc:∀X wx w,RX s X wx w0 g w h qs a c→Calls Try.prog f args w fun e w2=>Q e∧∃c',P c'∧RX s' X wx w0 g w2 h' qs' a c') :
  Calls Try.prog f args w' fun e w2=>Q e∧(∃c',P c'∧RX s' X wx w0 g w2 h' qs' a c')∧Kp w.heap.size w' w2:=by
 refine (hc _ _ _ (H.wide hb)).mono ?_
 rintro e w2 ⟨he,c',hp,H2⟩
 obtain ⟨h3,h4⟩:=H.back hb H2
 exact ⟨he,⟨c',hp,h3⟩,h4⟩
end
end Go.Proofs.Ytgiiapenmjollaa
