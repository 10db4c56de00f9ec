import Derived.Test.YtgiiapenmjollaaSlaa
namespace Go.Proofs.Ytgiiapenmjollaa
set_option linter.all false
set_option maxHeartbeats 40000000
open Go.RowKit
theorem nth_drop {α:Type} {d:α} {l:List α} {n i:Nat}:nth d (l.drop n) i=nth d l (n+i):=by simp [nth,List.getD,List.getElem?_drop]
structure GdV (h:Hp) (v:Va):Prop where
 ref:v.kind=3→-1≤v.n∧v.n<h.objs.length
 num:I64 v.n
theorem gdV0 (h:Hp):GdV h va0:=⟨fun e=>absurd e (by decide),by unfold I64;decide⟩
theorem top_mem {c:Cal} {k i:Nat} (hk:k≤c.stk.length) (hi:i<k):nth va0 (c.top k) i∈c.stk:=by
 have e:c.top k=c.stk.drop (c.stk.length-k):=by unfold Cal.top;rw [if_pos hk]
 rw [e,nth_drop]
 exact nth_mem (by omega)
structure InOk (cs:List Cl) (nm ncode:Nat) (locs:Int) (i:In):Prop where
 op:1≤i.op∧i.op≤25
 slot:i.op=4∨i.op=5→0≤i.a∧i.a<locs∧(i.b=2→i.a+1<locs)∧i.b≠0
 kind:i.op=4∨i.op=5→1≤i.b∧i.b≤3
 fld:i.op=15∨i.op=16→0≤i.a∧i.a<cs.length∧0≤i.b∧i.b<(nth cl0 cs i.a.toNat).fields.length
 cls:i.op=14∨i.op=17∨i.op=18→0≤i.a∧i.a<cs.length
 call:i.op=19→0≤i.a∧i.a<nm
 jump:i.op=11∨i.op=12∨i.op=13→0≤i.a∧i.a<ncode
theorem sin_ok {cs:List Cl} {nm ncode:Nat} {locs:Int} {i:In} (h:sinB cs nm ncode locs i=true):InOk cs nm ncode locs i:=by
 unfold sinB at h
 rw [Bool.and_eq_true] at h
 obtain ⟨-,h⟩:=h
 by_cases h1:i.op=1
 ·constructor<;>(intros;omega)
 rw [if_neg h1] at h
 by_cases h2:i.op=2
 ·constructor<;>(intros;omega)
 rw [if_neg h2,Bool.and_eq_true] at h
 obtain ⟨-,h⟩:=h
 by_cases h4:i.op=4∨i.op=5
 ·rw [if_pos h4] at h
  have h:=of_decide_eq_true h
  constructor<;>(intros;omega)
 rw [if_neg h4] at h
 by_cases h12:i.op=12
 ·rw [if_pos h12] at h
  have h:=of_decide_eq_true h
  constructor<;>(intros;omega)
 rw [if_neg h12] at h
 by_cases h15:i.op=15∨i.op=16
 ·rw [if_pos h15] at h
  have h:=of_decide_eq_true h
  constructor<;>(intros;first|omega|exact h)
 rw [if_neg h15,Bool.and_eq_true] at h
 obtain ⟨-,h⟩:=h
 by_cases ha:i.op=3∨i.op=8∨i.op=9∨i.op=10∨i.op=20∨i.op=21∨i.op=22∨i.op=23∨i.op=25
 ·constructor<;>(intros;omega)
 rw [if_neg ha] at h
 by_cases h6:i.op=6∨i.op=7
 ·constructor<;>(intros;omega)
 rw [if_neg h6] at h
 by_cases h11:i.op=11∨i.op=13
 ·rw [if_pos h11] at h
  have h:=of_decide_eq_true h
  constructor<;>(intros;omega)
 rw [if_neg h11] at h
 by_cases h14:i.op=14∨i.op=17∨i.op=18
 ·rw [if_pos h14] at h
  have h:=of_decide_eq_true h
  constructor<;>(intros;omega)
 rw [if_neg h14] at h
 by_cases h19:i.op=19
 ·rw [if_pos h19] at h
  have h:=of_decide_eq_true h
  constructor<;>(intros;omega)
 rw [if_neg h19] at h
 by_cases h24:i.op=24
 ·constructor<;>(intros;omega)
 rw [if_neg h24] at h
 simp at h
theorem top_no {c:Cal} {k:Nat} (hk:¬k≤c.stk.length):c.top k=List.replicate k va0:=by unfold Cal.top;rw [if_neg hk]
theorem i64_w64 (a:Int):I64 (wrap64 a):=by have:=w64_bd a;unfold I64;omega
theorem i64_w32 (a:Int):I64 (wrap32 a):=by have:=w32_bd a;unfold I64;omega
theorem i64_tmod (a b:Int) (ha:I64 a):I64 (a.tmod b):=by
 have h1:(a.tmod b).natAbs=a.natAbs%b.natAbs:=Int.natAbs_tmod a b
 have h2:a.natAbs%b.natAbs≤a.natAbs:=Nat.mod_le _ _
 have h3:=tmod_sign a b
 unfold I64 at *
 omega
theorem i64_lng (op a b:Int) (ha:I64 a):I64 (lngV op a b):=by
 have h0:I64 0:=by unfold I64;omega
 unfold lngV
 split
 ·exact i64_w64 _
 split
 ·exact i64_w64 _
 split
 ·exact i64_w64 _
 split
 ·split
  ·exact h0
  ·exact i64_w64 _
 split
 ·split
  ·exact h0
  ·exact i64_tmod a b ha
 split
 ·exact i64_w64 _
 ·exact h0
structure Le (h h':Hp):Prop where
 file:h'.file=h.file
 input:h'.input=h.input
 fuel:h'.fuel=h.fuel
 objs:h.objs.length≤h'.objs.length
 steps:h.sh.steps≤h'.sh.steps
 calls:h'.calls=h.calls
theorem Le.refl (h:Hp):Le h h:=⟨rfl,rfl,rfl,Nat.le_refl _,Int.le_refl _,rfl⟩
theorem Le.trans {a b c:Hp} (h:Le a b) (k:Le b c):Le a c:=⟨k.file.trans h.file,k.input.trans h.input,k.fuel.trans h.fuel,Nat.le_trans h.objs k.objs,Int.le_trans h.steps k.steps,k.calls.trans h.calls⟩
theorem GdV.le {h h':Hp} {v:Va} (g:GdV h v) (l:Le h h'):GdV h' v:=⟨fun e=>⟨(g.ref e).1,by have:=(g.ref e).2;have:=l.objs;omega⟩,g.num⟩
structure Gh (s:Nat) (h:Hp):Prop where
 held:∀o∈h.objs,∀x∈o.held,GdV h x.v
 thr:-1≤h.thrown∧h.thrown<h.objs.length
 used:0≤h.sh.used
 steps:h.sh.steps≤h.fuel
 fuel:0≤h.fuel∧h.fuel≤60000
 out:(h.sh.out.length:Int)+s≤h.sh.steps
 len:h.objs.length≤100
 inp:∀n∈h.input,I64 n
 calls:0≤h.calls∧h.calls≤20
theorem Gh.same {s:Nat} {h h':Hp} (g:Gh s h) (e1:h'.objs=h.objs) (e2:h'.sh.used=h.sh.used) (e3:h'.sh.steps=h.sh.steps) (e4:h'.fuel=h.fuel) (e5:h'.sh.out=h.sh.out) (e6:h'.input=h.input) (e7:h'.calls=h.calls) (ht:-1≤h'.thrown∧h'.thrown<h'.objs.length):Gh s h' :=
 ⟨fun o ho x hx=>⟨fun e=>by rw [e1];exact (g.held o (e1▸ho) x hx).ref e,(g.held o (e1▸ho) x hx).num⟩,ht,by rw [e2];exact g.used,by rw [e3,e4];exact g.steps,by rw [e4];exact g.fuel,by rw [e5,e3];exact g.out,by rw [e1];exact g.len,by rw [e6];exact g.inp,by rw [e7];exact g.calls⟩
theorem Gh.less {s:Nat} {h:Hp} (g:Gh s h):Gh 0 h:=⟨g.held,g.thr,g.used,g.steps,g.fuel,by have:=g.out;omega,g.len,g.inp,g.calls⟩
theorem fin_le (h:Hp) (e:Int):Le h (h.fin e):=by unfold Hp.fin;split<;>exact ⟨rfl,rfl,rfl,Nat.le_refl _,Int.le_refl _,rfl⟩
theorem Gh.fin {s:Nat} {h:Hp} (g:Gh s h) (e:Int):Gh s (h.fin e):=by
 unfold Hp.fin;split
 ·exact g
 ·exact g.same rfl rfl rfl rfl rfl rfl rfl g.thr
theorem must_le (h:Hp) (b:Bool):Le h (h.must b):=by unfold Hp.must;split;exact Le.refl h;exact fin_le h 6
theorem Gh.must {s:Nat} {h:Hp} (g:Gh s h) (b:Bool):Gh s (h.must b):=by unfold Hp.must;split;exact g;exact g.fin 6
theorem init_gd (h:Hp) (t:Ty):GdV h (initV t):=by
 unfold initV
 refine ⟨fun e=>?_,?_⟩
 ·dsimp only at e ⊢;rw [if_pos e];omega
 ·dsimp only;split<;>(unfold I64;omega)
theorem newHeld_gd (h:Hp) (cs:List Cl) (c:Nat):∀x∈newHeld cs c,GdV h x.v:=by
 intro x hx
 unfold newHeld at hx
 rw [List.mem_flatMap] at hx
 obtain ⟨d,-,hd⟩:=hx
 unfold heldOf at hd
 split at hd
 ·rw [List.mem_map] at hd
  obtain ⟨k,-,rfl⟩:=hd
  exact init_gd h _
 ·simp at hd
theorem new_le (h:Hp) (c:Int):Le h (h.new c):=by
 unfold Hp.new;split
 ·exact fin_le h 4
 ·exact ⟨rfl,rfl,rfl,by simp,Int.le_refl _,rfl⟩
theorem Gh.new {s:Nat} {h:Hp} (g:Gh s h) (c:Int):Gh s (h.new c):=by
 have hle:=new_le h c
 unfold Hp.new at hle ⊢;split
 ·exact g.fin 4
 ·rename_i hf
  have hlt:h.objs.length<100:=by unfold Hp.full at hf;simpa using hf
  rw [if_neg hf] at hle
  refine ⟨fun o ho x hx=>?_,?_,g.used,g.steps,g.fuel,g.out,?_,g.inp,g.calls⟩
  ·rw [List.mem_append] at ho
   rcases ho with ho|ho
   ·exact (g.held o ho x hx).le hle
   ·simp at ho;subst ho;exact newHeld_gd _ _ _ x hx
  ·have:=g.thr;dsimp only;rw [List.length_append];omega
  ·dsimp only;rw [List.length_append];simp;omega
theorem newV_gd (h:Hp) (c:Int):GdV (h.new c) h.newV:=by
 unfold Hp.newV Hp.new
 split
 ·exact gdV0 _
 ·refine ⟨fun _=>by dsimp only;rw [List.length_append];simp;omega,?_⟩
  rename_i hf
  have hlt:h.objs.length<100:=by unfold Hp.full at hf;simpa using hf
  dsimp only;unfold I64;omega
theorem raise_le (h:Hp) (c:Int):Le h (h.raise c):=by
 have:=new_le h c
 unfold Hp.raise;split
 ·exact this
 ·exact ⟨this.file,this.input,this.fuel,this.objs,this.steps,this.calls⟩
theorem Gh.raise {s:Nat} {h:Hp} (g:Gh s h) (c:Int):Gh s (h.raise c):=by
 have gn:=g.new c
 unfold Hp.raise;split
 ·exact gn
 ·rename_i ho
  refine gn.same rfl rfl rfl rfl rfl rfl rfl ?_
  dsimp only
  have hf:¬h.full=true:=fun hf=>ho (by unfold Hp.new;rw [if_pos hf];unfold Hp.fin;split<;>simp_all)
  unfold Hp.newV Hp.new
  rw [if_neg hf,if_neg hf]
  dsimp only
  rw [List.length_append]
  simp
  omega
theorem throw_le (h:Hp) (v:Va):Le h (h.throw v):=by
 unfold Hp.throw;split
 ·split
  ·exact raise_le h 1
  ·exact ⟨rfl,rfl,rfl,Nat.le_refl _,Int.le_refl _,rfl⟩
 ·exact must_le h _
theorem Gh.throw {s:Nat} {h:Hp} (g:Gh s h) (v:Va) (hv:GdV h v):Gh s (h.throw v):=by
 unfold Hp.throw;split
 ·rename_i hm
  split
  ·exact g.raise 1
  ·rename_i hn
   have hk:v.kind=3:=by have:=(mustB_true hm).1;unfold isRef at this;exact of_decide_eq_true this
   exact g.same rfl rfl rfl rfl rfl rfl rfl ⟨by dsimp only;omega,(hv.ref hk).2⟩
 ·exact g.must _
theorem findH_le (h:Hp) (r:Va) (c:Int):Le h (h.findH r c):=by
 unfold Hp.findH;split
 ·split
  ·exact raise_le h 1
  ·exact Le.refl h
 ·exact must_le h _
theorem Gh.findH {s:Nat} {h:Hp} (g:Gh s h) (r:Va) (c:Int):Gh s (h.findH r c):=by
 unfold Hp.findH;split
 ·split
  ·exact g.raise 1
  ·exact g
 ·exact g.must _
theorem getV_gd {s:Nat} {h:Hp} (g:Gh s h) (r:Va) (c k:Int) (hr:GdV h r):GdV h (h.getV r c k):=by
 unfold Hp.getV;split
 ·exact gdV0 h
 ·rename_i hn
  obtain ⟨q,hq⟩:∃q:Nat,h.findN r c k=q:=⟨(h.findN r c k).toNat,by omega⟩
  have hk:h.mustB (h.of r ⟨3,c⟩)=true:=by
   by_cases hm:h.mustB (h.of r ⟨3,c⟩)=true
   ·exact hm
   ·unfold Hp.findN at hq;rw [if_neg hm] at hq;omega
  have h3:r.kind=3:=of_ref (mustB_true hk).1
  have hn':¬r.n<0:=fun hh=>by unfold Hp.findN at hq;rw [if_pos hk,if_pos hh] at hq;omega
  have he:heldAt (h.obj r.n).held c k=q:=by unfold Hp.findN at hq;rw [if_pos hk,if_neg hn'] at hq;exact hq
  have hlt:q<(h.obj r.n).held.length:=by
   rcases heldAt_lt (h.obj r.n).held c k with h0|⟨q',h1,h2⟩
   ·omega
   ·omega
  have hol:r.n.toNat<h.objs.length:=by have:=(hr.ref h3).2;omega
  rw [hq,Int.toNat_natCast]
  exact g.held _ (nth_mem hol) _ (nth_mem hlt)
theorem put_le (h:Hp) (r:Va) (c k:Int) (v:Va):Le h (h.put r c k v):=by
 unfold Hp.put;split
 ·split
  ·exact findH_le h r c
  ·have:=findH_le h r c
   exact ⟨this.file,this.input,this.fuel,by unfold Hp.setV;dsimp only;rw [List.length_set];exact this.objs,this.steps,this.calls⟩
 ·exact must_le h _
theorem mem_set' {α:Type} {l:List α} {n:Nat} {x y:α} (h:y∈l.set n x):y=x∨y∈l:=by
 rcases List.mem_or_eq_of_mem_set h with h|h
 ·exact Or.inr h
 ·exact Or.inl h
theorem Gh.put {s:Nat} {h:Hp} (g:Gh s h) (r:Va) (c k:Int) (v:Va) (hv:GdV h v):Gh s (h.put r c k v):=by
 unfold Hp.put;split
 ·split
  ·exact g.findH r c
  ·have gf:=g.findH r c
   have gv:=hv.le (findH_le h r c)
   generalize h.findH r c=h1 at gf gv
   generalize r.n.toNat=n
   generalize (h.findN r c k).toNat=j
   refine ⟨fun o ho x hx=>?_,?_,gf.used,gf.steps,gf.fuel,gf.out,?_,gf.inp,gf.calls⟩
   ·have key:GdV h1 x.v:=by
     unfold Hp.setV at ho
     dsimp only at ho
     by_cases hn:n<h1.objs.length
     ·rcases mem_set' ho with rfl|ho
      ·dsimp only at hx
       rcases mem_set' hx with rfl|hx
       ·exact gv
       ·exact gf.held _ (nth_mem hn) x hx
      ·exact gf.held o ho x hx
     ·rw [List.set_eq_of_length_le (by omega)] at ho;exact gf.held o ho x hx
    exact ⟨fun e=>by unfold Hp.setV;dsimp only;rw [List.length_set];exact key.ref e,key.num⟩
   ·have:=gf.thr;unfold Hp.setV;dsimp only;rw [List.length_set];exact this
   ·unfold Hp.setV;dsimp only;rw [List.length_set];exact gf.len
 ·exact g.must _
theorem cast_le (h:Hp) (v:Va) (c:Int):Le h (h.cast v c):=by
 unfold Hp.cast;split
 ·split
  ·exact Le.refl h
  ·exact raise_le h 3
 ·exact must_le h _
theorem Gh.cast {s:Nat} {h:Hp} (g:Gh s h) (v:Va) (c:Int):Gh s (h.cast v c):=by
 unfold Hp.cast;split
 ·split
  ·exact g
  ·exact g.raise 3
 ·exact g.must _
theorem emit_le (h:Hp) (v:Va) (k:Int):Le h (h.emit v k):=by
 unfold Hp.emit;split
 ·exact ⟨rfl,rfl,rfl,Nat.le_refl _,Int.le_refl _,rfl⟩
 ·exact must_le h _
theorem Gh.emit {h:Hp} (g:Gh 1 h) (v:Va) (k:Int):Gh 0 (h.emit v k):=by
 unfold Hp.emit;split
 ·refine ⟨(fun o ho x hx=>⟨(g.held o ho x hx).ref,(g.held o ho x hx).num⟩),g.thr,g.used,g.steps,g.fuel,?_,g.len,g.inp,g.calls⟩
  have:=g.out;dsimp only;rw [List.length_append];simp;omega
 ·exact (g.must _).less
theorem input_le (h:Hp):Le h h.input':=by
 unfold Hp.input';split
 ·exact fin_le h 3
 ·exact ⟨rfl,rfl,rfl,Nat.le_refl _,Int.le_refl _,rfl⟩
theorem Gh.input {s:Nat} {h:Hp} (g:Gh s h):Gh s h.input':=by
 unfold Hp.input';split
 ·exact g.fin 3
 ·exact ⟨(fun o ho x hx=>⟨(g.held o ho x hx).ref,(g.held o ho x hx).num⟩),g.thr,by have:=g.used;dsimp only;omega,g.steps,g.fuel,g.out,g.len,g.inp,g.calls⟩
theorem inV_gd {s:Nat} {h:Hp} (g:Gh s h):GdV h h.inV:=by
 unfold Hp.inV;split
 ·exact gdV0 h
 ·rename_i hd
  refine ⟨fun e=>by dsimp only at e;omega,?_⟩
  dsimp only
  have hu:=g.used
  have hlt:h.sh.used.toNat<h.input.length:=by unfold Hp.dry at hd;simp at hd;omega
  exact g.inp _ (nth_mem hlt)
theorem reckH_le (h:Hp) (a b:Va) (k op:Int):Le h (h.reckH a b k op):=by
 unfold Hp.reckH;split
 ·split
  ·exact Le.refl h
  ·exact raise_le h 2
 ·exact must_le h _
theorem Gh.reckH {s:Nat} {h:Hp} (g:Gh s h) (a b:Va) (k op:Int):Gh s (h.reckH a b k op):=by
 unfold Hp.reckH;split
 ·split
  ·exact g
  ·exact g.raise 2
 ·exact g.must _
theorem reckV_gd (h h':Hp) (a b:Va) (k op:Int) (hk:k=1∨k=2) (ha:I64 a.n):GdV h' (h.reckV a b k op):=by
 unfold Hp.reckV;split
 ·refine ⟨fun e=>by dsimp only at e;omega,?_⟩
  dsimp only;unfold reckN;split
  ·exact i64_w32 _
  ·exact i64_lng _ _ _ ha
 ·exact gdV0 _
theorem putH_le (h:Hp) (c:Cal) (v:Va):Le h (h.putH c v):=by
 unfold Hp.putH;split
 ·exact Le.refl h
 ·exact must_le h _
theorem Gh.putH {s:Nat} {h:Hp} (g:Gh s h) (c:Cal) (v:Va):Gh s (h.putH c v):=by
 unfold Hp.putH;split
 ·exact g
 ·exact g.must _
theorem step_le (h:Hp):Le h h.step:=by
 unfold Hp.step;split
 ·exact Le.refl h
 ·split
  ·exact fin_le h 0
  ·exact ⟨rfl,rfl,rfl,Nat.le_refl _,by dsimp only;omega,rfl⟩
theorem Gh.step {h:Hp} (g:Gh 0 h) (hb:h.stepB=true):Gh 1 h.step:=by
 unfold Hp.stepB at hb
 simp at hb
 unfold Hp.step
 rw [if_neg (by rw [hb.1];decide),if_neg (by omega)]
 exact ⟨(fun o ho x hx=>⟨(g.held o ho x hx).ref,(g.held o ho x hx).num⟩),g.thr,g.used,by dsimp only;omega,g.fuel,by have:=g.out;dsimp only;omega,g.len,g.inp,g.calls⟩
structure Gc (h:Hp) (c:Cal):Prop where
 stk:∀v∈c.stk,GdV h v
 locs:∀v∈c.locs,GdV h v
 ok:LocOk c.locs
 room:(sizP c.stk:Int)≤c.m.stack
 len:(c.locs.length:Int)=c.m.locs
 me:smeB h.file.classes h.file.methods.length c.m=true
 mok:∀i∈c.m.code,i.ok
theorem sizP_ge (l:List Va):l.length≤sizP l:=by
 induction l with
 | nil=>simp [sizP]
 | cons t l ih=>simp only [sizP,List.length_cons];split<;>omega
theorem sizP_append (l k:List Va):sizP (l++k)=sizP l+sizP k:=by
 induction l with
 | nil=>simp [sizP]
 | cons t l ih=>simp only [sizP,List.cons_append,ih];omega
theorem sizP_takeLe (l:List Va) (n:Nat):sizP (l.take n)≤sizP l:=by
 have:=sizP_append (l.take n) (l.drop n)
 rw [List.take_append_drop] at this
 omega
theorem smeP {cs:List Cl} {nm:Nat} {m:Me} (h:smeB cs nm m=true):0≤m.stack∧m.stack≤30∧(slotsN m.params:Int)≤m.locs∧m.locs≤60∧m.params.length≤4∧1≤m.code.length∧m.code.length≤400∧(∀i∈m.code,sinB cs nm m.code.length m.locs i=true)∧(∀t∈m.params,tyB cs.length t=true)∧(∀x∈m.hands,hdB cs.length m.code.length x=true)∧retB cs.length m.ret=true:=by
 unfold smeB headB at h
 simp only [Bool.and_eq_true,List.all_eq_true,decide_eq_true_eq] at h
 obtain ⟨⟨⟨⟨⟨h1,h2⟩,h3⟩,h4⟩,h5⟩,h6⟩:=h
 exact ⟨by omega,by omega,by omega,by omega,by omega,by omega,by omega,h6,h2,h3,h4⟩
theorem Gc.le {h h':Hp} {c:Cal} (g:Gc h c) (l:Le h h'):Gc h' c :=
 ⟨fun v hv=>(g.stk v hv).le l,fun v hv=>(g.locs v hv).le l,g.ok,g.room,g.len,by rw [l.file];exact g.me,g.mok⟩
theorem Gc.short {h:Hp} {c:Cal} (g:Gc h c):c.stk.length≤30:=by
 have h1:=sizP_ge c.stk
 have h2:=(smeP g.me).2.1
 have h3:=g.room
 omega
theorem Gc.cut {h:Hp} {c:Cal} (g:Gc h c) (k:Nat):Gc h (c.cut k):=by
 unfold Cal.cut;split
 ·refine ⟨fun v hv=>g.stk v (List.mem_of_mem_take hv),g.locs,g.ok,?_,g.len,g.me,g.mok⟩
  have:=sizP_takeLe c.stk (c.stk.length-k)
  have:=g.room
  dsimp only;omega
 ·exact g
theorem Gc.pc {h:Hp} {c:Cal} (g:Gc h c) (n:Int):Gc h { c with pc:=n }:=⟨g.stk,g.locs,g.ok,g.room,g.len,g.me,g.mok⟩
theorem Gc.put {h:Hp} {c:Cal} {v:Va} (g:Gc h c) (hv:GdV h v) (hr:(sizP (c.stk++[v]):Int)≤c.m.stack):Gc h (c.put v):=by
 refine ⟨fun x hx=>?_,g.locs,g.ok,hr,g.len,g.me,g.mok⟩
 unfold Cal.put at hx
 rw [List.mem_append] at hx
 rcases hx with hx|hx
 ·exact g.stk x hx
 ·simp at hx;subst hx;exact hv
theorem putH_room {h:Hp} {c:Cal} {v:Va} (ho:(h.putH c v).over=false) (hs:h.stops=false):(sizP (c.stk++[v]):Int)≤c.m.stack:=by
 unfold Hp.putH at ho
 rw [if_neg (by rw [hs];decide)] at ho
 unfold Hp.must at ho
 split at ho
 ·rename_i hd;exact of_decide_eq_true hd
 ·rename_i hd
  unfold Hp.stops at hs
  simp at hs
  simp [Hp.fin,hs.1] at ho
theorem putH_thrown (h:Hp) (c:Cal) (v:Va):(h.putH c v).thrown=h.thrown:=by
 unfold Hp.putH;split
 ·rfl
 ·unfold Hp.must;split
  ·rfl
  ·unfold Hp.fin;split<;>rfl
theorem fin_thrown (h:Hp) (e:Int):(h.fin e).thrown=h.thrown:=by unfold Hp.fin;split<;>rfl
theorem must_thrown (h:Hp) (b:Bool):(h.must b).thrown=h.thrown:=by unfold Hp.must;split;rfl;exact fin_thrown h 6
theorem set_ok {l:List Va} (h:LocOk l) (i:Nat) (v:Va) (h9:v.kind≠9) (h2:v.kind≠2):LocOk (l.set i v):=by
 have key:∀j,j<l.length→nth va0 (l.set i v) j=v∨nth va0 (l.set i v) j=nth va0 l j:=fun j hj=>by
  by_cases e:i=j
  ·subst e;exact Or.inl (nth_set_eq hj)
  ·exact Or.inr (nth_set_ne e)
 refine ⟨fun j hj hk=>?_,fun j hj hk=>?_⟩
 ·rw [List.length_set] at hj
  rcases key j hj with e|e
  ·rw [e] at hk;exact absurd hk h9
  ·rw [e] at hk;exact h.nine j hj hk
 ·rw [List.length_set] at hj ⊢
  rcases key j hj with e|e
  ·rw [e] at hk;exact absurd hk h2
  ·rw [e] at hk;exact h.two j hj hk
theorem los_ok {l:List Va} (h:LocOk l) (a:Nat):LocOk (losP l a):=by
 have h0:(va0).kind≠9:=by decide
 have h1:(va0).kind≠2:=by decide
 unfold losP;split
 ·exact set_ok (set_ok h _ _ h0 h1) _ _ h0 h1
 ·split
  ·exact set_ok (set_ok h _ _ h0 h1) _ _ h0 h1
  ·exact set_ok h _ _ h0 h1
theorem sto_ok {l:List Va} (h:LocOk l) (a:Nat) (v:Va) (h9:v.kind≠9) (h2:v.kind=2→a+1<l.length):LocOk (stoP l a v):=by
 unfold stoP;split
 ·rename_i hk
  have hl:=h2 hk
  have h3:=los_ok (los_ok h a) (a+1)
  have hlen:(losP (losP l a) (a+1)).length=l.length:=by rw [losP_length,losP_length]
  generalize losP (losP l a) (a+1)=m at h3 hlen
  refine ⟨fun j hj hj9=>?_,fun j hj hj2=>?_⟩
  ·rw [List.length_set,List.length_set] at hj
   by_cases e:a=j
   ·subst e;rw [nth_set_eq (by rw [List.length_set];exact hj)] at hj9;exact absurd hj9 h9
   ·rw [nth_set_ne e] at hj9
    by_cases e2:a+1=j
    ·omega
    ·rw [nth_set_ne e2] at hj9;exact h3.nine j hj hj9
  ·rw [List.length_set,List.length_set] at hj ⊢
   by_cases e:a=j
   ·omega
   ·rw [nth_set_ne e] at hj2
    by_cases e2:a+1=j
    ·subst e2;rw [nth_set_eq hj] at hj2;exact absurd hj2 (by decide)
    ·rw [nth_set_ne e2] at hj2;exact h3.two j hj hj2
 ·rename_i hk
  exact set_ok (los_ok h a) a v h9 hk
theorem los_mem {l:List Va} {a:Nat} {x:Va} (h:x∈losP l a):x=va0∨x∈l:=by
 unfold losP at h;split at h
 ·rcases mem_set' h with h|h
  ·exact Or.inl h
  ·exact mem_set' h
 ·split at h
  ·rcases mem_set' h with h|h
   ·exact Or.inl h
   ·exact mem_set' h
  ·exact mem_set' h
theorem sto_gd {h:Hp} {l:List Va} (hl:∀x∈l,GdV h x) {v:Va} (hv:GdV h v) (a:Nat):∀x∈stoP l a v,GdV h x:=by
 intro x hx
 have h0:=gdV0 h
 have h9:GdV h ⟨9,0⟩:=⟨fun e=>absurd e (by decide),by unfold I64;decide⟩
 unfold stoP at hx;split at hx
 ·rcases mem_set' hx with rfl|hx
  ·exact hv
  rcases mem_set' hx with rfl|hx
  ·exact h9
  rcases los_mem hx with rfl|hx
  ·exact h0
  rcases los_mem hx with rfl|hx
  ·exact h0
  exact hl x hx
 ·rcases mem_set' hx with rfl|hx
  ·exact hv
  rcases los_mem hx with rfl|hx
  ·exact h0
  exact hl x hx
structure Kept (h:Hp) (c:Cal) (d:Did):Prop where
 le:Le h d.h
 gh:Gh 0 d.h
 gc:d.h.over=false→Gc d.h d.c
 m:d.c.m=c.m
 pc:d.c.pc=c.pc
 nx:0≤d.nx∧d.nx≤c.m.code.length
theorem cut_m (c:Cal) (k:Nat):(c.cut k).m=c.m∧(c.cut k).pc=c.pc∧(c.cut k).locs=c.locs:=by unfold Cal.cut;split<;>exact ⟨rfl,rfl,rfl⟩
theorem has_go {c:Cal} {k:Nat} (h:c.has k=true):k≤c.stk.length:=of_decide_eq_true h
theorem top_gd {h:Hp} {c:Cal} (g:Gc h c) (k i:Nat) (hi:i<k) (hk:k≤c.stk.length):GdV h (nth va0 (c.top k) i):=g.stk _ (top_mem hk hi)
theorem top_gd' {h:Hp} {c:Cal} (g:Gc h c) (k i:Nat) (hi:i<k):GdV h (nth va0 (c.top k) i):=by
 by_cases hk:k≤c.stk.length
 ·exact top_gd g k i hi hk
 ·rw [top_no hk]
  have e:nth va0 (List.replicate k va0) i=va0:=by simp [nth,List.getD,hi]
  rw [e];exact gdV0 h
theorem givesH_le (h:Hp) (a b:Va) (i:In):Le h (givesH h a b i):=by
 unfold givesH
 split;exact Le.refl h
 split;exact reckH_le ..
 split;exact reckH_le ..
 split;exact must_le ..
 split;exact must_le ..
 split;exact must_le ..
 split;exact new_le ..
 split;exact findH_le ..
 split;exact cast_le ..
 split;exact must_le ..
 split;exact Le.refl h
 exact input_le h
theorem Gh.gives {s:Nat} {h:Hp} (g:Gh s h) (a b:Va) (i:In):Gh s (givesH h a b i):=by
 unfold givesH
 split;exact g
 split;exact g.reckH ..
 split;exact g.reckH ..
 split;exact g.must _
 split;exact g.must _
 split;exact g.must _
 split;exact g.new _
 split;exact g.findH ..
 split;exact g.cast ..
 split;exact g.must _
 split;exact g
 exact g.input
theorem givesV_gd {s:Nat} {h:Hp} (g:Gh s h) (a b:Va) (i:In) (ho:h.over=false) (ha:GdV h a) (hi:i.ok):GdV (givesH h a b i) (givesV h a b i):=by
 have hle:=givesH_le h a b i
 have num:∀(k n:Int) (h':Hp),k≠3→I64 n→GdV h' ⟨k,n⟩:=fun k n h' h1 h2=>⟨fun e=>absurd e h1,h2⟩
 by_cases e1:i.op=1
 ·have eH:givesH h a b i=h:=by simp [givesH,ho,e1]
  have eV:givesV h a b i=⟨1,i.n⟩:=by simp [givesV,ho,e1]
  rw [eH,eV]
  exact num _ _ _ (by omega) hi.2.2.2.2
 by_cases e2:i.op=2
 ·have eH:givesH h a b i=h:=by simp [givesH,ho,e2]
  have eV:givesV h a b i=⟨2,i.n⟩:=by simp [givesV,ho,e2]
  rw [eH,eV]
  exact num _ _ _ (by omega) hi.2.2.2.2
 by_cases e3:i.op=3
 ·have eH:givesH h a b i=h:=by simp [givesH,ho,e3]
  have eV:givesV h a b i=⟨3,-1⟩:=by simp [givesV,ho,e3]
  rw [eH,eV]
  exact ⟨fun _=>⟨Int.le_refl _,by show (-1:Int)<_;omega⟩,by show I64 (-1);unfold I64;omega⟩
 by_cases e6:i.op=6
 ·have eH:givesH h a b i=h.reckH a b 1 i.a:=by simp [givesH,ho,e6]
  have eV:givesV h a b i=h.reckV a b 1 i.a:=by simp [givesV,ho,e6]
  rw [eH,eV]
  exact reckV_gd _ _ _ _ _ _ (by omega) ha.num
 by_cases e7:i.op=7
 ·have eH:givesH h a b i=h.reckH a b 2 i.a:=by simp [givesH,ho,e7]
  have eV:givesV h a b i=h.reckV a b 2 i.a:=by simp [givesV,ho,e7]
  rw [eH,eV]
  exact reckV_gd _ _ _ _ _ _ (by omega) ha.num
 by_cases e8:i.op=8
 ·have eH:givesH h a b i=h.must (decide (a.kind=1)):=by simp [givesH,ho,e8]
  have eV:givesV h a b i=⟨2,a.n⟩:=by simp [givesV,ho,e8]
  rw [eH,eV]
  exact num _ _ _ (by omega) ha.num
 by_cases e9:i.op=9
 ·have eH:givesH h a b i=h.must (decide (a.kind=2)):=by simp [givesH,ho,e9]
  have eV:givesV h a b i=⟨1,wrap32 a.n⟩:=by simp [givesV,ho,e9]
  rw [eH,eV]
  exact num _ _ _ (by omega) (i64_w32 _)
 by_cases e10:i.op=10
 ·have eH:givesH h a b i=h.must (ofBoth a b 2):=by simp [givesH,ho,e10]
  have eV:givesV h a b i=⟨1,cmpV a.n b.n⟩:=by simp [givesV,ho,e10]
  rw [eH,eV]
  exact num _ _ _ (by omega) (by unfold cmpV;split;(unfold I64;omega);split<;>(unfold I64;omega))
 by_cases e14:i.op=14
 ·have eH:givesH h a b i=h.new i.a:=by simp [givesH,ho,e14]
  have eV:givesV h a b i=h.newV:=by simp [givesV,ho,e14]
  rw [eH,eV]
  exact newV_gd h _
 by_cases e15:i.op=15
 ·have eH:givesH h a b i=h.findH a i.a:=by simp [givesH,ho,e15]
  have eV:givesV h a b i=h.getV a i.a i.b:=by simp [givesV,ho,e15]
  rw [eH,eV]
  exact (getV_gd g a _ _ ha).le (findH_le _ _ _)
 by_cases e17:i.op=17
 ·have eH:givesH h a b i=h.cast a i.a:=by simp [givesH,ho,e17]
  have eV:givesV h a b i=a:=by simp [givesV,ho,e17]
  rw [eH,eV]
  exact ha.le (cast_le _ _ _)
 by_cases e18:i.op=18
 ·have eH:givesH h a b i=h.must (isRef a):=by simp [givesH,ho,e18]
  have eV:givesV h a b i=h.isV a i.a:=by simp [givesV,ho,e18]
  rw [eH,eV]
  exact num _ _ _ (by omega) (by split<;>(unfold I64;omega))
 have eH:givesH h a b i=h.input':=by simp [givesH,ho,e1,e2,e3,e6,e7,e8,e9,e10,e14,e15,e17,e18]
 have eV:givesV h a b i=h.inV:=by simp [givesV,ho,e1,e2,e3,e6,e7,e8,e9,e10,e14,e15,e17,e18]
 rw [eH,eV]
 exact (inV_gd g).le (input_le h)
theorem put_kept {h:Hp} {c:Cal} {v:Va} (gc:Gc h c) (hg:GdV h v) (hst:h.stops=false) (hov:(h.putH c v).over=false):Gc (h.putH c v) (c.put v) :=
 (gc.le (putH_le h c v)).put (hg.le (putH_le h c v)) (putH_room hov hst)
theorem does_kept {h:Hp} {c:Cal} {i:In} {nm:Nat} (gh:Gh 1 h) (gc:Gc h c) (ho:h.over=false) (hth:h.thrown=-1) (ok:InOk h.file.classes nm c.m.code.length c.locs.length i) (iok:i.ok) (hp:0≤c.pc∧c.pc<c.m.code.length):Kept h c (doesP h c i):=by
 have hns:h.stops=false:=by unfold Hp.stops;rw [ho,hth];rfl
 have hnx:0≤c.pc+1∧c.pc+1≤c.m.code.length:=by omega
 have cm:=fun k=>cut_m c k
 have g1:∀k,Gh 1 (h.must (c.has k)):=fun k=>gh.must _
 have l1:∀k,Le h (h.must (c.has k)):=fun k=>must_le h _
 unfold doesP
 split
 ·rename_i e
  exact ⟨Le.refl h,gh.less,fun _=>gc,rfl,rfl,by have:=ok.jump (Or.inl e);dsimp only;omega⟩
 split
 ·rename_i e
  have hj:=ok.jump (Or.inr (Or.inl e))
  unfold ifP
  exact ⟨(l1 1).trans (must_le _ _),((g1 1).must _).less,fun _=>(gc.cut 1).le ((l1 1).trans (must_le _ _)),(cm 1).1,(cm 1).2.1,by dsimp only;split<;>omega⟩
 split
 ·rename_i e
  have hj:=ok.jump (Or.inr (Or.inr e))
  unfold ifnP
  exact ⟨(l1 1).trans (must_le _ _),((g1 1).must _).less,fun _=>(gc.cut 1).le ((l1 1).trans (must_le _ _)),(cm 1).1,(cm 1).2.1,by dsimp only;split<;>omega⟩
 split
 ·unfold thrP
  have hl:Le h (if (h.must (c.has 1)).over=true then h.must (c.has 1) else (h.must (c.has 1)).throw (nth va0 (c.top 1) 0)):=by
   split
   ·exact l1 1
   ·exact (l1 1).trans (throw_le _ _)
  refine ⟨hl,?_,fun _=>(gc.cut 1).le hl,(cm 1).1,(cm 1).2.1,hnx⟩
  dsimp only
  split
  ·exact (g1 1).less
  ·exact ((g1 1).throw _ ((top_gd' gc 1 0 (by omega)).le (l1 1))).less
 split
 ·rename_i e
  obtain ⟨s1,s2,-⟩:=ok.slot (Or.inl e)
  unfold loadP
  dsimp only
  split
  ·rename_i hm
   have hg:GdV h (nth va0 c.locs i.a.toNat):=gc.locs _ (nth_mem (by omega))
   have hle:=putH_le h c (nth va0 c.locs i.a.toNat)
   refine ⟨hle,(gh.putH _ _).less,fun hov=>?_,rfl,rfl,hnx⟩
   exact put_kept gc hg hns hov
  ·exact ⟨must_le _ _,(gh.must _).less,fun _=>gc.le (must_le _ _),rfl,rfl,hnx⟩
 split
 ·rename_i e
  obtain ⟨s1,s2,s3,-⟩:=ok.slot (Or.inr e)
  obtain ⟨k1,k2⟩:=ok.kind (Or.inr e)
  unfold storeP
  refine ⟨(l1 1).trans (must_le _ _),((g1 1).must _).less,fun hov=>?_,?_,?_,hnx⟩
  ·dsimp only at hov ⊢
   have hle:=(l1 1).trans (must_le (h.must (c.has 1)) (decide ((nth va0 (c.top 1) 0).kind=i.b)))
   have gk:=(gc.cut 1).le hle
   split
   ·rename_i hm
    have hk:(nth va0 (c.top 1) 0).kind=i.b:=of_decide_eq_true (mustB_true hm).1
    have hg:=(top_gd' gc 1 0 (by omega)).le hle
    have hlc:=(cm 1).2.2
    refine ⟨gk.stk,sto_gd (fun x hx=>gk.locs x (by rw [hlc];exact hx)) hg _,sto_ok gc.ok _ _ (by rw [hk];omega) (fun h2=>by rw [hk] at h2;have:=s3 h2;omega),gk.room,?_,gk.me,gk.mok⟩
    show ((stoP c.locs i.a.toNat (nth va0 (c.top 1) 0)).length:Int)=(c.cut 1).m.locs
    rw [stoP_length,(cm 1).1];exact gc.len
   ·exact gk
  ·dsimp only;split
   ·exact (cm 1).1
   ·exact (cm 1).1
  ·dsimp only;split
   ·exact (cm 1).2.1
   ·exact (cm 1).2.1
 split
 ·unfold popP
  exact ⟨l1 1,(g1 1).less,fun _=>(gc.cut 1).le (l1 1),(cm 1).1,(cm 1).2.1,hnx⟩
 split
 ·unfold dupP
  dsimp only
  have ga:=(top_gd' gc 1 0 (by omega)).le (l1 1)
  have gk:=(gc.cut 1).le (l1 1)
  split
  ·exact ⟨l1 1,(g1 1).less,fun _=>gk,(cm 1).1,(cm 1).2.1,hnx⟩
  ·rename_i hov1
   have hov1':(h.must (c.has 1)).over=false:=by simpa using hov1
   have hst1:(h.must (c.has 1)).stops=false:=by unfold Hp.stops;rw [hov1',must_thrown,hth];rfl
   refine ⟨((l1 1).trans (putH_le _ _ _)).trans (putH_le _ _ _),(((g1 1).putH _ _).putH _ _).less,fun hov=>?_,(cm 1).1,(cm 1).2.1,hnx⟩
   dsimp only at hov ⊢
   have ho2:((h.must (c.has 1)).putH (c.cut 1) (nth va0 (c.top 1) 0)).over=false:=by
    cases hx:((h.must (c.has 1)).putH (c.cut 1) (nth va0 (c.top 1) 0)).over
    ·rfl
    ·have:((h.must (c.has 1)).putH (c.cut 1) (nth va0 (c.top 1) 0)).stops=true:=by unfold Hp.stops;rw [hx];rfl
     unfold Hp.putH at hov
     rw [if_pos (by unfold Hp.putH at this;exact this)] at hov
     unfold Hp.putH at hx
     rw [hx] at hov;cases hov
   have hst2:((h.must (c.has 1)).putH (c.cut 1) (nth va0 (c.top 1) 0)).stops=false:=by unfold Hp.stops;rw [ho2,putH_thrown,must_thrown,hth];rfl
   have gk2:=put_kept gk ga hst1 ho2
   exact put_kept gk2 (ga.le (putH_le _ _ _)) hst2 hov
 split
 ·unfold emitP
  have hl:Le h (if (h.must (c.has 1)).over=true then h.must (c.has 1) else (h.must (c.has 1)).emit (nth va0 (c.top 1) 0) i.a):=by
   split
   ·exact l1 1
   ·exact (l1 1).trans (emit_le _ _ _)
  refine ⟨hl,?_,fun _=>(gc.cut 1).le hl,(cm 1).1,(cm 1).2.1,hnx⟩
  dsimp only
  split
  ·exact (g1 1).less
  ·exact (g1 1).emit _ _
 split
 ·unfold setP
  have hl:Le h (if (h.must (c.has 2)).over=true then h.must (c.has 2) else if (h.must (c.has 2)).mustB (isRef (nth va0 (c.top 2) 0))=true then (h.must (c.has 2)).put (nth va0 (c.top 2) 0) i.a i.b (nth va0 (c.top 2) 1) else (h.must (c.has 2)).must (isRef (nth va0 (c.top 2) 0))):=by
   split
   ·exact l1 2
   ·split
    ·exact (l1 2).trans (put_le _ _ _ _ _)
    ·exact (l1 2).trans (must_le _ _)
  refine ⟨hl,?_,fun _=>(gc.cut 2).le hl,(cm 2).1,(cm 2).2.1,hnx⟩
  dsimp only
  split
  ·exact (g1 2).less
  ·split
   ·exact ((g1 2).put _ _ _ _ ((top_gd' gc 2 1 (by omega)).le (l1 2))).less
   ·exact ((g1 2).must _).less
 ·unfold givesP
  dsimp only
  have hl:=(l1 (manyOf i.op)).trans (givesH_le (h.must (c.has (manyOf i.op))) (nth va0 (c.top (manyOf i.op)) 0) (nth va0 (c.top (manyOf i.op)) 1) i)
  split
  ·exact ⟨hl,((g1 _).gives _ _ _).less,fun _=>(gc.cut _).le hl,(cm _).1,(cm _).2.1,hnx⟩
  ·rename_i hst
   refine ⟨hl.trans (putH_le _ _ _),(((g1 _).gives _ _ _).putH _ _).less,fun hov=>?_,(cm _).1,(cm _).2.1,hnx⟩
   dsimp only at hov ⊢
   have hst':(givesH (h.must (c.has (manyOf i.op))) (nth va0 (c.top (manyOf i.op)) 0) (nth va0 (c.top (manyOf i.op)) 1) i).stops=false:=by simpa using hst
   have ho1:(h.must (c.has (manyOf i.op))).over=false:=by
    cases hx:(h.must (c.has (manyOf i.op))).over
    ·rfl
    ·have:givesH (h.must (c.has (manyOf i.op))) (nth va0 (c.top (manyOf i.op)) 0) (nth va0 (c.top (manyOf i.op)) 1) i=h.must (c.has (manyOf i.op)):=by unfold givesH;rw [if_pos hx]
     rw [this] at hst'
     unfold Hp.stops at hst'
     rw [hx] at hst'
     cases hst'
   refine put_kept ((gc.cut _).le hl) (givesV_gd (g1 _) _ _ i ho1 ?_ iok) hst' hov
   by_cases hm:0<manyOf i.op
   ·exact (top_gd' gc _ 0 hm).le (l1 _)
   ·have h0:manyOf i.op=0:=by omega
    rw [h0]
    have e:nth va0 (c.top 0) 0=va0:=by
     have:(c.top 0)=[]:=List.eq_nil_of_length_eq_zero (top_length c 0)
     rw [this];rfl
    rw [e];exact gdV0 _
end Go.Proofs.Ytgiiapenmjollaa
