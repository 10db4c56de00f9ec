import Derived.Test.YtgiiapenmjollabGreatRlaa
import Derived.Test.YtgiiapenmjollabGreatChecked
import Derived.Handy
import Derived.WalkLawsBesides
import Derived.WalkKit
import Derived.RowKit3
import Derived.Below
import Derived.OwnWalk
import Derived.Laws.OwnMore
import Derived.Deep.Draws
import Derived.Deep.AppendLies
import Derived.Maps.OwnSet
import Derived.DeepKeys4
namespace Go.Proofs.YtgiiapenmjollabGreat
set_option linter.all false
set_option maxHeartbeats 40000000
set_option maxRecDepth 100000
open Go.RowKit
theorem i64_w64 (a:Int):I64 (wrap64 a):=by have:=w64_bd a;unfold I64;omega
theorem i64_w32 (a:Int):I64 (wrap32 a):=by have:=w32_bd a;unfold I64;omega
theorem i64_tmod (a b:Int) (ha:I64 a):I64 (a.tmod b):=by
 have h1:(a.tmod b).natAbs=a.natAbs%b.natAbs:=Int.natAbs_tmod a b
 have h2:a.natAbs%b.natAbs≤a.natAbs:=Nat.mod_le _ _
 have h3:=tmod_sign a b
 unfold I64 at *
 omega
theorem i64_lng (op a b:Int) (ha:I64 a):I64 (lngV op a b):=by
 have h0:I64 0:=by unfold I64;omega
 unfold lngV
 split
 ·exact i64_w64 _
 split
 ·exact i64_w64 _
 split
 ·exact i64_w64 _
 split
 ·split
  ·exact h0
  ·exact i64_w64 _
 split
 ·split
  ·exact h0
  ·exact i64_tmod a b ha
 split
 ·exact i64_w64 _
 ·exact h0
structure Le (h h':Hp):Prop where
 file:h'.file=h.file
 input:h'.input=h.input
 fuel:h'.fuel=h.fuel
 objs:h.objs.length≤h'.objs.length
 steps:h.sh.steps≤h'.sh.steps
 calls:h'.calls=h.calls
theorem Le.refl (h:Hp):Le h h:=⟨rfl,rfl,rfl,Nat.le_refl _,Int.le_refl _,rfl⟩
theorem Le.trans {a b c:Hp} (h:Le a b) (k:Le b c):Le a c:=⟨k.file.trans h.file,k.input.trans h.input,k.fuel.trans h.fuel,Nat.le_trans h.objs k.objs,Int.le_trans h.steps k.steps,k.calls.trans h.calls⟩
theorem GdV.le {h h':Hp} {v:Va} (g:GdV h v) (l:Le h h'):GdV h' v:=⟨fun e=>⟨(g.ref e).1,by have:=(g.ref e).2;have:=l.objs;omega⟩,g.num⟩
structure Gh (s:Nat) (h:Hp):Prop where
 held:∀o∈h.objs,∀x∈o.held,GdV h x.v
 thr:-1≤h.thrown∧h.thrown<h.objs.length
 used:0≤h.sh.used
 steps:h.sh.steps≤h.fuel
 fuel:0≤h.fuel∧h.fuel≤60000
 out:(h.sh.out.length:Int)+s≤h.sh.steps
 len:h.objs.length≤100
 inp:∀n∈h.input,I64 n
 calls:0≤h.calls∧h.calls≤20
theorem Gh.same {s:Nat} {h h':Hp} (g:Gh s h) (e1:h'.objs=h.objs) (e2:h'.sh.used=h.sh.used) (e3:h'.sh.steps=h.sh.steps) (e4:h'.fuel=h.fuel) (e5:h'.sh.out=h.sh.out) (e6:h'.input=h.input) (e7:h'.calls=h.calls) (ht:-1≤h'.thrown∧h'.thrown<h'.objs.length):Gh s h' :=
 ⟨fun o ho x hx=>⟨fun e=>by rw [e1];exact (g.held o (e1▸ho) x hx).ref e,(g.held o (e1▸ho) x hx).num⟩,ht,by rw [e2];exact g.used,by rw [e3,e4];exact g.steps,by rw [e4];exact g.fuel,by rw [e5,e3];exact g.out,by rw [e1];exact g.len,by rw [e6];exact g.inp,by rw [e7];exact g.calls⟩
theorem Gh.less {s:Nat} {h:Hp} (g:Gh s h):Gh 0 h:=⟨g.held,g.thr,g.used,g.steps,g.fuel,by have:=g.out;omega,g.len,g.inp,g.calls⟩
theorem fin_le (h:Hp) (e:Int):Le h (h.fin e):=by unfold Hp.fin;split<;>exact ⟨rfl,rfl,rfl,Nat.le_refl _,Int.le_refl _,rfl⟩
theorem Gh.fin {s:Nat} {h:Hp} (g:Gh s h) (e:Int):Gh s (h.fin e):=by
 unfold Hp.fin;split
 ·exact g
 ·exact g.same rfl rfl rfl rfl rfl rfl rfl g.thr
theorem must_le (h:Hp) (b:Bool):Le h (h.must b):=by unfold Hp.must;split;exact Le.refl h;exact fin_le h 6
theorem Gh.must {s:Nat} {h:Hp} (g:Gh s h) (b:Bool):Gh s (h.must b):=by unfold Hp.must;split;exact g;exact g.fin 6
theorem init_gd (h:Hp) (t:Ty):GdV h (initV t):=by
 unfold initV
 refine ⟨fun e=>?_,?_⟩
 ·dsimp only at e ⊢;rw [if_pos e];omega
 ·dsimp only;split<;>(unfold I64;omega)
theorem newHeld_gd (h:Hp) (cs:List Cl) (c:Nat):∀x∈newHeld cs c,GdV h x.v:=by
 intro x hx
 unfold newHeld at hx
 rw [List.mem_flatMap] at hx
 obtain ⟨d,-,hd⟩:=hx
 unfold heldOf at hd
 split at hd
 ·rw [List.mem_map] at hd
  obtain ⟨k,-,rfl⟩:=hd
  exact init_gd h _
 ·simp at hd
theorem new_le (h:Hp) (c:Int):Le h (h.new c):=by
 unfold Hp.new;split
 ·exact fin_le h 4
 ·exact ⟨rfl,rfl,rfl,by simp,Int.le_refl _,rfl⟩
theorem Gh.new {s:Nat} {h:Hp} (g:Gh s h) (c:Int):Gh s (h.new c):=by
 have hle:=new_le h c
 unfold Hp.new at hle ⊢;split
 ·exact g.fin 4
 ·rename_i hf
  have hlt:h.objs.length<100:=by unfold Hp.full at hf;simpa using hf
  rw [if_neg hf] at hle
  refine ⟨fun o ho x hx=>?_,?_,g.used,g.steps,g.fuel,g.out,?_,g.inp,g.calls⟩
  ·rw [List.mem_append] at ho
   rcases ho with ho|ho
   ·exact (g.held o ho x hx).le hle
   ·simp at ho;subst ho;exact newHeld_gd _ _ _ x hx
  ·have:=g.thr;dsimp only;rw [List.length_append];omega
  ·dsimp only;rw [List.length_append];simp;omega
theorem newV_gd (h:Hp) (c:Int):GdV (h.new c) h.newV:=by
 unfold Hp.newV Hp.new
 split
 ·exact gdV0 _
 ·refine ⟨fun _=>by dsimp only;rw [List.length_append];simp;omega,?_⟩
  rename_i hf
  have hlt:h.objs.length<100:=by unfold Hp.full at hf;simpa using hf
  dsimp only;unfold I64;omega
theorem raise_le (h:Hp) (c:Int):Le h (h.raise c):=by
 have:=new_le h c
 unfold Hp.raise;split
 ·exact this
 ·exact ⟨this.file,this.input,this.fuel,this.objs,this.steps,this.calls⟩
theorem Gh.raise {s:Nat} {h:Hp} (g:Gh s h) (c:Int):Gh s (h.raise c):=by
 have gn:=g.new c
 unfold Hp.raise;split
 ·exact gn
 ·rename_i ho
  refine gn.same rfl rfl rfl rfl rfl rfl rfl ?_
  dsimp only
  have hf:¬h.full=true:=fun hf=>ho (by unfold Hp.new;rw [if_pos hf];unfold Hp.fin;split<;>simp_all)
  unfold Hp.newV Hp.new
  rw [if_neg hf,if_neg hf]
  dsimp only
  rw [List.length_append]
  simp
  omega
theorem throw_le (h:Hp) (v:Va):Le h (h.throw v):=by
 unfold Hp.throw;split
 ·split
  ·exact raise_le h 1
  ·exact ⟨rfl,rfl,rfl,Nat.le_refl _,Int.le_refl _,rfl⟩
 ·exact must_le h _
theorem Gh.throw {s:Nat} {h:Hp} (g:Gh s h) (v:Va) (hv:GdV h v):Gh s (h.throw v):=by
 unfold Hp.throw;split
 ·rename_i hm
  split
  ·exact g.raise 1
  ·rename_i hn
   have hk:v.kind=3:=by have:=(mustB_true hm).1;unfold isRef at this;exact of_decide_eq_true this
   exact g.same rfl rfl rfl rfl rfl rfl rfl ⟨by dsimp only;omega,(hv.ref hk).2⟩
 ·exact g.must _
theorem findH_le (h:Hp) (r:Va) (c:Int):Le h (h.findH r c):=by
 unfold Hp.findH;split
 ·split
  ·exact raise_le h 1
  ·exact Le.refl h
 ·exact must_le h _
theorem Gh.findH {s:Nat} {h:Hp} (g:Gh s h) (r:Va) (c:Int):Gh s (h.findH r c):=by
 unfold Hp.findH;split
 ·split
  ·exact g.raise 1
  ·exact g
 ·exact g.must _
theorem getV_gd {s:Nat} {h:Hp} (g:Gh s h) (r:Va) (c k:Int) (hr:GdV h r):GdV h (h.getV r c k):=by
 unfold Hp.getV;split
 ·exact gdV0 h
 ·rename_i hn
  obtain ⟨q,hq⟩:∃q:Nat,h.findN r c k=q:=⟨(h.findN r c k).toNat,by omega⟩
  have hk:h.mustB (h.of r ⟨3,c⟩)=true:=by
   by_cases hm:h.mustB (h.of r ⟨3,c⟩)=true
   ·exact hm
   ·unfold Hp.findN at hq;rw [if_neg hm] at hq;omega
  have h3:r.kind=3:=of_ref (mustB_true hk).1
  have hn':¬r.n<0:=fun hh=>by unfold Hp.findN at hq;rw [if_pos hk,if_pos hh] at hq;omega
  have he:heldAt (h.obj r.n).held c k=q:=by unfold Hp.findN at hq;rw [if_pos hk,if_neg hn'] at hq;exact hq
  have hlt:q<(h.obj r.n).held.length:=by
   rcases heldAt_lt (h.obj r.n).held c k with h0|⟨q',h1,h2⟩
   ·omega
   ·omega
  have hol:r.n.toNat<h.objs.length:=by have:=(hr.ref h3).2;omega
  rw [hq,Int.toNat_natCast]
  exact g.held _ (nth_mem hol) _ (nth_mem hlt)
theorem put_le (h:Hp) (r:Va) (c k:Int) (v:Va):Le h (h.put r c k v):=by
 unfold Hp.put;split
 ·split
  ·exact findH_le h r c
  ·have:=findH_le h r c
   exact ⟨this.file,this.input,this.fuel,by unfold Hp.setV;dsimp only;rw [List.length_set];exact this.objs,this.steps,this.calls⟩
 ·exact must_le h _
theorem mem_set' {α:Type} {l:List α} {n:Nat} {x y:α} (h:y∈l.set n x):y=x∨y∈l:=by
 rcases List.mem_or_eq_of_mem_set h with h|h
 ·exact Or.inr h
 ·exact Or.inl h
theorem Gh.put {s:Nat} {h:Hp} (g:Gh s h) (r:Va) (c k:Int) (v:Va) (hv:GdV h v):Gh s (h.put r c k v):=by
 unfold Hp.put;split
 ·split
  ·exact g.findH r c
  ·have gf:=g.findH r c
   have gv:=hv.le (findH_le h r c)
   generalize h.findH r c=h1 at gf gv
   generalize r.n.toNat=n
   generalize (h.findN r c k).toNat=j
   refine ⟨fun o ho x hx=>?_,?_,gf.used,gf.steps,gf.fuel,gf.out,?_,gf.inp,gf.calls⟩
   ·have key:GdV h1 x.v:=by
     unfold Hp.setV at ho
     dsimp only at ho
     by_cases hn:n<h1.objs.length
     ·rcases mem_set' ho with rfl|ho
      ·dsimp only at hx
       rcases mem_set' hx with rfl|hx
       ·exact gv
       ·exact gf.held _ (nth_mem hn) x hx
      ·exact gf.held o ho x hx
     ·rw [List.set_eq_of_length_le (by omega)] at ho;exact gf.held o ho x hx
    exact ⟨fun e=>by unfold Hp.setV;dsimp only;rw [List.length_set];exact key.ref e,key.num⟩
   ·have:=gf.thr;unfold Hp.setV;dsimp only;rw [List.length_set];exact this
   ·unfold Hp.setV;dsimp only;rw [List.length_set];exact gf.len
 ·exact g.must _
theorem cast_le (h:Hp) (v:Va) (c:Int):Le h (h.cast v c):=by
 unfold Hp.cast;split
 ·split
  ·exact Le.refl h
  ·exact raise_le h 3
 ·exact must_le h _
theorem Gh.cast {s:Nat} {h:Hp} (g:Gh s h) (v:Va) (c:Int):Gh s (h.cast v c):=by
 unfold Hp.cast;split
 ·split
  ·exact g
  ·exact g.raise 3
 ·exact g.must _
theorem emit_le (h:Hp) (v:Va) (k:Int):Le h (h.emit v k):=by
 unfold Hp.emit;split
 ·exact ⟨rfl,rfl,rfl,Nat.le_refl _,Int.le_refl _,rfl⟩
 ·exact must_le h _
theorem Gh.emit {h:Hp} (g:Gh 1 h) (v:Va) (k:Int):Gh 0 (h.emit v k):=by
 unfold Hp.emit;split
 ·refine ⟨(fun o ho x hx=>⟨(g.held o ho x hx).ref,(g.held o ho x hx).num⟩),g.thr,g.used,g.steps,g.fuel,?_,g.len,g.inp,g.calls⟩
  have:=g.out;dsimp only;rw [List.length_append];simp;omega
 ·exact (g.must _).less
theorem input_le (h:Hp):Le h h.input':=by
 unfold Hp.input';split
 ·exact fin_le h 3
 ·exact ⟨rfl,rfl,rfl,Nat.le_refl _,Int.le_refl _,rfl⟩
theorem Gh.input {s:Nat} {h:Hp} (g:Gh s h):Gh s h.input':=by
 unfold Hp.input';split
 ·exact g.fin 3
 ·exact ⟨(fun o ho x hx=>⟨(g.held o ho x hx).ref,(g.held o ho x hx).num⟩),g.thr,by have:=g.used;dsimp only;omega,g.steps,g.fuel,g.out,g.len,g.inp,g.calls⟩
theorem inV_gd {s:Nat} {h:Hp} (g:Gh s h):GdV h h.inV:=by
 unfold Hp.inV;split
 ·exact gdV0 h
 ·rename_i hd
  refine ⟨fun e=>by dsimp only at e;omega,?_⟩
  dsimp only
  have hu:=g.used
  have hlt:h.sh.used.toNat<h.input.length:=by unfold Hp.dry at hd;simp at hd;omega
  exact g.inp _ (nth_mem hlt)
theorem reckH_le (h:Hp) (a b:Va) (k op:Int):Le h (h.reckH a b k op):=by
 unfold Hp.reckH;split
 ·split
  ·exact Le.refl h
  ·exact raise_le h 2
 ·exact must_le h _
theorem Gh.reckH {s:Nat} {h:Hp} (g:Gh s h) (a b:Va) (k op:Int):Gh s (h.reckH a b k op):=by
 unfold Hp.reckH;split
 ·split
  ·exact g
  ·exact g.raise 2
 ·exact g.must _
theorem reckV_gd (h h':Hp) (a b:Va) (k op:Int) (hk:k=1∨k=2) (ha:I64 a.n):GdV h' (h.reckV a b k op):=by
 unfold Hp.reckV;split
 ·refine ⟨fun e=>by dsimp only at e;omega,?_⟩
  dsimp only;unfold reckN;split
  ·exact i64_w32 _
  ·exact i64_lng _ _ _ ha
 ·exact gdV0 _
theorem step_le (h:Hp):Le h h.step:=by
 unfold Hp.step;split
 ·exact Le.refl h
 ·split
  ·exact fin_le h 0
  ·exact ⟨rfl,rfl,rfl,Nat.le_refl _,by dsimp only;omega,rfl⟩
theorem Gh.step {h:Hp} (g:Gh 0 h) (hb:h.stepB=true):Gh 1 h.step:=by
 unfold Hp.stepB at hb
 simp at hb
 unfold Hp.step
 rw [if_neg (by rw [hb.1];decide),if_neg (by omega)]
 exact ⟨(fun o ho x hx=>⟨(g.held o ho x hx).ref,(g.held o ho x hx).num⟩),g.thr,g.used,by dsimp only;omega,g.fuel,by have:=g.out;dsimp only;omega,g.len,g.inp,g.calls⟩
structure Gc (h:Hp) (c:Cal):Prop where
 giv:GdV h c.giv
 cau:GdV h c.cau
 locs:∀v∈c.locs,GdV h v
 ok:LocOk c.locs
 len:(c.locs.length:Int)=c.m.regs
 me:rmeB h.file.classes h.file.methods c.m=true
 mok:∀i∈c.m.code,i.ok
theorem sizP_ge (l:List Va):l.length≤sizP l:=by
 induction l with
 | nil=>simp [sizP]
 | cons t l ih=>simp only [sizP,List.length_cons];split<;>omega
theorem sizP_append (l k:List Va):sizP (l++k)=sizP l+sizP k:=by
 induction l with
 | nil=>simp [sizP]
 | cons t l ih=>simp only [sizP,List.cons_append,ih];omega
theorem sizP_takeLe (l:List Va) (n:Nat):sizP (l.take n)≤sizP l:=by
 have:=sizP_append (l.take n) (l.drop n)
 rw [List.take_append_drop] at this
 omega
theorem smeP {cs:List Cl} {ms:List Me} {m:Me} (h:rmeB cs ms m=true):1≤m.regs∧m.regs≤90∧(slotsN m.params:Int)≤m.regs∧m.params.length≤4∧1≤m.code.length∧m.code.length≤2400∧(∀i∈m.code,rinB cs ms m.code.length m.regs m.ret.kind i=true)∧(∀t∈m.params,tyB cs.length t=true)∧(∀x∈m.hands,hdB cs.length m.code.length x=true)∧retB cs.length m.ret=true:=by
 unfold rmeB headB at h
 simp only [Bool.and_eq_true,List.all_eq_true,decide_eq_true_eq] at h
 obtain ⟨⟨⟨⟨⟨h1,h2⟩,h3⟩,h4⟩,h5⟩,h6⟩:=h
 exact ⟨by omega,by omega,by omega,by omega,by omega,by omega,h6,h2,h3,h4⟩
theorem Gc.le {h h':Hp} {c:Cal} (g:Gc h c) (l:Le h h'):Gc h' c :=
 ⟨g.giv.le l,g.cau.le l,fun v hv=>(g.locs v hv).le l,g.ok,g.len,by rw [l.file];exact g.me,g.mok⟩
theorem Gc.pc {h:Hp} {c:Cal} (g:Gc h c) (n:Int):Gc h { c with pc:=n }:=⟨g.giv,g.cau,g.locs,g.ok,g.len,g.me,g.mok⟩
theorem Gc.clr {h:Hp} {c:Cal} (g:Gc h c):Gc h c.clr:=⟨gdV0 h,gdV0 h,g.locs,g.ok,g.len,g.me,g.mok⟩
theorem Gc.rd {h:Hp} {c:Cal} (g:Gc h c) {a:Int} (ha:0≤a∧a<c.m.regs):GdV h (c.rd a):=g.locs _ (nth_mem (by have:=g.len;omega))
theorem fin_thrown (h:Hp) (e:Int):(h.fin e).thrown=h.thrown:=by unfold Hp.fin;split<;>rfl
theorem must_thrown (h:Hp) (b:Bool):(h.must b).thrown=h.thrown:=by unfold Hp.must;split;rfl;exact fin_thrown h 6
theorem must_go {h:Hp} {b:Bool} (ho:(h.must b).over=false):b=true∧h.over=false:=by
 unfold Hp.must at ho;split at ho
 ·rename_i hb;exact ⟨hb,ho⟩
 ·unfold Hp.fin at ho;split at ho
  ·rename_i h1;rw [h1] at ho;cases ho
  ·simp at ho
theorem set_ok {l:List Va} (h:LocOk l) (i:Nat) (v:Va) (h9:v.kind≠9) (h2:v.kind≠2):LocOk (l.set i v):=by
 have key:∀j,j<l.length→nth va0 (l.set i v) j=v∨nth va0 (l.set i v) j=nth va0 l j:=fun j hj=>by
  by_cases e:i=j
  ·subst e;exact Or.inl (nth_set_eq hj)
  ·exact Or.inr (nth_set_ne e)
 refine ⟨fun j hj hk=>?_,fun j hj hk=>?_⟩
 ·rw [List.length_set] at hj
  rcases key j hj with e|e
  ·rw [e] at hk;exact absurd hk h9
  ·rw [e] at hk;exact h.nine j hj hk
 ·rw [List.length_set] at hj ⊢
  rcases key j hj with e|e
  ·rw [e] at hk;exact absurd hk h2
  ·rw [e] at hk;exact h.two j hj hk
theorem los_ok {l:List Va} (h:LocOk l) (a:Nat):LocOk (losP l a):=by
 have h0:(va0).kind≠9:=by decide
 have h1:(va0).kind≠2:=by decide
 unfold losP;split
 ·exact set_ok (set_ok h _ _ h0 h1) _ _ h0 h1
 ·split
  ·exact set_ok (set_ok h _ _ h0 h1) _ _ h0 h1
  ·exact set_ok h _ _ h0 h1
theorem sto_ok {l:List Va} (h:LocOk l) (a:Nat) (v:Va) (h9:v.kind≠9) (h2:v.kind=2→a+1<l.length):LocOk (stoP l a v):=by
 unfold stoP;split
 ·rename_i hk
  have hl:=h2 hk
  have h3:=los_ok (los_ok h a) (a+1)
  have hlen:(losP (losP l a) (a+1)).length=l.length:=by rw [losP_length,losP_length]
  generalize losP (losP l a) (a+1)=m at h3 hlen
  refine ⟨fun j hj hj9=>?_,fun j hj hj2=>?_⟩
  ·rw [List.length_set,List.length_set] at hj
   by_cases e:a=j
   ·subst e;rw [nth_set_eq (by rw [List.length_set];exact hj)] at hj9;exact absurd hj9 h9
   ·rw [nth_set_ne e] at hj9
    by_cases e2:a+1=j
    ·omega
    ·rw [nth_set_ne e2] at hj9;exact h3.nine j hj hj9
  ·rw [List.length_set,List.length_set] at hj ⊢
   by_cases e:a=j
   ·omega
   ·rw [nth_set_ne e] at hj2
    by_cases e2:a+1=j
    ·subst e2;rw [nth_set_eq hj] at hj2;exact absurd hj2 (by decide)
    ·rw [nth_set_ne e2] at hj2;exact h3.two j hj hj2
 ·rename_i hk
  exact set_ok (los_ok h a) a v h9 hk
theorem los_mem {l:List Va} {a:Nat} {x:Va} (h:x∈losP l a):x=va0∨x∈l:=by
 unfold losP at h;split at h
 ·rcases mem_set' h with h|h
  ·exact Or.inl h
  ·exact mem_set' h
 ·split at h
  ·rcases mem_set' h with h|h
   ·exact Or.inl h
   ·exact mem_set' h
  ·exact mem_set' h
theorem sto_gd {h:Hp} {l:List Va} (hl:∀x∈l,GdV h x) {v:Va} (hv:GdV h v) (a:Nat):∀x∈stoP l a v,GdV h x:=by
 intro x hx
 have h0:=gdV0 h
 have h9:GdV h ⟨9,0⟩:=⟨fun e=>absurd e (by decide),by unfold I64;decide⟩
 unfold stoP at hx;split at hx
 ·rcases mem_set' hx with rfl|hx
  ·exact hv
  rcases mem_set' hx with rfl|hx
  ·exact h9
  rcases los_mem hx with rfl|hx
  ·exact h0
  rcases los_mem hx with rfl|hx
  ·exact h0
  exact hl x hx
 ·rcases mem_set' hx with rfl|hx
  ·exact hv
  rcases los_mem hx with rfl|hx
  ·exact h0
  exact hl x hx
theorem Gc.wr {h:Hp} {c:Cal} (g:Gc h c) {a:Int} {v:Va} (hv:h.stops=false→GdV h v∧v.kind≠9∧(v.kind=2→a+1<c.m.regs)) (ha:0≤a):Gc h (wrP h c a v):=by
 unfold wrP;split
 ·exact g
 ·rename_i hs
  obtain ⟨h1,h2,h3⟩:=hv (by simpa using hs)
  refine ⟨g.giv,g.cau,sto_gd g.locs h1 _,sto_ok g.ok _ _ h2 (fun e=>by have:=h3 e;have:=g.len;omega),?_,g.me,g.mok⟩
  show ((stoP c.locs a.toNat v).length:Int)=c.m.regs
  rw [stoP_length];exact g.len
structure Safe (P:Hp→Prop):Prop where
 fin:∀(h:Hp) (e:Int),e=3∨e=4∨e=6→P h→P (h.fin e)
 obj:∀(h:Hp) (o:List Ob),P h→P { h with objs:=o }
 thr:∀(h:Hp) (t:Int),P h→P { h with thrown:=t }
 out:∀(h:Hp) (n:Int),P h→P { h with sh:={ h.sh with out:=h.sh.out++[n] } }
 use:∀(h:Hp),P h→P { h with sh:={ h.sh with used:=h.sh.used+1 } }
theorem Safe.must {P:Hp→Prop} (S:Safe P) {h:Hp} (hf:P h) (b:Bool):P (h.must b):=by
 unfold Hp.must
 split
 ·exact hf
 ·exact S.fin _ _ (by decide) hf
theorem Safe.new {P:Hp→Prop} (S:Safe P) {h:Hp} (hf:P h) (c:Int):P (h.new c):=by
 unfold Hp.new
 split
 ·exact S.fin _ _ (by decide) hf
 ·exact S.obj _ _ hf
theorem Safe.raise {P:Hp→Prop} (S:Safe P) {h:Hp} (hf:P h) (c:Int):P (h.raise c):=by
 unfold Hp.raise
 split
 ·exact S.new hf c
 ·exact S.thr _ _ (S.new hf c)
theorem Safe.throw {P:Hp→Prop} (S:Safe P) {h:Hp} (hf:P h) (v:Va):P (h.throw v):=by
 unfold Hp.throw
 split
 ·split
  ·exact S.raise hf 1
  ·exact S.thr _ _ hf
 ·exact S.must hf _
theorem Safe.findH {P:Hp→Prop} (S:Safe P) {h:Hp} (hf:P h) (r:Va) (c:Int):P (h.findH r c):=by
 unfold Hp.findH
 split
 ·split
  ·exact S.raise hf 1
  ·exact hf
 ·exact S.must hf _
theorem Safe.put {P:Hp→Prop} (S:Safe P) {h:Hp} (hf:P h) (r:Va) (c k:Int) (v:Va):P (h.put r c k v):=by
 unfold Hp.put
 split
 ·split
  ·exact S.findH hf r c
  ·exact S.obj _ _ (S.findH hf r c)
 ·exact S.must hf _
theorem Safe.cast {P:Hp→Prop} (S:Safe P) {h:Hp} (hf:P h) (v:Va) (c:Int):P (h.cast v c):=by
 unfold Hp.cast
 split
 ·split
  ·exact hf
  ·exact S.raise hf 3
 ·exact S.must hf _
theorem Safe.emit {P:Hp→Prop} (S:Safe P) {h:Hp} (hf:P h) (v:Va) (k:Int):P (h.emit v k):=by
 unfold Hp.emit
 split
 ·exact S.out _ _ hf
 ·exact S.must hf _
theorem Safe.input {P:Hp→Prop} (S:Safe P) {h:Hp} (hf:P h):P h.input':=by
 unfold Hp.input'
 split
 ·exact S.fin _ _ (by decide) hf
 ·exact S.use _ hf
theorem Safe.reckH {P:Hp→Prop} (S:Safe P) {h:Hp} (hf:P h) (a b:Va) (k op:Int):P (h.reckH a b k op):=by
 unfold Hp.reckH
 split
 ·split
  ·exact hf
  ·exact S.raise hf 2
 ·exact S.must hf _
theorem Safe.givesH {P:Hp→Prop} (S:Safe P) {h:Hp} (hf:P h) (c:Cal) (i:In):P (givesH h c i):=by
 unfold Go.Proofs.YtgiiapenmjollabGreat.givesH
 split
 ·exact hf
 split
 ·exact S.must hf _
 split
 ·exact S.reckH hf _ _ _ _
 split
 ·exact S.reckH hf _ _ _ _
 split
 ·exact S.must hf _
 split
 ·exact S.must hf _
 split
 ·exact S.must (S.must hf _) _
 split
 ·exact S.new hf _
 split
 ·split
  ·exact S.must hf _
  ·exact S.findH (S.must hf _) _ _
 split
 ·split
  ·exact S.must hf _
  ·exact S.must (S.must hf _) _
 ·exact S.input hf
theorem Safe.does {P:Hp→Prop} (S:Safe P) {h:Hp} (hf:P h) (c:Cal) (i:In):P (doesP h c i).h:=by
 have m:=fun b=>S.must hf b
 unfold doesP
 split
 ·exact hf
 split
 ·exact m _
 split
 ·exact m _
 split
 ·unfold putP;dsimp only;split
  ·exact S.must (m _) _
  ·exact S.put (S.must (m _) _) _ _ _ _
 split
 ·unfold castP;dsimp only;split
  ·exact m _
  ·exact S.cast (m _) _ _
 split
 ·exact m _
 split
 ·unfold thrP;dsimp only;split
  ·exact m _
  ·exact S.throw (m _) _
 split
 ·exact m _
 split
 ·unfold emitP;dsimp only;split
  ·exact m _
  ·exact S.emit (m _) _ _
 ·exact S.givesH hf _ _
theorem ret_bool {x y:Bool} (h:x=y):Ending.returned (.bool x)=.returned (.bool y):=by rw [h]
abbrev stopE (how k n:Int):Ending:=.panicked [{ v:=.iface 126 (.agg #[.int .i64 how,.int .i64 k,.int .i64 n]),recovered:=false }]
abbrev mvV (v:Va):Value:=.agg #[.int .i64 v.kind,.int .i64 v.n]
theorem info_mv:(Tryz.prog.info? 115).map (·.size)=some 2:=by kernel_rfl
theorem mblk {w:World} {b:Nat} {cs:Array Value} {t:TypeId} (hb:b=w.heap.size):(w.alloc (.cells cs t)).heap[b]?=some (.cells cs t (0,0)):=by
 subst hb
 show (w.heap.push _)[w.heap.size]?=_
 simp
theorem mend_any (how:Int) (w:World):Calls Tryz.prog 146 #[.int .i64 how] w fun e w'=>e=stopE how 0 0∧w'=w:=by
 go_enter Tryz.func146,Tryz.ntmps146
 go_wp2
 exact ⟨rfl,rfl,rfl⟩
theorem mstuck_any (w:World):Calls Tryz.prog 134 #[] w fun e w'=>e=stopE 6 0 0∧w'=w:=by
 go_enter Tryz.func134,Tryz.ntmps134
 go_wp2_with (go_at_call 146;refine (mend_any 6 _).mono ?_;rintro e w1 ⟨rfl,hw⟩;rw [hw];clear hw w1)
 exact ⟨rfl,rfl,rfl⟩
theorem mustbe_yes (v:Va) (k:Int) (w:World) (h:v.kind=k):Calls Tryz.prog 261 #[mvV v,.int .i64 k] w fun e w'=>e=.returned (mvV v)∧Bl w w':=by
 subst h
 go_enter Tryz.func261,Tryz.ntmps261
 go_wp2
 refine bodyPost_ret (results_cell_row rfl _ _ (w.heap.size+1) _ _ _ _ rfl (mblk (by simp)) Tryz.underlying115 rfl info_mv) rfl ?_
 exact ⟨rfl,((Bl.refl w).alloc _).alloc _⟩
theorem mustbe_no (v:Va) (k:Int) (w:World) (h:v.kind≠k):Calls Tryz.prog 261 #[mvV v,.int .i64 k] w fun e w'=>e=stopE 6 0 0∧Bl w w':=by
 have hz:(v.kind !=k)=true:=by simpa using h
 go_enter Tryz.func261,Tryz.ntmps261
 go_wp2_with (go_at_call 134;refine (mstuck_any _).mono ?_;rintro e w1 ⟨rfl,hw⟩;rw [hw];clear hw w1)
 exact ⟨rfl,rfl,((Bl.refl w).alloc _).alloc _⟩
theorem lt_some {w:World} {b:Nat} {o:Obj} (h:w.heap[b]?=some o):b<w.heap.size:=by
 by_cases hb:b<w.heap.size
 ·exact hb
 ·simp [hb] at h
theorem block_set {w:World} {b i:Nat} {cs:Array Value} {t:TypeId} {f:Nat×Nat} (h:w.heap[b]?=some (.cells cs t f)) (v:Value) :
  (w.setCell ⟨b,i,none⟩ v).heap[b]?=some (.cells (cs.setIfInBounds i v) t f):=by
 simp [World.setCell,Array.getElem?_modify,h]
theorem block_far {w:World} {b b' i:Nat} {s:Option _} (hb:b'≠b) (v:Value):(w.setCell ⟨b,i,s⟩ v).heap[b']?=w.heap[b']?:=Below.heap_setCell _ _ _ _ hb
theorem cell_blk {w:World} {b i:Nat} {cs:Array Value} {t:TypeId} {f:Nat×Nat} (h:w.heap[b]?=some (.cells cs t f)):w.cell? ⟨b,i,none⟩=cs[i]?:=by simp [World.cell?,h]
theorem free_blk {w:World} {b:Nat} {cs:Array Value} {t:TypeId} (h:w.heap[b]?=some (.cells cs t (0,0))) (i:Nat):w.frozen? ⟨b,i,none⟩=false:=by simp [World.frozen?,h]
theorem row_far {w:World} {base:Nat} {e:TypeId} {size n:Nat} {v:Value} {xs:List Value} (ho:w.ownsRow base e size v n xs) {b i:Nat} {cs:Array Value} {t:TypeId} {f:Nat×Nat} (hb:w.heap[b]?=some (.cells cs t f)) (ht:t≠e) (u:Value) :
  (w.setCell ⟨b,i,none⟩ u).ownsRow base e size v n xs:=by
 refine ⟨ho.1,?_⟩
 rcases ho.2 with h0|⟨g,cap,cur,h1,h2,h3,h4⟩
 ·exact Or.inl h0
 ·refine Or.inr ⟨g,cap,cur,h1,h2,?_,h4⟩
  rw [block_far]
  ·exact h3
  ·rintro rfl;rw [hb] at h3;simp at h3;exact ht h3.2.1
theorem blk_new (w:World) (cs:Array Value) (t:TypeId):(w.alloc (.cells cs t)).heap[w.heap.size]?=some (.cells cs t (0,0)):=by
 show (w.heap.push _)[w.heap.size]?=_
 simp
theorem bl_drewN {a w:World} (h:Bl a w) (n:Nat):Bl a (w.drewN n):=⟨h.os,h.tape,h.output,h.size,h.block⟩
theorem own_far {w:World} {base:Nat} {e:TypeId} {size n:Nat} {v:Value} {xs:List Value} (ho:w.ownsRow base e size v n xs) {b:Nat} {cs:Array Value} {t:TypeId} {f:Nat×Nat} (hb:w.heap[b]?=some (.cells cs t f)) (ht:t≠e):v.ownBlock≠some b:=by
 intro hc
 rcases ho.2 with ⟨rfl,-⟩|⟨gb,cap,cur,rfl,h2,h3,h4⟩
 ·simp [Value.ownBlock] at hc
 ·simp [Value.ownBlock] at hc
  subst hc
  rw [hb] at h3
  simp at h3
  exact ht h3.2.1
def vaCells:List Va→List Value
 | []=>[]
 | v::l=>.int .i64 v.kind::.int .i64 v.n::vaCells l
theorem vaCells_length (l:List Va):(vaCells l).length=l.length*2:=by
 induction l with
 | nil=>rfl
 | cons x l ih=>simp [vaCells,ih];omega
theorem va_cells:∀(l:List Va) (i:Nat),i<l.length→(vaCells l)[i*2]?=some (.int .i64 (nth va0 l i).kind)∧(vaCells l)[i*2+1]?=some (.int .i64 (nth va0 l i).n)
 | [],i,h=>by simp at h
 | x::l,0,_=>by simp [vaCells,nth]
 | x::l,i+1,h=>by
  have:=va_cells l i (by simpa using h)
  have e:(i+1)*2=i*2+1+1:=by omega
  rw [e]
  simpa [vaCells,nth] using this
theorem vaCells_set:∀(l:List Va) (i:Nat) (v:Va),i<l.length→vaCells (l.set i v)=((vaCells l).set (i*2) (.int .i64 v.kind)).set (i*2+1) (.int .i64 v.n)
 | [],i,v,h=>by simp at h
 | x::l,0,v,_=>by simp [vaCells]
 | x::l,i+1,v,h=>by
  have:=vaCells_set l i v (by simpa using h)
  have e1:(i+1)*2=i*2+1+1:=by omega
  have e2:(i+1)*2+1=i*2+1+1+1:=by omega
  rw [e2,e1]
  simp [vaCells,this]
theorem hid {p:Prop} (h:p):Hid p:=h
abbrev tyMV (t:Ty):Value:=.agg #[.int .i64 t.kind,.int .i64 t.cls]
abbrev tyMO (t:Ty):Obj:=.cells #[.int .i64 t.kind,.int .i64 t.cls] 46
abbrev mvO (v:Va):Obj:=.cells #[.int .i64 v.kind,.int .i64 v.n] 115
abbrev mvZ:Obj:=.cells #[.int .i64 0,.int .i64 0] 115
theorem three_lie (w:World) (a b c:Array Value) (s t u:TypeId):(((w.alloc (.cells a s)).alloc (.cells b t)).alloc (.cells c u)).heap[w.heap.size]?=some (.cells a s (0,0))∧(((w.alloc (.cells a s)).alloc (.cells b t)).alloc (.cells c u)).heap[w.heap.size+1]?=some (.cells b t (0,0))
  ∧ (((w.alloc (.cells a s)).alloc (.cells b t)).alloc (.cells c u)).heap[w.heap.size+1+1]?=some (.cells c u (0,0)):=by
 have h1:(w.alloc (.cells a s)).heap.size=w.heap.size+1:=by simp
 have h2:((w.alloc (.cells a s)).alloc (.cells b t)).heap.size=w.heap.size+1+1:=by simp
 refine ⟨?_,?_,?_⟩
 ·rw [Below.heap_alloc _ _ _ (by omega),Below.heap_alloc _ _ _ (by omega)];exact blk_new _ _ _
 ·rw [Below.heap_alloc _ _ _ (by omega),←h1];exact blk_new _ _ _
 ·rw [←h2];exact blk_new _ _ _
theorem bl_blk {w w':World} (h:Bl w w') {b:Nat} {o:Obj} (hb:w.heap[b]?=some o):w'.heap[b]?=some o:=(h.block b (lt_some hb)).trans hb
theorem c0_of {w:World} {b:Nat} {k n:Value} {t:TypeId} (q:w.heap[b]?=some (.cells #[k,n] t (0,0))):w.cell? ⟨b,0,none⟩=some k:=by rw [cell_blk q];rfl
theorem c1_of {w:World} {b:Nat} {k n:Value} {t:TypeId} (q:w.heap[b]?=some (.cells #[k,n] t (0,0))):w.cell? ⟨b,1,none⟩=some n:=by rw [cell_blk q];rfl
theorem set_two {w:World} {b:Nat} {k n k' n':Value} {t:TypeId} (q:w.heap[b]?=some (.cells #[k,n] t (0,0))):((w.setCell ⟨b,0,none⟩ k').setCell ⟨b,1,none⟩ n').heap[b]?=some (.cells #[k',n'] t (0,0)):=by
 rw [block_set (block_set q _) _];rfl
theorem bl_two {w0 w:World} (h:Bl w0 w) {b:Nat} (hb:w0.heap.size≤b) (k n:Value):Bl w0 ((w.setCell ⟨b,0,none⟩ k).setCell ⟨b,1,none⟩ n):=(h.setCell (p:=⟨b,0,none⟩) hb k).setCell (p:=⟨b,1,none⟩) hb n
theorem grown_set {w:World} (b i:Nat) (v:Value):w.grownBy (w.setCell ⟨b,i,none⟩ v) (some b) :=
 ⟨rfl,rfl,rfl,by simp [World.setCell],fun k hk hb=>block_far (fun e=>hb (by rw [e])) v⟩
theorem grown_trans {x y z:World} {row:Option Nat} (h:x.grownBy y row) (k:y.grownBy z row):x.grownBy z row :=
 ⟨k.os.trans h.os,k.tape.trans h.tape,k.output.trans h.output,Nat.le_trans h.size k.size,fun i hi hb=>(k.block i (Nat.lt_of_lt_of_le hi h.size) hb).trans (h.block i hi hb)⟩
section
open Go.Maps (Keyed has)
abbrev placeV (o c k:Int):Value:=.agg #[.int .i64 o,.int .i64 c,.int .i64 k]
def keyM (o c k:Int):Lit:=.string (keyBytes [.int .i64 o,.int .i64 c,.int .i64 k])
theorem place_out:laidOutB Tryz.prog=true:=by kernel_rfl
theorem place_row:(303:TypeId)<Tryz.prog.types.size:=of_decide_eq_true (by kernel_rfl)
theorem place_wide:(match Tryz.prog.underlying 303 with|some (.array _ _)|some (.struct _)=>true|_=>false)=true:=by rw [Tryz.underlying303]
theorem place_at:Tryz.prog.keyTypeAt 2 303=true:=by kernel_rfl
set_option maxRecDepth 1000000 in
theorem place_key:Keyed Tryz.prog 303:=Keyed.of_law (deep_law_laid (P:=Tryz.prog) (k:=303) place_out (m:=2) (by omega) place_row place_at place_wide)
theorem place_type:Tryz.prog.keyType 303=true:=by kernel_rfl
theorem place_cells:Tryz.prog.cellsOf 303=3:=by kernel_rfl
theorem int_cells:Tryz.prog.cellsOf 3=1:=by kernel_rfl
theorem i64_wf {n:Int} (h:I64 n):(Lit.int .i64 n).wf=true:=by
 unfold I64 at h
 simp [Lit.wf,IntKind.min,IntKind.max,IntKind.bits,IntKind.signed]
 omega
theorem int_lits (d:Nat) {n:Int} (h:I64 n):Tryz.prog.keyLits (d+1) 3 [.int .i64 n]=some [.int .i64 n]:=by
 unfold Program.keyLits
 rw [Tryz.underlying3]
 simp [i64_wf h]
theorem place_lits (d:Nat) {o c k:Int} (ho:I64 o) (hc:I64 c) (hk:I64 k):Tryz.prog.keyLits (d+1+1) 303 [.int .i64 o,.int .i64 c,.int .i64 k]=some [.int .i64 o,.int .i64 c,.int .i64 k]:=by
 have h1:=int_lits d ho
 have h2:=int_lits d hc
 have h3:=int_lits d hk
 unfold Program.keyLits
 rw [Tryz.underlying303]
 simp [place_cells,int_cells,h1,h2,h3]
theorem types_two:∃d,Tryz.prog.types.size+1=d+1+1:=by
 have h:(303:Nat)<Tryz.prog.types.size:=place_row
 exact ⟨Tryz.prog.types.size-1,by omega⟩
theorem keyM_of {o c k:Int} (ho:I64 o) (hc:I64 c) (hk:I64 k):keyOf Tryz.prog 303 (placeV o c k)=some (keyM o c k):=by
 obtain ⟨d,hd⟩:=types_two
 unfold keyOf
 rw [Tryz.underlying303,hd]
 dsimp only
 have hf:(placeV o c k).formed Tryz.prog 303=true:=by simp [Value.formed,Tryz.underlying303,place_cells]
 rw [place_type,hf]
 have hc':(placeV o c k).cells.toList=[.int .i64 o,.int .i64 c,.int .i64 k]:=rfl
 rw [hc',place_lits d ho hc hk]
 rfl
theorem keyM_inj {o c k o' c' k':Int} (ho:I64 o) (hc:I64 c) (hk:I64 k) (ho':I64 o') (hc':I64 c') (hk':I64 k') (h:keyM o c k=keyM o' c' k'):o=o'∧c=c'∧k=k':=by
 have h1:=keyM_of ho hc hk
 have h2:=keyM_of ho' hc' hk'
 rw [←h] at h2
 have:=place_key.inj h1 h2
 simp at this
 exact this
end
def im (v:Va):Va:=⟨v.kind,if v.kind=3 then v.n+1 else v.n⟩
theorem im_kind (v:Va):(im v).kind=v.kind:=rfl
theorem im_num {v:Va} (h:v.kind≠3):im v=v:=by unfold im;rw [if_neg h]
theorem im_ref {v:Va} (h:v.kind=3):im v=⟨3,v.n+1⟩:=by unfold im;rw [if_pos h,h]
theorem nth_set {α:Type} (d:α) (l:List α) (i j:Nat) (v:α):nth d (l.set i v) j=if i=j∧i<l.length then v else nth d l j:=by
 unfold nth
 simp only [List.getD_eq_getElem?_getD,List.getElem?_set]
 by_cases h:i=j
 ·subst h
  by_cases hl:i<l.length
  ·simp [hl]
  ·simp [hl]
 ·simp [h]
theorem nth_out {α:Type} {d:α} {l:List α} {i:Nat} (h:l.length≤i):nth d l i=d:=by
 unfold nth
 simp [List.getD_eq_getElem?_getD,h]
structure LRel (l k:List Va):Prop where
 len:k.length=l.length
 zero:(nth va0 l 0).kind≠9
 pair:∀i,(nth va0 l i).kind=2↔(nth va0 l (i+1)).kind=9
 rd:∀i,1≤(nth va0 l i).kind→(nth va0 l i).kind≤3→nth va0 k i=im (nth va0 l i)
 long:∀i,(nth va0 l i).kind=2→(nth va0 k (i+1)).kind=4
 back:∀i,1≤(nth va0 k i).kind→(nth va0 k i).kind≤3→((nth va0 k i).kind=2→(nth va0 k (i+1)).kind=4)→(nth va0 l i).kind=(nth va0 k i).kind
def stoM (k:List Va) (a:Nat) (v:Va):List Va:=if v.kind=2 then (k.set a v).set (a+1) ⟨4,0⟩ else k.set a v
theorem stoM_length (k:List Va) (a:Nat) (v:Va):(stoM k a v).length=k.length:=by unfold stoM;split<;>simp
theorem los_length (l:List Va) (a:Nat):(losP l a).length=l.length:=losP_length l a
theorem sto_length (l:List Va) (a:Nat) (v:Va):(stoP l a v).length=l.length:=stoP_length l a v
theorem los_nth (l:List Va) (a j:Nat) (ha:a<l.length):nth va0 (losP l a) j=if j=a∨((nth va0 l a).kind=9∧j=a-1)∨((nth va0 l a).kind=2∧j=a+1) then va0 else nth va0 l j:=by
 have hz:∀(l:List Va) i,nth va0 (l.set i va0) j=if i=j then va0 else nth va0 l j:=by
  intro l i
  rw [nth_set]
  by_cases h:i=j
  ·by_cases hl:i<l.length
   ·rw [if_pos ⟨h,hl⟩,if_pos h]
   ·rw [if_neg (fun x=>hl x.2),if_pos h,nth_out (by omega)]
  ·rw [if_neg (fun x=>h x.1),if_neg h]
 unfold losP
 by_cases h9:(nth va0 l a).kind=9
 ·rw [if_pos h9,hz,hz]
  have h2:¬(nth va0 l a).kind=2:=by omega
  by_cases h1:a=j
  ·rw [if_pos h1,if_pos (Or.inl h1.symm)]
  ·rw [if_neg h1]
   by_cases h3:a-1=j
   ·rw [if_pos h3,if_pos (Or.inr (Or.inl ⟨h9,h3.symm⟩))]
   ·rw [if_neg h3,if_neg];rintro (h|h|h)
    ·exact h1 h.symm
    ·exact h3 h.2.symm
    ·exact h2 h.1
 ·rw [if_neg h9]
  by_cases h2:(nth va0 l a).kind=2
  ·rw [if_pos h2,hz,hz]
   by_cases h1:a=j
   ·rw [if_pos h1,if_pos (Or.inl h1.symm)]
   ·rw [if_neg h1]
    by_cases h3:a+1=j
    ·rw [if_pos h3,if_pos (Or.inr (Or.inr ⟨h2,h3.symm⟩))]
    ·rw [if_neg h3,if_neg];rintro (h|h|h)
     ·exact h1 h.symm
     ·exact h9 h.1
     ·exact h3 h.2.symm
  ·rw [if_neg h2,hz]
   by_cases h1:a=j
   ·rw [if_pos h1,if_pos (Or.inl h1.symm)]
   ·rw [if_neg h1,if_neg];rintro (h|h|h)
    ·exact h1 h.symm
    ·exact h9 h.1
    ·exact h2 h.1
theorem LRel.los {l k:List Va} (h:LRel l k) {a:Nat} (ha:a<l.length) (x:Va) (hx:x.kind=0∨4<x.kind):LRel (losP l a) (k.set a x):=by
 have e:=fun j=>los_nth l a j ha
 have e':=fun j=>nth_set va0 k a j x
 have hk:a<k.length:=by rw [h.len];exact ha
 refine ⟨?_,?_,fun i=>?_,fun i h1 h2=>?_,fun i h1=>?_,fun i h1 h2 h3=>?_⟩
 ·rw [List.length_set,los_length,h.len]
 ·rw [e];split
  ·decide
  ·exact h.zero
 ·rw [e,e]
  have hp:=h.pair i
  have hp1:=h.pair a
  have hp0:=h.pair (a-1)
  have hz:=h.zero
  by_cases c1:i=a
  ·subst c1
   rw [if_pos (Or.inl rfl)]
   constructor
   ·intro q;exact absurd q (by decide)
   ·intro q
    split at q
    ·exact absurd q (by decide)
    ·rename_i hn
     have:=hp.mpr q
     exact absurd (Or.inr (Or.inr ⟨this,rfl⟩)) hn
  by_cases c2:i+1=a
  ·have c2':i=a-1:=by omega
   rw [if_pos (Or.inl c2:i+1=a∨_)]
   constructor
   ·intro q
    split at q
    ·exact absurd q (by decide)
    ·rename_i hn
     have:=hp.mp q
     rw [c2] at this
     exact absurd (Or.inr (Or.inl ⟨this,c2'⟩)) hn
   ·intro q;exact absurd q (by decide)
  by_cases c3:(nth va0 l a).kind=2∧i=a+1
  ·have hn:(nth va0 l i).kind=9:=by rw [c3.2];exact hp1.mp c3.1
   rw [if_pos (Or.inr (Or.inr c3))]
   rw [if_neg (by rintro (q|q|q)<;>omega)]
   constructor
   ·intro q;exact absurd q (by decide)
   ·intro q
    have:=hp.mpr q
    omega
  by_cases c4:(nth va0 l a).kind=9∧i+1=a-1
  ·have hn:(nth va0 l (a-1)).kind=2:=by
    have e1:a-1+1=a:=by omega
    rw [e1] at hp0
    exact hp0.mpr c4.1
   rw [if_pos (Or.inr (Or.inl c4):i+1=a∨((nth va0 l a).kind=9∧i+1=a-1)∨_)]
   rw [if_neg (by rintro (q|q|q)<;>omega)]
   constructor
   ·intro q
    have:=hp.mp q
    rw [c4.2] at this
    omega
   ·intro q;exact absurd q (by decide)
  rw [if_neg (by rintro (q|q|q)<;>omega)]
  by_cases c5:(nth va0 l a).kind=9∧i=a-1
  ·exact absurd c5.2 (by omega)
  rw [if_neg]
  ·exact hp
  ·rintro (q|q|q)
   ·omega
   ·exact c4 q
   ·omega
 ·rw [e] at h1 h2 ⊢
  split at h1
  ·exact absurd h1 (by decide)
  ·rename_i hn
   rw [if_neg hn] at h2 ⊢
   rw [e',if_neg (fun q=>hn (Or.inl q.1.symm))]
   exact h.rd i h1 h2
 ·rw [e] at h1
  split at h1
  ·exact absurd h1 (by decide)
  ·rename_i hn
   have hl:=h.long i h1
   rw [e',if_neg]
   ·exact hl
   ·rintro ⟨q,-⟩
    have hp:=(h.pair i).mp h1
    rw [←q] at hp
    exact hn (Or.inr (Or.inl ⟨hp,by omega⟩))
 ·rw [e'] at h1 h2
  split at h1
  ·rename_i hq
   rw [if_pos hq] at h2
   omega
  ·rename_i hn
   rw [if_neg hn] at h2
   rw [e',if_neg hn] at h3 ⊢
   have hb:(nth va0 l i).kind=(nth va0 k i).kind:=by
    refine h.back i h1 h2 fun q=>?_
    have h4:=h3 q
    rw [e'] at h4
    split at h4
    ·omega
    ·exact h4
   rw [e,if_neg]
   ·exact hb
   ·rintro (q|q|q)
    ·exact hn ⟨q.symm,hk⟩
    ·have e1:a-1+1=a:=by
      have:a≠0:=fun z=>h.zero (by rw [←z];exact q.1)
      omega
     have hp:=h.pair (a-1)
     rw [e1] at hp
     have h2':=hp.mpr q.1
     rw [←q.2,hb] at h2'
     have h4:=h3 h2'
     rw [e',q.2,e1,if_pos ⟨rfl,hk⟩] at h4
     omega
    ·have hp:=(h.pair a).mp q.1
     rw [←q.2,hb] at hp
     omega
theorem LRel.sto {l k:List Va} (h:LRel l k) {a:Nat} (ha:a<l.length) (v:Va) (hv:1≤v.kind∧v.kind≤3) (h2:v.kind=2→a+1<l.length):LRel (stoP l a v) (stoM k a (im v)):=by
 have hv2:(im v).kind=v.kind:=rfl
 by_cases hk:v.kind=2
 ·have ha1:=h2 hk
  have r1:=(h.los ha va0 (Or.inl rfl)).los (a:=a+1) (by rw [los_length];exact ha1) va0 (Or.inl rfl)
  have r0:stoP l a v=(((losP (losP l a) (a+1)).set (a+1) ⟨9,0⟩).set a v):=by unfold stoP;rw [if_pos hk]
  have r2:stoM k a (im v)=(k.set a (im v)).set (a+1) ⟨4,0⟩:=by unfold stoM;rw [if_pos (by rw [hv2];exact hk)]
  rw [r0,r2]
  have hl2:(losP (losP l a) (a+1)).length=l.length:=by rw [los_length,los_length]
  have e:∀j,nth va0 (((losP (losP l a) (a+1)).set (a+1) ⟨9,0⟩).set a v) j=if j=a then v else if j=a+1 then ⟨9,0⟩ else nth va0 (losP (losP l a) (a+1)) j:=by
   intro j
   rw [nth_set,nth_set,List.length_set,hl2]
   by_cases c1:j=a
   ·rw [if_pos ⟨c1.symm,ha⟩,if_pos c1]
   ·rw [if_neg (fun q=>c1 q.1.symm),if_neg c1]
    by_cases c2:j=a+1
    ·rw [if_pos ⟨c2.symm,ha1⟩,if_pos c2]
    ·rw [if_neg (fun q=>c2 q.1.symm),if_neg c2]
  have e':∀j,nth va0 ((k.set a (im v)).set (a+1) ⟨4,0⟩) j=if j=a then im v else if j=a+1 then ⟨4,0⟩ else nth va0 ((k.set a va0).set (a+1) va0) j:=by
   intro j
   rw [nth_set,nth_set,nth_set,nth_set,List.length_set,List.length_set,h.len]
   by_cases c1:j=a
   ·rw [if_neg (by omega),if_pos ⟨c1.symm,ha⟩,if_pos c1]
   ·rw [if_neg c1]
    by_cases c2:j=a+1
    ·rw [if_pos ⟨c2.symm,ha1⟩,if_pos c2]
    ·rw [if_neg (fun q=>c2 q.1.symm),if_neg (fun q=>c1 q.1.symm),if_neg c2,if_neg (fun q=>c2 q.1.symm),if_neg (fun q=>c1 q.1.symm)]
  have z0:nth va0 (losP (losP l a) (a+1)) a=va0:=by
   have hlt:a+1<(losP l a).length:=by rw [los_length];exact ha1
   rw [los_nth _ _ _ hlt]
   split
   ·rfl
   ·rw [los_nth _ _ _ ha,if_pos (Or.inl rfl)]
  have z1:nth va0 (losP (losP l a) (a+1)) (a+1)=va0:=by
   have hlt:a+1<(losP l a).length:=by rw [los_length];exact ha1
   rw [los_nth _ _ _ hlt,if_pos (Or.inl rfl)]
  have zp:∀i,i+1=a→(nth va0 (losP (losP l a) (a+1)) i).kind≠2:=by
   intro i hi q
   have:=(r1.pair i).mp q
   rw [hi,z0] at this
   exact absurd this (by decide)
  have zn:(nth va0 (losP (losP l a) (a+1)) (a+1+1)).kind≠9:=by
   intro q
   have:=(r1.pair (a+1)).mpr q
   rw [z1] at this
   exact absurd this (by decide)
  refine ⟨?_,?_,fun i=>?_,fun i h1 h3=>?_,fun i h1=>?_,fun i h1 h3 h4=>?_⟩
  ·simp [hl2,h.len]
  ·rw [e];split
   ·omega
   ·split
    ·omega
    ·exact r1.zero
  ·rw [e,e]
   by_cases c1:i=a
   ·subst c1;rw [if_pos rfl,if_neg (by omega),if_pos rfl];exact ⟨fun _=>rfl,fun _=>hk⟩
   ·rw [if_neg c1]
    by_cases c2:i=a+1
    ·subst c2
     rw [if_pos rfl,if_neg (by omega),if_neg (by omega)]
     constructor
     ·intro q;exact absurd q (by decide)
     ·intro q;exact absurd q zn
    ·rw [if_neg c2]
     by_cases c3:i+1=a
     ·rw [if_pos c3]
      constructor
      ·intro q;exact absurd q (zp i c3)
      ·intro q;omega
     ·rw [if_neg c3,if_neg (by omega)];exact r1.pair i
  ·rw [e] at h1 h3 ⊢
   rw [e']
   by_cases c1:i=a
   ·rw [if_pos c1,if_pos c1]
   ·rw [if_neg c1] at h1 h3 ⊢
    rw [if_neg c1]
    by_cases c2:i=a+1
    ·rw [if_pos c2] at h3;exact absurd h3 (by decide)
    ·rw [if_neg c2] at h1 h3 ⊢
     rw [if_neg c2]
     exact r1.rd i h1 h3
  ·rw [e] at h1
   rw [e']
   by_cases c1:i=a
   ·rw [if_neg (by omega),if_pos (by omega)]
   ·rw [if_neg c1] at h1
    by_cases c2:i=a+1
    ·rw [if_pos c2] at h1;exact absurd h1 (by decide)
    ·rw [if_neg c2] at h1
     by_cases c3:i+1=a
     ·exact absurd h1 (zp i c3)
     ·rw [if_neg c3,if_neg (by omega)]
      exact r1.long i h1
  ·rw [e'] at h1 h3
   rw [e,e']
   by_cases c1:i=a
   ·rw [if_pos c1,if_pos c1];rfl
   ·rw [if_neg c1] at h1 h3
    rw [if_neg c1,if_neg c1]
    by_cases c2:i=a+1
    ·rw [if_pos c2] at h3;exact absurd h3 (by decide)
    ·rw [if_neg c2] at h1 h3
     rw [if_neg c2,if_neg c2]
     refine r1.back i h1 h3 fun q=>?_
     have h5:=h4 (by rw [e',if_neg c1,if_neg c2];exact q)
     rw [e'] at h5
     by_cases c3:i+1=a
     ·rw [if_pos c3] at h5
      rw [hv2,hk] at h5
      exact absurd h5 (by decide)
     ·rw [if_neg c3,if_neg (by omega)] at h5
      exact h5
 ·have r1:=h.los ha va0 (Or.inl rfl)
  have r0:stoP l a v=(losP l a).set a v:=by unfold stoP;rw [if_neg hk]
  have r2:stoM k a (im v)=k.set a (im v):=by unfold stoM;rw [if_neg (by rw [hv2];exact hk)]
  rw [r0,r2]
  have e:∀j,nth va0 ((losP l a).set a v) j=if j=a then v else nth va0 (losP l a) j:=by
   intro j
   rw [nth_set,los_length]
   by_cases c1:j=a
   ·rw [if_pos ⟨c1.symm,ha⟩,if_pos c1]
   ·rw [if_neg (fun q=>c1 q.1.symm),if_neg c1]
  have e':∀j,nth va0 (k.set a (im v)) j=if j=a then im v else nth va0 (k.set a va0) j:=by
   intro j
   rw [nth_set,nth_set,h.len]
   by_cases c1:j=a
   ·rw [if_pos ⟨c1.symm,ha⟩,if_pos c1]
   ·rw [if_neg (fun q=>c1 q.1.symm),if_neg c1,if_neg (fun q=>c1 q.1.symm)]
  have z0:nth va0 (losP l a) a=va0:=by rw [los_nth _ _ _ ha,if_pos (Or.inl rfl)]
  have zp:∀i,i+1=a→(nth va0 (losP l a) i).kind≠2:=by
   intro i hi q
   have:=(r1.pair i).mp q
   rw [hi,z0] at this
   exact absurd this (by decide)
  have zn:(nth va0 (losP l a) (a+1)).kind≠9:=by
   intro q
   have:=(r1.pair a).mpr q
   rw [z0] at this
   exact absurd this (by decide)
  refine ⟨?_,?_,fun i=>?_,fun i h1 h3=>?_,fun i h1=>?_,fun i h1 h3 h4=>?_⟩
  ·simp [los_length,h.len]
  ·rw [e];split
   ·omega
   ·exact r1.zero
  ·rw [e,e]
   by_cases c1:i=a
   ·subst c1;rw [if_pos rfl,if_neg (by omega)]
    constructor
    ·intro q;exact absurd q hk
    ·intro q;exact absurd q zn
   ·rw [if_neg c1]
    by_cases c3:i+1=a
    ·rw [if_pos c3]
     constructor
     ·intro q;exact absurd q (zp i c3)
     ·intro q;omega
    ·rw [if_neg c3];exact r1.pair i
  ·rw [e] at h1 h3 ⊢
   rw [e']
   by_cases c1:i=a
   ·rw [if_pos c1,if_pos c1]
   ·rw [if_neg c1] at h1 h3 ⊢
    rw [if_neg c1]
    exact r1.rd i h1 h3
  ·rw [e] at h1
   rw [e']
   by_cases c1:i=a
   ·rw [if_pos c1] at h1;exact absurd h1 hk
   ·rw [if_neg c1] at h1
    by_cases c3:i+1=a
    ·exact absurd h1 (zp i c3)
    ·rw [if_neg c3]
     exact r1.long i h1
  ·rw [e'] at h1 h3
   rw [e,e']
   by_cases c1:i=a
   ·rw [if_pos c1,if_pos c1];rfl
   ·rw [if_neg c1] at h1 h3
    rw [if_neg c1,if_neg c1]
    refine r1.back i h1 h3 fun q=>?_
    have h5:=h4 (by rw [e',if_neg c1];exact q)
    rw [e'] at h5
    by_cases c3:i+1=a
    ·rw [if_pos c3] at h5
     rw [hv2] at h5
     omega
    ·rw [if_neg c3] at h5
     exact h5
theorem LRel.new (n:Nat):LRel (List.replicate n va0) (List.replicate n va0):=by
 have e:∀i,nth va0 (List.replicate n va0) i=va0:=by
  intro i
  unfold nth
  simp [List.getD_eq_getElem?_getD,List.getElem?_replicate]
  split<;>rfl
 refine ⟨rfl,?_,fun i=>?_,fun i h=>?_,fun i h=>?_,fun i h=>?_⟩
 ·rw [e];decide
 ·rw [e,e];decide
 ·rw [e] at h;exact absurd h (by decide)
 ·rw [e] at h;exact absurd h (by decide)
 ·rw [e] at h;exact absurd h (by decide)
theorem numbers_any (x n:Int) (w:World) :
  Calls Tryz.prog 144 #[.int .i64 x,.int .i64 n] w fun e w'=>e=.returned (.bool (decide (0≤x∧x<n)))∧w'=w:=by
 go_enter Tryz.func144,Tryz.ntmps144
 go_wp2
 all_goals
  go_ret
  refine ⟨ret_bool ?_,rfl⟩
  rw [Bool.eq_iff_iff];simp;try omega
theorem span_any (n lo hi:Int) (w:World) :
  Calls Tryz.prog 63 #[.int .i64 n,.int .i64 lo,.int .i64 hi] w fun e w'=>e=.returned (.bool (decide (lo≤n∧n≤hi)))∧w'=w:=by
 go_enter Tryz.func63,Tryz.ntmps63
 go_wp2
 all_goals
  go_ret
  refine ⟨ret_bool ?_,rfl⟩
  rw [Bool.eq_iff_iff];simp;try omega
end Go.Proofs.YtgiiapenmjollabGreat
