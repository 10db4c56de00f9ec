import Derived.Test.YtfncnhlihmnkiabGreatRsaa
import Derived.BigQuiet
import Derived.Test.YtfncnhlihmnkiabGreatChecked
import Derived.Deep.RegionHeld3
import Derived.RowKit3
import Derived.Handy
namespace Go.Proofs.YtfncnhlihmnkiabGreat
set_option linter.all false
set_option maxHeartbeats 40000000
set_option maxRecDepth 100000
open Go.RowKit
theorem i64_w64 (a:Int):I64 (wrap64 a):=by have:=w64_bd a;unfold I64;omega
theorem i64_w32 (a:Int):I64 (wrap32 a):=by have:=w32_bd a;unfold I64;omega
theorem i64_tmod (a b:Int) (ha:I64 a):I64 (a.tmod b):=by
 have h1:(a.tmod b).natAbs=a.natAbs%b.natAbs:=Int.natAbs_tmod a b
 have h2:a.natAbs%b.natAbs≤a.natAbs:=Nat.mod_le _ _
 have h3:=tmod_sign a b
 unfold I64 at *
 omega
theorem i64_lng (op a b:Int) (ha:I64 a):I64 (lngV op a b):=by
 have h0:I64 0:=by unfold I64;omega
 unfold lngV
 split
 ·exact i64_w64 _
 split
 ·exact i64_w64 _
 split
 ·exact i64_w64 _
 split
 ·split
  ·exact h0
  ·exact i64_w64 _
 split
 ·split
  ·exact h0
  ·exact i64_tmod a b ha
 split
 ·exact i64_w64 _
 ·exact h0
structure Le (h h':Hp):Prop where
 file:h'.file=h.file
 input:h'.input=h.input
 fuel:h'.fuel=h.fuel
 objs:h.objs.length≤h'.objs.length
 steps:h.sh.steps≤h'.sh.steps
 calls:h'.calls=h.calls
theorem Le.refl (h:Hp):Le h h:=⟨rfl,rfl,rfl,Nat.le_refl _,Int.le_refl _,rfl⟩
theorem Le.trans {a b c:Hp} (h:Le a b) (k:Le b c):Le a c:=⟨k.file.trans h.file,k.input.trans h.input,k.fuel.trans h.fuel,Nat.le_trans h.objs k.objs,Int.le_trans h.steps k.steps,k.calls.trans h.calls⟩
theorem GdV.le {h h':Hp} {v:Va} (g:GdV h v) (l:Le h h'):GdV h' v:=⟨fun e=>⟨(g.ref e).1,by have:=(g.ref e).2;have:=l.objs;omega⟩,g.num⟩
structure Gh (s:Nat) (h:Hp):Prop where
 held:∀o∈h.objs,∀x∈o.held,GdV h x.v
 thr:-1≤h.thrown∧h.thrown<h.objs.length
 used:0≤h.sh.used
 steps:h.sh.steps≤h.fuel
 fuel:0≤h.fuel∧h.fuel≤60000
 out:(h.sh.out.length:Int)+s≤h.sh.steps
 len:h.objs.length≤100
 inp:∀n∈h.input,I64 n
 calls:0≤h.calls∧h.calls≤20
theorem Gh.same {s:Nat} {h h':Hp} (g:Gh s h) (e1:h'.objs=h.objs) (e2:h'.sh.used=h.sh.used) (e3:h'.sh.steps=h.sh.steps) (e4:h'.fuel=h.fuel) (e5:h'.sh.out=h.sh.out) (e6:h'.input=h.input) (e7:h'.calls=h.calls) (ht:-1≤h'.thrown∧h'.thrown<h'.objs.length):Gh s h' :=
 ⟨fun o ho x hx=>⟨fun e=>by rw [e1];exact (g.held o (e1▸ho) x hx).ref e,(g.held o (e1▸ho) x hx).num⟩,ht,by rw [e2];exact g.used,by rw [e3,e4];exact g.steps,by rw [e4];exact g.fuel,by rw [e5,e3];exact g.out,by rw [e1];exact g.len,by rw [e6];exact g.inp,by rw [e7];exact g.calls⟩
theorem Gh.less {s:Nat} {h:Hp} (g:Gh s h):Gh 0 h:=⟨g.held,g.thr,g.used,g.steps,g.fuel,by have:=g.out;omega,g.len,g.inp,g.calls⟩
theorem fin_le (h:Hp) (e:Int):Le h (h.fin e):=by unfold Hp.fin;split<;>exact ⟨rfl,rfl,rfl,Nat.le_refl _,Int.le_refl _,rfl⟩
theorem Gh.fin {s:Nat} {h:Hp} (g:Gh s h) (e:Int):Gh s (h.fin e):=by
 unfold Hp.fin;split
 ·exact g
 ·exact g.same rfl rfl rfl rfl rfl rfl rfl g.thr
theorem must_le (h:Hp) (b:Bool):Le h (h.must b):=by unfold Hp.must;split;exact Le.refl h;exact fin_le h 6
theorem Gh.must {s:Nat} {h:Hp} (g:Gh s h) (b:Bool):Gh s (h.must b):=by unfold Hp.must;split;exact g;exact g.fin 6
theorem init_gd (h:Hp) (t:Ty):GdV h (initV t):=by
 unfold initV
 refine ⟨fun e=>?_,?_⟩
 ·dsimp only at e ⊢;rw [if_pos e];omega
 ·dsimp only;split<;>(unfold I64;omega)
theorem newHeld_gd (h:Hp) (cs:List Cl) (c:Nat):∀x∈newHeld cs c,GdV h x.v:=by
 intro x hx
 unfold newHeld at hx
 rw [List.mem_flatMap] at hx
 obtain ⟨d,-,hd⟩:=hx
 unfold heldOf at hd
 split at hd
 ·rw [List.mem_map] at hd
  obtain ⟨k,-,rfl⟩:=hd
  exact init_gd h _
 ·simp at hd
theorem new_le (h:Hp) (c:Int):Le h (h.new c):=by
 unfold Hp.new;split
 ·exact fin_le h 4
 ·exact ⟨rfl,rfl,rfl,by simp,Int.le_refl _,rfl⟩
theorem Gh.new {s:Nat} {h:Hp} (g:Gh s h) (c:Int):Gh s (h.new c):=by
 have hle:=new_le h c
 unfold Hp.new at hle ⊢;split
 ·exact g.fin 4
 ·rename_i hf
  have hlt:h.objs.length<100:=by unfold Hp.full at hf;simpa using hf
  rw [if_neg hf] at hle
  refine ⟨fun o ho x hx=>?_,?_,g.used,g.steps,g.fuel,g.out,?_,g.inp,g.calls⟩
  ·rw [List.mem_append] at ho
   rcases ho with ho|ho
   ·exact (g.held o ho x hx).le hle
   ·simp at ho;subst ho;exact newHeld_gd _ _ _ x hx
  ·have:=g.thr;dsimp only;rw [List.length_append];omega
  ·dsimp only;rw [List.length_append];simp;omega
theorem newV_gd (h:Hp) (c:Int):GdV (h.new c) h.newV:=by
 unfold Hp.newV Hp.new
 split
 ·exact gdV0 _
 ·refine ⟨fun _=>by dsimp only;rw [List.length_append];simp;omega,?_⟩
  rename_i hf
  have hlt:h.objs.length<100:=by unfold Hp.full at hf;simpa using hf
  dsimp only;unfold I64;omega
theorem raise_le (h:Hp) (c:Int):Le h (h.raise c):=by
 have:=new_le h c
 unfold Hp.raise;split
 ·exact this
 ·exact ⟨this.file,this.input,this.fuel,this.objs,this.steps,this.calls⟩
theorem Gh.raise {s:Nat} {h:Hp} (g:Gh s h) (c:Int):Gh s (h.raise c):=by
 have gn:=g.new c
 unfold Hp.raise;split
 ·exact gn
 ·rename_i ho
  refine gn.same rfl rfl rfl rfl rfl rfl rfl ?_
  dsimp only
  have hf:¬h.full=true:=fun hf=>ho (by unfold Hp.new;rw [if_pos hf];unfold Hp.fin;split<;>simp_all)
  unfold Hp.newV Hp.new
  rw [if_neg hf,if_neg hf]
  dsimp only
  rw [List.length_append]
  simp
  omega
theorem throw_le (h:Hp) (v:Va):Le h (h.throw v):=by
 unfold Hp.throw;split
 ·split
  ·exact raise_le h 1
  ·exact ⟨rfl,rfl,rfl,Nat.le_refl _,Int.le_refl _,rfl⟩
 ·exact must_le h _
theorem Gh.throw {s:Nat} {h:Hp} (g:Gh s h) (v:Va) (hv:GdV h v):Gh s (h.throw v):=by
 unfold Hp.throw;split
 ·rename_i hm
  split
  ·exact g.raise 1
  ·rename_i hn
   have hk:v.kind=3:=by have:=(mustB_true hm).1;unfold isRef at this;exact of_decide_eq_true this
   exact g.same rfl rfl rfl rfl rfl rfl rfl ⟨by dsimp only;omega,(hv.ref hk).2⟩
 ·exact g.must _
theorem findH_le (h:Hp) (r:Va) (c:Int):Le h (h.findH r c):=by
 unfold Hp.findH;split
 ·split
  ·exact raise_le h 1
  ·exact Le.refl h
 ·exact must_le h _
theorem Gh.findH {s:Nat} {h:Hp} (g:Gh s h) (r:Va) (c:Int):Gh s (h.findH r c):=by
 unfold Hp.findH;split
 ·split
  ·exact g.raise 1
  ·exact g
 ·exact g.must _
theorem getV_gd {s:Nat} {h:Hp} (g:Gh s h) (r:Va) (c k:Int) (hr:GdV h r):GdV h (h.getV r c k):=by
 unfold Hp.getV;split
 ·exact gdV0 h
 ·rename_i hn
  obtain ⟨q,hq⟩:∃q:Nat,h.findN r c k=q:=⟨(h.findN r c k).toNat,by omega⟩
  have hk:h.mustB (h.of r ⟨3,c⟩)=true:=by
   by_cases hm:h.mustB (h.of r ⟨3,c⟩)=true
   ·exact hm
   ·unfold Hp.findN at hq;rw [if_neg hm] at hq;omega
  have h3:r.kind=3:=of_ref (mustB_true hk).1
  have hn':¬r.n<0:=fun hh=>by unfold Hp.findN at hq;rw [if_pos hk,if_pos hh] at hq;omega
  have he:heldAt (h.obj r.n).held c k=q:=by unfold Hp.findN at hq;rw [if_pos hk,if_neg hn'] at hq;exact hq
  have hlt:q<(h.obj r.n).held.length:=by
   rcases heldAt_lt (h.obj r.n).held c k with h0|⟨q',h1,h2⟩
   ·omega
   ·omega
  have hol:r.n.toNat<h.objs.length:=by have:=(hr.ref h3).2;omega
  rw [hq,Int.toNat_natCast]
  exact g.held _ (nth_mem hol) _ (nth_mem hlt)
theorem put_le (h:Hp) (r:Va) (c k:Int) (v:Va):Le h (h.put r c k v):=by
 unfold Hp.put;split
 ·split
  ·exact findH_le h r c
  ·have:=findH_le h r c
   exact ⟨this.file,this.input,this.fuel,by unfold Hp.setV;dsimp only;rw [List.length_set];exact this.objs,this.steps,this.calls⟩
 ·exact must_le h _
theorem mem_set' {α:Type} {l:List α} {n:Nat} {x y:α} (h:y∈l.set n x):y=x∨y∈l:=by
 rcases List.mem_or_eq_of_mem_set h with h|h
 ·exact Or.inr h
 ·exact Or.inl h
theorem Gh.put {s:Nat} {h:Hp} (g:Gh s h) (r:Va) (c k:Int) (v:Va) (hv:GdV h v):Gh s (h.put r c k v):=by
 unfold Hp.put;split
 ·split
  ·exact g.findH r c
  ·have gf:=g.findH r c
   have gv:=hv.le (findH_le h r c)
   generalize h.findH r c=h1 at gf gv
   generalize r.n.toNat=n
   generalize (h.findN r c k).toNat=j
   refine ⟨fun o ho x hx=>?_,?_,gf.used,gf.steps,gf.fuel,gf.out,?_,gf.inp,gf.calls⟩
   ·have key:GdV h1 x.v:=by
     unfold Hp.setV at ho
     dsimp only at ho
     by_cases hn:n<h1.objs.length
     ·rcases mem_set' ho with rfl|ho
      ·dsimp only at hx
       rcases mem_set' hx with rfl|hx
       ·exact gv
       ·exact gf.held _ (nth_mem hn) x hx
      ·exact gf.held o ho x hx
     ·rw [List.set_eq_of_length_le (by omega)] at ho;exact gf.held o ho x hx
    exact ⟨fun e=>by unfold Hp.setV;dsimp only;rw [List.length_set];exact key.ref e,key.num⟩
   ·have:=gf.thr;unfold Hp.setV;dsimp only;rw [List.length_set];exact this
   ·unfold Hp.setV;dsimp only;rw [List.length_set];exact gf.len
 ·exact g.must _
theorem cast_le (h:Hp) (v:Va) (c:Int):Le h (h.cast v c):=by
 unfold Hp.cast;split
 ·split
  ·exact Le.refl h
  ·exact raise_le h 3
 ·exact must_le h _
theorem Gh.cast {s:Nat} {h:Hp} (g:Gh s h) (v:Va) (c:Int):Gh s (h.cast v c):=by
 unfold Hp.cast;split
 ·split
  ·exact g
  ·exact g.raise 3
 ·exact g.must _
theorem emit_le (h:Hp) (v:Va) (k:Int):Le h (h.emit v k):=by
 unfold Hp.emit;split
 ·exact ⟨rfl,rfl,rfl,Nat.le_refl _,Int.le_refl _,rfl⟩
 ·exact must_le h _
theorem Gh.emit {h:Hp} (g:Gh 1 h) (v:Va) (k:Int):Gh 0 (h.emit v k):=by
 unfold Hp.emit;split
 ·refine ⟨(fun o ho x hx=>⟨(g.held o ho x hx).ref,(g.held o ho x hx).num⟩),g.thr,g.used,g.steps,g.fuel,?_,g.len,g.inp,g.calls⟩
  have:=g.out;dsimp only;rw [List.length_append];simp;omega
 ·exact (g.must _).less
theorem input_le (h:Hp):Le h h.input':=by
 unfold Hp.input';split
 ·exact fin_le h 3
 ·exact ⟨rfl,rfl,rfl,Nat.le_refl _,Int.le_refl _,rfl⟩
theorem Gh.input {s:Nat} {h:Hp} (g:Gh s h):Gh s h.input':=by
 unfold Hp.input';split
 ·exact g.fin 3
 ·exact ⟨(fun o ho x hx=>⟨(g.held o ho x hx).ref,(g.held o ho x hx).num⟩),g.thr,by have:=g.used;dsimp only;omega,g.steps,g.fuel,g.out,g.len,g.inp,g.calls⟩
theorem inV_gd {s:Nat} {h:Hp} (g:Gh s h):GdV h h.inV:=by
 unfold Hp.inV;split
 ·exact gdV0 h
 ·rename_i hd
  refine ⟨fun e=>by dsimp only at e;omega,?_⟩
  dsimp only
  have hu:=g.used
  have hlt:h.sh.used.toNat<h.input.length:=by unfold Hp.dry at hd;simp at hd;omega
  exact g.inp _ (nth_mem hlt)
theorem reckH_le (h:Hp) (a b:Va) (k op:Int):Le h (h.reckH a b k op):=by
 unfold Hp.reckH;split
 ·split
  ·exact Le.refl h
  ·exact raise_le h 2
 ·exact must_le h _
theorem Gh.reckH {s:Nat} {h:Hp} (g:Gh s h) (a b:Va) (k op:Int):Gh s (h.reckH a b k op):=by
 unfold Hp.reckH;split
 ·split
  ·exact g
  ·exact g.raise 2
 ·exact g.must _
theorem reckV_gd (h h':Hp) (a b:Va) (k op:Int) (hk:k=1∨k=2) (ha:I64 a.n):GdV h' (h.reckV a b k op):=by
 unfold Hp.reckV;split
 ·refine ⟨fun e=>by dsimp only at e;omega,?_⟩
  dsimp only;unfold reckN;split
  ·exact i64_w32 _
  ·exact i64_lng _ _ _ ha
 ·exact gdV0 _
theorem step_le (h:Hp):Le h h.step:=by
 unfold Hp.step;split
 ·exact Le.refl h
 ·split
  ·exact fin_le h 0
  ·exact ⟨rfl,rfl,rfl,Nat.le_refl _,by dsimp only;omega,rfl⟩
theorem Gh.step {h:Hp} (g:Gh 0 h) (hb:h.stepB=true):Gh 1 h.step:=by
 unfold Hp.stepB at hb
 simp at hb
 unfold Hp.step
 rw [if_neg (by rw [hb.1];decide),if_neg (by omega)]
 exact ⟨(fun o ho x hx=>⟨(g.held o ho x hx).ref,(g.held o ho x hx).num⟩),g.thr,g.used,by dsimp only;omega,g.fuel,by have:=g.out;dsimp only;omega,g.len,g.inp,g.calls⟩
theorem Gh.step0 {h:Hp} (g:Gh 0 h) (hb:h.stepB=false):Gh 0 h.step:=by
 unfold Hp.stepB at hb
 unfold Hp.step;split
 ·exact g
 ·rename_i ho
  split
  ·exact g.fin 0
  ·rename_i hf
   have:h.over=false:=by simpa using ho
   rw [this] at hb
   simp at hb
   omega
structure Gc (h:Hp) (c:Cal):Prop where
 giv:GdV h c.giv
 cau:GdV h c.cau
 locs:∀v∈c.locs,GdV h v
 ok:LocOk c.locs
 len:(c.locs.length:Int)=c.m.regs
 me:rmeB h.file.classes h.file.methods c.m=true
 mok:∀i∈c.m.code,i.ok
theorem sizP_append (l k:List Va):sizP (l++k)=sizP l+sizP k:=by
 induction l with
 | nil=>simp [sizP]
 | cons t l ih=>simp only [sizP,List.cons_append,ih];omega
theorem sizP_takeLe (l:List Va) (n:Nat):sizP (l.take n)≤sizP l:=by
 have:=sizP_append (l.take n) (l.drop n)
 rw [List.take_append_drop] at this
 omega
theorem smeP {cs:List Cl} {ms:List Me} {m:Me} (h:rmeB cs ms m=true):1≤m.regs∧m.regs≤90∧(slotsN m.params:Int)≤m.regs∧m.params.length≤4∧1≤m.code.length∧m.code.length≤2400∧(∀i∈m.code,rinB cs ms m.code.length m.regs m.ret.kind i=true)∧(∀t∈m.params,tyB cs.length t=true)∧(∀x∈m.hands,hdB cs.length m.code.length x=true)∧retB cs.length m.ret=true:=by
 unfold rmeB headB at h
 simp only [Bool.and_eq_true,List.all_eq_true,decide_eq_true_eq] at h
 obtain ⟨⟨⟨⟨⟨h1,h2⟩,h3⟩,h4⟩,h5⟩,h6⟩:=h
 exact ⟨by omega,by omega,by omega,by omega,by omega,by omega,h6,h2,h3,h4⟩
theorem Gc.le {h h':Hp} {c:Cal} (g:Gc h c) (l:Le h h'):Gc h' c :=
 ⟨g.giv.le l,g.cau.le l,fun v hv=>(g.locs v hv).le l,g.ok,g.len,by rw [l.file];exact g.me,g.mok⟩
theorem Gc.pc {h:Hp} {c:Cal} (g:Gc h c) (n:Int):Gc h { c with pc:=n }:=⟨g.giv,g.cau,g.locs,g.ok,g.len,g.me,g.mok⟩
theorem Gc.clr {h:Hp} {c:Cal} (g:Gc h c):Gc h c.clr:=⟨gdV0 h,gdV0 h,g.locs,g.ok,g.len,g.me,g.mok⟩
theorem Gc.rd {h:Hp} {c:Cal} (g:Gc h c) {a:Int} (ha:0≤a∧a<c.m.regs):GdV h (c.rd a):=g.locs _ (nth_mem (by have:=g.len;omega))
theorem fin_thrown (h:Hp) (e:Int):(h.fin e).thrown=h.thrown:=by unfold Hp.fin;split<;>rfl
theorem must_go {h:Hp} {b:Bool} (ho:(h.must b).over=false):b=true∧h.over=false:=by
 unfold Hp.must at ho;split at ho
 ·rename_i hb;exact ⟨hb,ho⟩
 ·unfold Hp.fin at ho;split at ho
  ·rename_i h1;rw [h1] at ho;cases ho
  ·simp at ho
theorem set_ok {l:List Va} (h:LocOk l) (i:Nat) (v:Va) (h9:v.kind≠9) (h2:v.kind≠2):LocOk (l.set i v):=by
 have key:∀j,j<l.length→nth va0 (l.set i v) j=v∨nth va0 (l.set i v) j=nth va0 l j:=fun j hj=>by
  by_cases e:i=j
  ·subst e;exact Or.inl (nth_set_eq hj)
  ·exact Or.inr (nth_set_ne e)
 refine ⟨fun j hj hk=>?_,fun j hj hk=>?_⟩
 ·rw [List.length_set] at hj
  rcases key j hj with e|e
  ·rw [e] at hk;exact absurd hk h9
  ·rw [e] at hk;exact h.nine j hj hk
 ·rw [List.length_set] at hj ⊢
  rcases key j hj with e|e
  ·rw [e] at hk;exact absurd hk h2
  ·rw [e] at hk;exact h.two j hj hk
theorem los_ok {l:List Va} (h:LocOk l) (a:Nat):LocOk (losP l a):=by
 have h0:(va0).kind≠9:=by decide
 have h1:(va0).kind≠2:=by decide
 unfold losP;split
 ·exact set_ok (set_ok h _ _ h0 h1) _ _ h0 h1
 ·split
  ·exact set_ok (set_ok h _ _ h0 h1) _ _ h0 h1
  ·exact set_ok h _ _ h0 h1
theorem sto_ok {l:List Va} (h:LocOk l) (a:Nat) (v:Va) (h9:v.kind≠9) (h2:v.kind=2→a+1<l.length):LocOk (stoP l a v):=by
 unfold stoP;split
 ·rename_i hk
  have hl:=h2 hk
  have h3:=los_ok (los_ok h a) (a+1)
  have hlen:(losP (losP l a) (a+1)).length=l.length:=by rw [losP_length,losP_length]
  generalize losP (losP l a) (a+1)=m at h3 hlen
  refine ⟨fun j hj hj9=>?_,fun j hj hj2=>?_⟩
  ·rw [List.length_set,List.length_set] at hj
   by_cases e:a=j
   ·subst e;rw [nth_set_eq (by rw [List.length_set];exact hj)] at hj9;exact absurd hj9 h9
   ·rw [nth_set_ne e] at hj9
    by_cases e2:a+1=j
    ·omega
    ·rw [nth_set_ne e2] at hj9;exact h3.nine j hj hj9
  ·rw [List.length_set,List.length_set] at hj ⊢
   by_cases e:a=j
   ·omega
   ·rw [nth_set_ne e] at hj2
    by_cases e2:a+1=j
    ·subst e2;rw [nth_set_eq hj] at hj2;exact absurd hj2 (by decide)
    ·rw [nth_set_ne e2] at hj2;exact h3.two j hj hj2
 ·rename_i hk
  exact set_ok (los_ok h a) a v h9 hk
theorem los_mem {l:List Va} {a:Nat} {x:Va} (h:x∈losP l a):x=va0∨x∈l:=by
 unfold losP at h;split at h
 ·rcases mem_set' h with h|h
  ·exact Or.inl h
  ·exact mem_set' h
 ·split at h
  ·rcases mem_set' h with h|h
   ·exact Or.inl h
   ·exact mem_set' h
  ·exact mem_set' h
theorem sto_gd {h:Hp} {l:List Va} (hl:∀x∈l,GdV h x) {v:Va} (hv:GdV h v) (a:Nat):∀x∈stoP l a v,GdV h x:=by
 intro x hx
 have h0:=gdV0 h
 have h9:GdV h ⟨9,0⟩:=⟨fun e=>absurd e (by decide),by unfold I64;decide⟩
 unfold stoP at hx;split at hx
 ·rcases mem_set' hx with rfl|hx
  ·exact hv
  rcases mem_set' hx with rfl|hx
  ·exact h9
  rcases los_mem hx with rfl|hx
  ·exact h0
  rcases los_mem hx with rfl|hx
  ·exact h0
  exact hl x hx
 ·rcases mem_set' hx with rfl|hx
  ·exact hv
  rcases los_mem hx with rfl|hx
  ·exact h0
  exact hl x hx
theorem Gc.wr {h:Hp} {c:Cal} (g:Gc h c) {a:Int} {v:Va} (hv:h.stops=false→GdV h v∧v.kind≠9∧(v.kind=2→a+1<c.m.regs)) (ha:0≤a):Gc h (wrP h c a v):=by
 unfold wrP;split
 ·exact g
 ·rename_i hs
  obtain ⟨h1,h2,h3⟩:=hv (by simpa using hs)
  refine ⟨g.giv,g.cau,sto_gd g.locs h1 _,sto_ok g.ok _ _ h2 (fun e=>by have:=h3 e;have:=g.len;omega),?_,g.me,g.mok⟩
  show ((stoP c.locs a.toNat v).length:Int)=c.m.regs
  rw [stoP_length];exact g.len
structure Fut (w:World) where
 to:World
 is:Bl w to
theorem wp_region_fut {P:Program} {id:Nat} {Q:Exit→Act→World→Prop} {a:Act} {w:World} {l:List Oper} (hm:P.follows .mixedOrders=true) (hB:Region.lexB .any l.toArray=true)
  (h:Nonempty (Fut w)→wpQuiet P l.toArray (fun w'=>∃x:Fut w,w'=x.to) (fun a'=>∀w',(∃x:Fut w,w'=x.to)→Q .normal a' w') l a):(Code.region id l.toArray true).wp P Q a w :=
 wp_region_quiet (C:=fun w'=>∃x:Fut w,w'=x.to) hm hB ⟨⟨_,(Bl.refl w).drew⟩,rfl⟩ (by simpa using h ⟨⟨w,Bl.refl w⟩⟩)
theorem Calls.fut {P:Program} {f:FuncId} {args:Array Value} {w:World} {v:Value} (x:Fut w)
  (h:Calls P f args x.to fun e w'=>e=.returned v∧Bl x.to w'):Calls P f args x.to fun e w''=>e=.returned v∧∃y:Fut w,w''=y.to :=
 h.mono fun _ w'' ⟨he,hb⟩=>⟨he,⟨w'',x.is.trans hb⟩,rfl⟩
theorem Calls.fut_same {P:Program} {f:FuncId} {args:Array Value} {w:World} {v:Value} (x:Fut w)
  (h:Calls P f args x.to fun e w'=>e=.returned v∧w'=x.to):Calls P f args x.to fun e w''=>e=.returned v∧∃y:Fut w,w''=y.to :=
 h.mono fun _ _ ⟨he,hb⟩=>⟨he,x,hb⟩
theorem Calls.fut_eq {P:Program} {f:FuncId} {args:Array Value} {w:World} {v v':Value} (x:Fut w)
  (h:Calls P f args x.to fun e w'=>e=.returned v∧Bl x.to w') (hv:v=v'):Calls P f args x.to fun e w''=>e=.returned v'∧∃y:Fut w,w''=y.to :=
 hv▸Calls.fut x h
theorem Calls.fut_same_eq {P:Program} {f:FuncId} {args:Array Value} {w:World} {v v':Value} (x:Fut w)
  (h:Calls P f args x.to fun e w'=>e=.returned v∧w'=x.to) (hv:v=v'):Calls P f args x.to fun e w''=>e=.returned v'∧∃y:Fut w,w''=y.to :=
 hv▸Calls.fut_same x h
theorem fut_cell {w:World} {b o:Nat} {v:Value} (h:w.cell? ⟨b,o,none⟩=some v) (x:Fut w):x.to.cell? ⟨b,o,none⟩=some v:=x.is.cell h
theorem takeH {P:Program} {md:Region.Mode} {ops:Array Oper} {Q:Exit→Act→World→Prop} {S:World→Prop} {i:Nat} {oi:Oper} {d:Option Tmp} {v:Value} {fuel:Nat} {listed:Array Bool} {a:Act} {w:World} (hi:ops[i]?=some oi) (hd:oi.dst=d)
  (hs:Region.noSelect ops=true) (hf:Region.free md ops listed i=true) (hr:(Region.ready md ops listed).contains i=true)
  (hQ:∀c a w,Q (.panic c) (a.put oi.dst v) w→Q (.panic c) a w) (hw:Region.wanted oi (yielded ops a.tmps)=true) (hy:∀w,S w→(execOp a.eval oi).run P w=.ok (.value v) w) (hS:S w)
  (h:wpAnyH P md ops Q S fuel (listed.setIfInBounds i true) (a.put d v) w):wpAnyH P md ops Q S (fuel+1) listed a w :=
 wpAnyH_take hi hs hf hr hQ (Or.inl ⟨hw,hy⟩) hS (hd▸h)
def qOp:Op→Bool
 | .call c=>match c.callee with | .builtin .len=>true|_=>false
 | .move _ | .assign _ | .fieldAddr .. | .nilCheck _ | .load .. | .binOp .. | .unOp .. | .indexAddr .. | .build .. | .slice .. | .index .. | .extract .. | .convert .. | .field .. | .pick .. | .lookup ..=>true
 | _=>false
def nxA (md:Region.Mode) (l:List Bool):List Edge→Bool
 | []=>true
 | e::es=>(!Region.binds md e||l.getD e.on false)&&nxA md l es
def nxL (md:Region.Mode) (l:List Bool) (k:Nat):List Oper→List Bool→Option (Nat×Oper)
 | o::os,b::bs=>match !b&&(qOp o.op&&nxA md l o.after.toList) with
  | true=>some (k,o)
  | false=>nxL md l (k+1) os bs
 | _,_=>none
theorem nx_at {md:Region.Mode} {l:List Bool} {i:Nat} {o:Oper}:∀(os:List Oper) (bs:List Bool) (k:Nat),nxL md l k os bs=some (i,o)→∃q,i=k+q∧os[q]?=some o
 | [],bs,k,h=>by simp [nxL] at h
 | x::os,[],k,h=>by simp [nxL] at h
 | x::os,b::bs,k,h=>by
  unfold nxL at h
  split at h
  ·have h:=Option.some.inj h
   exact ⟨0,by have:=congrArg Prod.fst h;simp at this;omega,by have:=congrArg Prod.snd h;simp at this;simp [this]⟩
  ·obtain ⟨q,h1,h2⟩:=nx_at os bs (k+1) h
   exact ⟨q+1,by omega,by simpa using h2⟩
theorem tn {P:Program} {md:Region.Mode} {ops:Array Oper} {Q:Exit→Act→World→Prop} {S:World→Prop} {i:Nat} {oi:Oper} {v:Value} {fuel:Nat} {listed:Array Bool} {a:Act} {w:World} (hn:nxL md listed.toList 0 ops.toList listed.toList=some (i,oi))
  (hr:(Region.noSelect ops&&(Region.free md ops listed i&&((Region.ready md ops listed).contains i&&Region.wanted oi (yielded ops a.tmps))))=true)
  (hQ:∀c a w,Q (.panic c) (a.put oi.dst v) w→Q (.panic c) a w) (hy:∀w,S w→(execOp a.eval oi).run P w=.ok (.value v) w) (hS:S w)
  (h:wpAnyH P md ops Q S fuel (listed.setIfInBounds i true) (a.put oi.dst v) w):wpAnyH P md ops Q S (fuel+1) listed a w:=by
 rw [Bool.and_eq_true,Bool.and_eq_true,Bool.and_eq_true] at hr
 obtain ⟨q,h1,h2⟩:=nx_at _ _ _ hn
 have hi:ops[i]?=some oi:=by rw [h1,Nat.zero_add,←Array.getElem?_toList];exact h2
 exact takeH hi rfl hr.1 hr.2.1 hr.2.2.1 hQ hr.2.2.2 hy hS h
theorem tk {P:Program} {md:Region.Mode} {ops:Array Oper} {Q:Exit→Act→World→Prop} {S:World→Prop} {i:Nat} {oi:Oper} {d:Option Tmp} {v:Value} {fuel:Nat} {listed:Array Bool} {a:Act} {w:World} (hi:ops[i]?=some oi) (hd:oi.dst=d)
  (hr:(Region.noSelect ops&&(Region.free md ops listed i&&(Region.ready md ops listed).contains i))=true)
  (hQ:∀c a w,Q (.panic c) (a.put oi.dst v) w→Q (.panic c) a w) (hw:Region.wanted oi (yielded ops a.tmps)=true) (hy:∀w,S w→(execOp a.eval oi).run P w=.ok (.value v) w) (hS:S w)
  (h:wpAnyH P md ops Q S fuel (listed.setIfInBounds i true) (a.put d v) w):wpAnyH P md ops Q S (fuel+1) listed a w:=by
 rw [Bool.and_eq_true,Bool.and_eq_true] at hr
 exact takeH hi hd hr.1 hr.2.1 hr.2.2 hQ hw hy hS h
theorem rd1 {P:Program} {md:Region.Mode} {ops:Array Oper} {Q:Exit→Act→World→Prop} {S:World→Prop} {fuel:Nat} {listed:Array Bool} {a:Act} {w:World} {i:Nat} {o:Oper} (hr:Region.ready md ops listed=[i]) (ho:ops[i]?=some o)
  (h:∀K':Act→World→Prop,Shut (∀a w,S w→(S w→wpAnyH P md ops Q S fuel (listed.setIfInBounds i true) a w)→K' a w)→if Region.wanted o (yielded ops a.tmps)=true then Oper.wp P o a w K' Q else K' (a.put o.dst undef) w):wpAnyH P md ops Q S (fuel+1) listed a w :=
 wpAnyH_ready hr (by simp) (AllReadyH.cons ho h AllReadyH.nil)
theorem aS (a:Act) (t:Tmp) (v:Value):a.put (some t) v={ a with tmps:=a.tmps.setIfInBounds t v }:=rfl
theorem aN (a:Act) (v:Value):a.put none v=a:=rfl
theorem aT {α:Type} (l:List α) (i:Nat) (x:α):l.toArray.setIfInBounds i x=(l.set i x).toArray:=List.setIfInBounds_toArray ..
theorem a0 {α:Type} (x y:α) (l:List α):(x::l).set 0 y=y::l:=rfl
theorem a1 {α:Type} (x y:α) (l:List α) (n:Nat):(x::l).set (n+1) y=x::l.set n y:=rfl
theorem aZ:(∀(a:Act) (t:Tmp) (v:Value),a.put (some t) v={ a with tmps:=a.tmps.setIfInBounds t v })∧(∀(a:Act) (v:Value),a.put none v=a)∧(∀{α:Type} (l:List α) (i:Nat) (x:α),l.toArray.setIfInBounds i x=(l.set i x).toArray)∧(∀{α:Type} (x y:α) (l:List α),(x::l).set 0 y=y::l)∧(∀{α:Type} (x y:α) (l:List α) (n:Nat),(x::l).set (n+1) y=x::l.set n y) :=
 ⟨aS,aN,aT,a0,a1⟩
theorem numbers_any (x n:Int) (w:World) :
  Calls Tryz.prog 125 #[.int .i64 x,.int .i64 n] w fun e w'=>e=.returned (.bool (decide (0≤x∧x<n)))∧w'=w:=by
 go_enter Tryz.func125,Tryz.ntmps125
 go_wp2
 all_goals
  go_ret
  refine ⟨ret_bool ?_,rfl⟩
  rw [Bool.eq_iff_iff];simp;try omega
theorem span_any (n lo hi:Int) (w:World) :
  Calls Tryz.prog 54 #[.int .i64 n,.int .i64 lo,.int .i64 hi] w fun e w'=>e=.returned (.bool (decide (lo≤n∧n≤hi)))∧w'=w:=by
 go_enter Tryz.func54,Tryz.ntmps54
 go_wp2
 all_goals
  go_ret
  refine ⟨ret_bool ?_,rfl⟩
  rw [Bool.eq_iff_iff];simp;try omega
theorem maySuper_any (c s:Int) (w:World) :
  Calls Tryz.prog 109 #[.int .i64 c,.int .i64 s] w fun e w'=>e=.returned (.bool (decide ((c=0∧s=-1)∨(c≠0∧0≤s∧s<c))))∧w'=w:=by
 by_cases h0:c=0
 ·subst h0
  go_enter Tryz.func109,Tryz.ntmps109
  go_wp2
  all_goals
   go_ret
   refine ⟨ret_bool ?_,rfl⟩
   rw [Bool.eq_iff_iff];simp
 ·go_enter Tryz.func109,Tryz.ntmps109
  go_wp2_with (go_at_call 125;refine (numbers_any _ _ _).mono ?_;rintro e w' ⟨rfl,rfl⟩)
  all_goals
   go_ret
   refine ⟨ret_bool ?_,rfl⟩
   rw [Bool.eq_iff_iff];simp;omega
theorem mayType_any (n:Nat) (k x:Int) (w:World) :
  Calls Tryz.prog 233 #[.agg #[.int .i64 k,.int .i64 x],.int .i64 n] w fun e w'=>e=.returned (.bool (tyB n ⟨k,x⟩))∧Bl w w':=by
 have hk:k=1∨k=2∨k=3∨(k≠1∧k≠2∧k≠3):=by omega
 rcases hk with rfl|rfl|rfl|⟨h1,h2,h3⟩
 all_goals
  go_enter Tryz.func233,Tryz.ntmps233
  go_wp2_with (go_at_call 125;refine (numbers_any _ _ _).mono ?_;rintro e w' ⟨rfl,rfl⟩)
  go_ret
  refine ⟨ret_bool ?_,(Bl.refl _).alloc _⟩
  unfold tyB
  rw [Bool.eq_iff_iff];simp;try omega
def fldB (n:Nat) (f:List Ty):Bool:=decide (f.length≤6)&&f.all (tyB n)
theorem fld_long {n:Nat} {f:List Ty} (h:¬f.length≤6):fldB n f=false:=by unfold fldB;rw [decide_eq_false h];rfl
theorem all_ty_bad {n q:Nat} {f:List Ty} (hq:q<f.length) (h:tyB n (nth ty0 f q)=false):f.all (tyB n)=false:=by
 rw [List.all_eq_false];exact ⟨nth ty0 f q,nth_mem hq,by rw [h];decide⟩
theorem all_ty_good {n:Nat} {f:List Ty} (ht:∀k,k<f.length→tyB n (nth ty0 f k)=true):f.all (tyB n)=true:=by
 rw [List.all_eq_true]
 intro x hx
 obtain ⟨k,hk,rfl⟩:=List.getElem_of_mem hx
 rw [←nth_get hk];exact ht k hk
theorem mayTypes_any (A:Option Addr) (n c:Nat) (F:List Ty) (w:World) (hl:TysAt w A F) :
  Calls Tryz.prog 176 #[.int .i64 n,.slice A F.length c] w fun e w'=>e=.returned (.bool (F.all (tyB n)))∧Bl w w':=by
 obtain ⟨hm,hl⟩:=hl
 unfold maxLen at hm
 have HG:Hid ((∀k,k<F.length→tyB n (nth ty0 F k)=true)→F.all (tyB n)=true):=all_ty_good
 have HT:Hid (∀q,q<F.length→tyB n (nth ty0 F q)=false→F.all (tyB n)=false):=fun q=>all_ty_bad
 obtain ⟨R,hR⟩:∃R,F.all (tyB n)=R:=⟨_,rfl⟩
 rw [hR] at HG HT ⊢
 clear hR
 go_enter Tryz.func176,Tryz.ntmps176
 go_wp2
 go_loopw [9] (fun i wr=>∃q:Nat,q≤F.length∧i=.int .i64 q∧Hid (∀j,j<q→tyB n (nth ty0 F j)=true)∧Hid (Bl w wr)) (fun i _=>F.length-(intOf i).toNat)
 case atStart=>exact ⟨0,Nat.zero_le _,rfl,fun j hj=>absurd hj (Nat.not_lt_zero _),Bl.refl _⟩
 case round =>
  obtain ⟨q,hq,rfl,hgq,hg⟩:=hrel
  by_cases hql:q<F.length
  ·rcases hl with h0|⟨b,off,rfl,hcell⟩
   ·omega
   obtain ⟨ht1,ht2,-,-⟩:=hcell q hql
   replace ht1:=hg.out.cell ht1
   replace ht2:=hg.out.cell ht2
   clear hcell HG
   cases hT:tyB n (nth ty0 F q)
   ·have hT':tyB n ⟨(nth ty0 F q).kind,(nth ty0 F q).cls⟩=false:=hT
    have HF:=HT.out q hql hT
    clear HT hT
    go_wp2_with (go_at_call 233;refine (mayType_any _ _ _ _).mono ?_;rintro e w1 ⟨rfl,hg1⟩)
    go_ret
    exact ⟨ret_bool HF.symm,(hg.out.alloc _).trans hg1⟩
   ·have hT':tyB n ⟨(nth ty0 F q).kind,(nth ty0 F q).cls⟩=true:=hT
    have HT1:Hid (tyB n (nth ty0 F q)=true):=hT
    clear hT HT
    go_wp2_with (go_at_call 233;refine (mayType_any _ _ _ _).mono ?_;rintro e w1 ⟨rfl,hg1⟩)
    go_roundw
    case rel=>exact ⟨q+1,by omega,by go_num,fun j hj=>if h:j<q then hgq.out j h else by have:j=q:=(by omega);subst this;exact HT1.out,(hg.out.alloc _).trans hg1⟩
    case measure=>simp [intOf];omega
  ·have hkk:q=F.length:=by omega
   subst hkk
   have HF:=HG.out hgq.out
   clear HG hl
   go_wp2
   go_ret
   exact ⟨ret_bool HF.symm,hg.out⟩
theorem mayFields_any (A:Option Addr) (n c:Nat) (F:List Ty) (w:World) (hl:TysAt w A F) :
  Calls Tryz.prog 110 #[.slice A F.length c,.int .i64 n] w fun e w'=>e=.returned (.bool (fldB n F))∧Bl w w':=by
 have hm:=hl.1
 unfold maxLen at hm
 by_cases h6:F.length≤6
 ·have hb:fldB n F=F.all (tyB n):=by unfold fldB;rw [decide_eq_true h6];rfl
  rw [hb]
  go_enter Tryz.func110,Tryz.ntmps110
  go_wp2_with (go_at_call 176;refine (mayTypes_any _ _ _ _ _ hl).mono ?_;rintro e w1 ⟨rfl,hg1⟩)
  go_ret
  exact ⟨rfl,hg1⟩
 ·have hb:=fld_long (n:=n) h6
  rw [hb]
  clear hb hl
  go_enter Tryz.func110,Tryz.ntmps110
  go_wp2
  go_ret
  exact ⟨rfl,Bl.refl _⟩
def supB (l:List Cl) (i:Nat):Bool:=decide (((i:Int)=0∧(nth cl0 l i).super=-1)∨((i:Int)≠0∧0≤(nth cl0 l i).super∧(nth cl0 l i).super<i))
theorem may_sup {l:List Cl} {i:Nat} (hi:i<l.length) (h:supB l i=false):mayB l=false:=by
 unfold supB at h
 rw [decide_eq_false_iff_not] at h
 by_cases h0:i=0
 ·subst h0;exact may_few (by omega)
 ·exact may_cl hi (cl_bad (by omega))
theorem may_fld {l:List Cl} {i:Nat} (hi:i<l.length) (h:fldB l.length (nth cl0 l i).fields=false):mayB l=false:=by
 refine may_cl hi ?_
 by_cases h6:(nth cl0 l i).fields.length≤6
 ·unfold fldB at h
  rw [decide_eq_true h6,Bool.true_and] at h
  unfold clB;rw [h,Bool.and_false]
 ·exact cl_bad (by omega)
theorem may_both {l:List Cl} (h4:4≤l.length) (h12:l.length≤12) (h:∀i,i<l.length→supB l i=true∧fldB l.length (nth cl0 l i).fields=true):mayB l=true:=by
 have h0:=(h 0 (by omega)).1
 unfold supB at h0
 rw [decide_eq_true_eq] at h0
 refine may_good ⟨h4,h12,by omega⟩ fun i hi=>?_
 obtain ⟨h1,h2⟩:=h i hi
 unfold supB at h1;unfold fldB at h2
 rw [decide_eq_true_eq] at h1
 rw [Bool.and_eq_true,decide_eq_true_eq] at h2
 unfold clB
 rw [h2.2,Bool.and_true,decide_eq_true_eq]
 exact ⟨by omega,h2.1⟩
theorem may_any (A:Option Addr) (c:Nat) (l:List Cl) (w:World) (hl:ClsAt w A l) :
  Calls Tryz.prog 53 #[.slice A l.length c] w fun e w'=>e=.returned (.bool (mayB l))∧Bl w w':=by
 obtain ⟨hm,hl⟩:=hl
 unfold maxLen at hm
 by_cases h4:¬(4≤(l.length:Int)∧(l.length:Int)≤12)
 ·have hb:mayB l=false:=may_few (by omega)
  rw [hb]
  clear hb hl
  have hd:decide (4≤(l.length:Int)∧(l.length:Int)≤12)=false:=decide_eq_false h4
  go_enter Tryz.func53,Tryz.ntmps53
  go_wp2_with (go_at_call 54;refine (span_any _ _ _ _).mono ?_;rintro e w1 ⟨he,rfl⟩;rw [hd] at he;subst he)
  go_ret
  exact ⟨rfl,Bl.refl _⟩
 replace h4:=Decidable.of_not_not h4
 have hd:decide (4≤(l.length:Int)∧(l.length:Int)≤12)=true:=decide_eq_true h4
 rcases hl with hl|⟨b,off,rfl,hc⟩
 ·omega
 have HB:Hid ((∀i,i<l.length→supB l i=true∧fldB l.length (nth cl0 l i).fields=true)→mayB l=true):=may_both (by omega) (by omega)
 go_enter Tryz.func53,Tryz.ntmps53
 go_wp2_with (go_at_call 54;refine (span_any _ _ _ _).mono ?_;rintro e w1 ⟨he,hw1⟩;rw [hd] at he;subst he;rw [hw1];clear hw1 w1)
 go_loopw [11] (fun i wr=>∃k:Nat,k≤l.length∧i=.int .i64 k∧Hid (∀j,j<k→supB l j=true∧fldB l.length (nth cl0 l j).fields=true)∧Hid (Bl w wr)) (fun i _=>l.length-(intOf i).toNat)
 case atStart=>exact ⟨0,Nat.zero_le _,rfl,fun j hj=>absurd hj (Nat.not_lt_zero _),Bl.refl _⟩
 case round =>
  obtain ⟨k,hk,rfl,hgood,hg⟩:=hrel
  by_cases hlt:k<l.length
  ·obtain ⟨hsup,hsb,A',c',hfl,hty⟩:=hc k hlt
   replace hsup:=hg.out.cell hsup
   replace hfl:=hg.out.cell hfl
   have HTY:Hid (TysAt wr A' (nth cl0 l k).fields):=hty.bl hg.out
   have HS:Hid (supB l k=false→mayB l=false):=may_sup hlt
   have HF:Hid (fldB l.length (nth cl0 l k).fields=false→mayB l=false):=may_fld hlt
   clear hc HB hty
   cases hS:supB l k
   ·have HBAD:=HS.out hS
    have hS':decide (((k:Int)=0∧(nth cl0 l k).super=-1)∨((k:Int)≠0∧0≤(nth cl0 l k).super∧(nth cl0 l k).super<k))=false:=hS
    clear hS
    go_wp2_with (go_at_call 109;refine (maySuper_any _ _ _).mono ?_;rintro e w1 ⟨he,rfl⟩;rw [hS'] at he;subst he)
    go_ret
    exact ⟨ret_bool HBAD.symm,hg.out.alloc _⟩
   ·have HST:Hid (supB l k=true):=hS
    have hS':decide (((k:Int)=0∧(nth cl0 l k).super=-1)∨((k:Int)≠0∧0≤(nth cl0 l k).super∧(nth cl0 l k).super<k))=true:=hS
    clear hS
    cases hF:fldB l.length (nth cl0 l k).fields
    ·have HBAD:=HF.out hF
     go_wp2_with (first
      | (go_at_call 109;refine (maySuper_any _ _ _).mono ?_;rintro e w1 ⟨he,rfl⟩;rw [hS'] at he;subst he)
      | (go_at_call 110;refine (mayFields_any _ _ _ _ _ (HTY.out.bl ((Bl.refl _).alloc _))).mono ?_;rintro e w1 ⟨he,hg1⟩;rw [hF] at he;subst he))
     go_ret
     exact ⟨ret_bool HBAD.symm,(hg.out.alloc _).trans hg1⟩
    ·have HFT:Hid (fldB l.length (nth cl0 l k).fields=true):=hF
     go_wp2_with (first
      | (go_at_call 109;refine (maySuper_any _ _ _).mono ?_;rintro e w1 ⟨he,rfl⟩;rw [hS'] at he;subst he)
      | (go_at_call 110;refine (mayFields_any _ _ _ _ _ (HTY.out.bl ((Bl.refl _).alloc _))).mono ?_;rintro e w1 ⟨he,hg1⟩;rw [hF] at he;subst he))
     go_roundw
     case rel=>exact ⟨k+1,by omega,by go_num,fun j hj=>if h:j<k then hgood.out j h else by have:j=k:=(by omega);subst this;exact ⟨HST.out,HFT.out⟩,(hg.out.alloc _).trans hg1⟩
     case measure=>simp [intOf];omega
  ·have hkk:k=l.length:=by omega
   subst hkk
   have HBB:=HB.out hgood.out
   clear HB hc
   go_wp2
   go_ret
   exact ⟨ret_bool HBB.symm,hg.out⟩
theorem within_any (n lo hi:Int) (w:World) :
  Calls Tryz.prog 33 #[.int .i64 n,.int .i64 lo,.int .i64 hi] w fun e w'=>e=.returned (.bool (decide (lo≤n∧n≤hi)))∧w'=w:=by
 go_enter Tryz.func33,Tryz.ntmps33
 go_wp2
 all_goals
  go_ret
  refine ⟨ret_bool ?_,rfl⟩
  rw [Bool.eq_iff_iff];simp;try omega
theorem rslots_any (A:Option Addr) (c:Nat) (F:List Ty) (w:World) (hl:TysAt w A F) (hb:F.length≤1000000) :
  Calls Tryz.prog 35 #[.slice A F.length c] w fun e w'=>e=.returned (.int .i64 (slotsN F:Nat))∧w'=w:=by
 obtain ⟨hm,hl⟩:=hl
 clear hm
 have HS:Hid (∀k,k<F.length→slotsN (F.take (k+1))=slotsN (F.take k)+(if (nth ty0 F k).kind=2 then 2 else 1)):=slotsN_take F
 have HB:Hid (∀k,slotsN (F.take k)≤2*k):=fun k=>by have:=slotsN_le (F.take k);have:=List.length_take_le k F;omega
 go_enter Tryz.func35,Tryz.ntmps35
 go_wp2
 go_loop [3,4] (fun n i=>∃k:Nat,k≤F.length∧i=.int .i64 k∧n=.int .i64 ((F.length:Int)+((slotsN (F.take k):Nat):Int)-k)) (fun _ i=>F.length-(intOf i).toNat)
 case atStart=>exact ⟨0,Nat.zero_le _,rfl,by simp [slotsN]⟩
 case round =>
  obtain ⟨k,hk,rfl,rfl⟩:=hrel
  have h2:=HB.out k
  by_cases hlt:k<F.length
  ·rcases hl with h0|⟨b,off,rfl,hcell⟩
   ·omega
   have ht:=(hcell k hlt).1
   have hs:=HS.out k hlt
   clear hcell
   by_cases hk2:(nth ty0 F k).kind=2
   ·rw [if_pos hk2] at hs
    rw [hk2] at ht
    have HS':Hid (slotsN (F.take (k+1))=slotsN (F.take k)+2):=hs
    clear hs hk2
    go_wp2
    go_round
    case rel=>exact ⟨k+1,by omega,by go_num,by rw [HS'.out];go_num⟩
    case measure=>simp [intOf];omega
   ·rw [if_neg hk2] at hs
    have HS':Hid (slotsN (F.take (k+1))=slotsN (F.take k)+1):=hs
    have hk2':((nth ty0 F k).kind==2)=false:=by simpa using hk2
    clear hs hk2
    go_wp2
    go_round
    case rel=>exact ⟨k+1,by omega,by go_num,by rw [HS'.out];go_num⟩
    case measure=>simp [intOf];omega
  ·obtain rfl:k=F.length:=by omega
   rw [List.take_length] at *
   go_wp2
   go_ret
   exact ⟨ret_int (by omega),rfl⟩
def MeBox (w:World) (b off:Nat) (m:Me) (P C K:Option Addr) (p c k:Nat):Prop :=
 w.cell? ⟨b,off,none⟩=some (.slice P m.params.length p)∧w.cell? ⟨b,off+1,none⟩=some (.int .i64 m.ret.kind)∧w.cell? ⟨b,off+2,none⟩=some (.int .i64 m.ret.cls)
  ∧ w.cell? ⟨b,off+3,none⟩=some (.int .i64 m.stack)∧w.cell? ⟨b,off+4,none⟩=some (.int .i64 m.locs)∧w.cell? ⟨b,off+5,none⟩=some (.int .i64 m.regs)
  ∧ w.cell? ⟨b,off+6,none⟩=some (.slice C m.code.length c)∧w.cell? ⟨b,off+7,none⟩=some (.slice K m.hands.length k)
theorem MeBox.bl {w w':World} (h:Bl w w') {b off:Nat} {m:Me} {P C K:Option Addr} {p c k:Nat} (hb:MeBox w b off m P C K p c k):MeBox w' b off m P C K p c k :=
 ⟨h.cell hb.1,h.cell hb.2.1,h.cell hb.2.2.1,h.cell hb.2.2.2.1,h.cell hb.2.2.2.2.1,h.cell hb.2.2.2.2.2.1,h.cell hb.2.2.2.2.2.2.1,h.cell hb.2.2.2.2.2.2.2⟩
abbrev meV (m:Me) (P C K:Option Addr) (p c k:Nat):Value :=
 .agg #[.slice P m.params.length p,.int .i64 m.ret.kind,.int .i64 m.ret.cls,.int .i64 m.stack,.int .i64 m.locs,.int .i64 m.regs,.slice C m.code.length c,.slice K m.hands.length k]
abbrev fiV (nc nm:Nat) (A B:Option Addr) (a b:Nat):Value:=.agg #[.slice A nc a,.slice B nm b]
def FiBox (w:World) (b off:Nat) (nc nm:Nat) (A B:Option Addr) (x y:Nat):Prop :=
 w.cell? ⟨b,off,none⟩=some (.slice A nc x)∧w.cell? ⟨b,off+1,none⟩=some (.slice B nm y)
theorem FiBox.bl {w w':World} (h:Bl w w') {b off nc nm:Nat} {A B:Option Addr} {x y:Nat} (hb:FiBox w b off nc nm A B x y):FiBox w' b off nc nm A B x y:=⟨h.cell hb.1,h.cell hb.2⟩
theorem boxes_new (w:World) (nc nm:Nat) (A B:Option Addr) (x y:Nat) (m:Me) (P C K:Option Addr) (p c k:Nat) (t t':TypeId) :
  FiBox ((w.alloc (.cells #[.slice A nc x,.slice B nm y] t)).alloc (.cells #[.slice P m.params.length p,.int .i64 m.ret.kind,.int .i64 m.ret.cls,.int .i64 m.stack,.int .i64 m.locs,.int .i64 m.regs,.slice C m.code.length c,.slice K m.hands.length k] t')) w.heap.size 0 nc nm A B x y
  ∧ MeBox ((w.alloc (.cells #[.slice A nc x,.slice B nm y] t)).alloc (.cells #[.slice P m.params.length p,.int .i64 m.ret.kind,.int .i64 m.ret.cls,.int .i64 m.stack,.int .i64 m.locs,.int .i64 m.regs,.slice C m.code.length c,.slice K m.hands.length k] t')) (w.heap.size+1) 0 m P C K p c k:=by
 refine ⟨⟨?_,?_⟩,⟨?_,?_,?_,?_,?_,?_,?_,?_⟩⟩<;>simp
theorem head_few {nc:Nat} {m:Me} {most:Int} (h:¬(m.params.length≤4∧m.hands.length≤8∧1≤m.code.length∧(m.code.length:Int)≤most)):headB nc m most=false:=by
 unfold headB;rw [decide_eq_false h];rfl
theorem head_par {nc:Nat} {m:Me} {most:Int} {q:Nat} (hq:q<m.params.length) (h:tyB nc (nth ty0 m.params q)=false):headB nc m most=false:=by
 unfold headB;rw [all_bad hq h];simp
theorem head_hand {nc:Nat} {m:Me} {most:Int} {q:Nat} (hq:q<m.hands.length) (h:hdB nc m.code.length (nth hd0 m.hands q)=false):headB nc m most=false:=by
 unfold headB;rw [all_bad hq h];simp
theorem head_good {nc:Nat} {m:Me} {most:Int} (h:m.params.length≤4∧m.hands.length≤8∧1≤m.code.length∧(m.code.length:Int)≤most)
  (hp:∀q,q<m.params.length→tyB nc (nth ty0 m.params q)=true) (hh:∀q,q<m.hands.length→hdB nc m.code.length (nth hd0 m.hands q)=true):headB nc m most=retB nc m.ret:=by
 unfold headB;rw [decide_eq_true h,all_good hp,all_good hh];simp
theorem rhead_any (nc nm:Nat) (A B:Option Addr) (a b:Nat) (m:Me) (P C K:Option Addr) (p c k:Nat) (most:Int) (w:World) (hP:TysAt w P m.params) (hK:HdsAt w K m.hands) (hnc:nc≤12) (hcode:m.code.length≤maxLen) :
  Calls Tryz.prog 34 #[fiV nc nm A B a b,meV m P C K p c k,.int .i64 most] w fun e w'=>e=.returned (.bool (headB nc m most))∧Bl w w':=by
 have HP:Hid (TysAt w P m.params):=hP
 have HK:Hid (HdsAt w K m.hands):=hK
 have hpm:=hP.1
 have hkm:=hK.1
 unfold maxLen at hcode hpm hkm
 clear hP hK
 by_cases h1:4<m.params.length
 ·have hb:=head_few (nc:=nc) (m:=m) (most:=most) (by omega)
  rw [hb]
  go_enter Tryz.func34,Tryz.ntmps34
  go_wp2
  go_ret
  exact ⟨rfl,((Bl.refl _).alloc _).alloc _⟩
 by_cases h2:8<m.hands.length
 ·have hb:=head_few (nc:=nc) (m:=m) (most:=most) (by omega)
  rw [hb]
  go_enter Tryz.func34,Tryz.ntmps34
  go_wp2
  go_ret
  exact ⟨rfl,((Bl.refl _).alloc _).alloc _⟩
 by_cases h3:1≤(m.code.length:Int)∧(m.code.length:Int)≤most
 ·have HG:Hid ((∀q,q<m.params.length→tyB nc (nth ty0 m.params q)=true)→(∀q,q<m.hands.length→hdB nc m.code.length (nth hd0 m.hands q)=true)→headB nc m most=retB nc m.ret):=head_good (by omega)
  have hd3:decide (1≤(m.code.length:Int)∧(m.code.length:Int)≤most)=true:=decide_eq_true h3
  obtain ⟨f0,m0⟩:=boxes_new w nc nm A B a b m P C K p c k 25 54
  have HF:Hid (FiBox _ w.heap.size 0 nc nm A B a b):=f0
  have HM:Hid (MeBox _ (w.heap.size+1) 0 m P C K p c k):=m0
  clear f0 m0
  go_enter Tryz.func34,Tryz.ntmps34
  go_wp2_with (go_at_call 33;refine (within_any _ _ _ _).mono ?_;rintro e w' ⟨he,rfl⟩;rw [hd3] at he;subst he)
  go_loopw [7] (fun i wr=>∃q:Nat,q≤m.params.length∧i=.int .i64 q∧Hid (∀j,j<q→tyB nc (nth ty0 m.params j)=true)∧Hid (Bl w wr)∧Hid (FiBox wr w.heap.size 0 nc nm A B a b)∧Hid (MeBox wr (w.heap.size+1) 0 m P C K p c k)) (fun i _=>m.params.length-(intOf i).toNat)
  case atStart=>exact ⟨0,Nat.zero_le _,rfl,fun j hj=>absurd hj (Nat.not_lt_zero _),((Bl.refl _).alloc _).alloc _,HF,HM⟩
  case round =>
   clear HF HM
   obtain ⟨q,hq,rfl,hgq,hg,HF,HM⟩:=hrel
   have hf0:=HF.out.1
   have hm0:=HM.out.1
   have hm7:=HM.out.2.2.2.2.2.2.2
   simp only [Nat.zero_add] at hm7
   by_cases hql:q<m.params.length
   ·have hty:=HP.out.bl hg.out
    rcases hty.2 with h0|⟨b',off',rfl,hcell⟩
    ·omega
    obtain ⟨ht1,ht2,-,-⟩:=hcell q hql
    clear hty hcell
    have gf:=fut_cell hf0
    have gm:=fut_cell hm0
    have g1:=fut_cell ht1
    have g2:=fut_cell ht2
    clear hm7
    cases hT:tyB nc (nth ty0 m.params q)
    ·have hT':tyB nc ⟨(nth ty0 m.params q).kind,(nth ty0 m.params q).cls⟩=false:=hT
     have HB:=head_par (most:=most) hql hT
     clear hT HG
     go_wp2
     refine wp_region_fut (by kernel_rfl) (by kernel_rfl) fun hne=>?_
     repeat (go_big_quiet_step ((go_at_call 73;exact Calls.fut_eq _ (rtype_any _ _ _ _ _ _) (congrArg Value.bool hT'))))
     refine wpQuiet_nil ?_
     rintro _ ⟨⟨w2,hw2⟩,rfl⟩
     go_wp2
     go_ret
     exact ⟨ret_bool HB.symm,hg.out.trans hw2⟩
    ·have hT':tyB nc ⟨(nth ty0 m.params q).kind,(nth ty0 m.params q).cls⟩=true:=hT
     have HT:Hid (tyB nc (nth ty0 m.params q)=true):=hT
     clear hT HG
     go_wp2
     refine wp_region_fut (by kernel_rfl) (by kernel_rfl) fun hne=>?_
     repeat (go_big_quiet_step ((go_at_call 73;exact Calls.fut_eq _ (rtype_any _ _ _ _ _ _) (congrArg Value.bool hT'))))
     refine wpQuiet_nil ?_
     rintro _ ⟨⟨w2,hw2⟩,rfl⟩
     go_wp2
     go_roundw
     case rel=>exact ⟨q+1,by omega,by go_num,fun j hj=>if h:j<q then hgq.out j h else by have:j=q:=(by omega);subst this;exact HT.out,hg.out.trans hw2,HF.out.bl hw2,HM.out.bl hw2⟩
     case measure=>simp [intOf];omega
   ·obtain rfl:q=m.params.length:=by omega
    have HG2:Hid ((∀q,q<m.hands.length→hdB nc m.code.length (nth hd0 m.hands q)=true)→headB nc m most=retB nc m.ret):=HG.out hgq.out
    clear HG hgq hql hq
    go_wp2
    clear hf0 hm0 hm7
    go_loopw [8] (fun i wr=>∃q:Nat,q≤m.hands.length∧i=.int .i64 q∧Hid (∀j,j<q→hdB nc m.code.length (nth hd0 m.hands j)=true)∧Hid (Bl w wr)∧Hid (FiBox wr w.heap.size 0 nc nm A B a b)∧Hid (MeBox wr (w.heap.size+1) 0 m P C K p c k)) (fun i _=>m.hands.length-(intOf i).toNat)
    case atStart=>exact ⟨0,Nat.zero_le _,rfl,fun j hj=>absurd hj (Nat.not_lt_zero _),hg,HF,HM⟩
    case round =>
     clear HF HM hg
     obtain ⟨q,hq,rfl,hgq,hg,HF,HM⟩:=hrel
     have hf0:=HF.out.1
     have hm1:=HM.out.2.1
     have hm2:=HM.out.2.2.1
     have hm6:=HM.out.2.2.2.2.2.2.1
     have hm7:=HM.out.2.2.2.2.2.2.2
     simp only [Nat.zero_add] at hm1 hm2 hm6 hm7
     by_cases hql:q<m.hands.length
     ·have hty:=HK.out.bl hg.out
      rcases hty.2 with h0|⟨b',off',rfl,hcell⟩
      ·omega
      obtain ⟨g0,g1,g2,g3,-⟩:=hcell q hql
      clear hty hcell hm1 hm2
      have HB:Hid (hdB nc m.code.length (nth hd0 m.hands q)=false→headB nc m most=false):=head_hand hql
      have HD:Hid (hdB nc m.code.length (nth hd0 m.hands q)=decide (0≤(nth hd0 m.hands q).fr∧(nth hd0 m.hands q).fr<(nth hd0 m.hands q).til∧(nth hd0 m.hands q).til≤m.code.length∧0≤(nth hd0 m.hands q).pc∧(nth hd0 m.hands q).pc<m.code.length∧0≤(nth hd0 m.hands q).cls∧(nth hd0 m.hands q).cls<nc)):=rfl
      generalize hX:nth hd0 m.hands q=X at *
      have qf0:∀o,(wr.alloc o).cell? ⟨w.heap.size,0,none⟩=some (.slice A nc a):=fun o=>((Bl.refl wr).alloc o).cell hf0
      have qm6:∀o,(wr.alloc o).cell? ⟨w.heap.size+1,6,none⟩=some (.slice C m.code.length c):=fun o=>((Bl.refl wr).alloc o).cell hm6
      by_cases t1:X.fr<0
      ·have HF':Hid (headB nc m most=false):=HB.out (HD.out.trans (decide_eq_false (by omega)))
       go_wp2
       go_ret
       exact ⟨ret_bool HF'.out.symm,hg.out.alloc _⟩
      by_cases t2:X.til≤X.fr
      ·have HF':Hid (headB nc m most=false):=HB.out (HD.out.trans (decide_eq_false (by omega)))
       go_wp2
       go_ret
       exact ⟨ret_bool HF'.out.symm,hg.out.alloc _⟩
      by_cases t3:(m.code.length:Int)<X.til
      ·have HF':Hid (headB nc m most=false):=HB.out (HD.out.trans (decide_eq_false (by omega)))
       go_wp2
       go_ret
       exact ⟨ret_bool HF'.out.symm,hg.out.alloc _⟩
      by_cases t4:0≤X.pc∧X.pc≤(m.code.length:Int)-1
      ·have d4:decide (0≤X.pc∧X.pc≤(m.code.length:Int)-1)=true:=decide_eq_true t4
       by_cases t5:0≤X.cls∧X.cls≤(nc:Int)-1
       ·have d5:decide (0≤X.cls∧X.cls≤(nc:Int)-1)=true:=decide_eq_true t5
        have HT:Hid (hdB nc m.code.length X=true):=HD.out.trans (decide_eq_true (by omega))
        go_wp2_with (go_at_call 33;refine (within_any _ _ _ _).mono ?_;rintro e w' ⟨he,rfl⟩;(first|rw [d4] at he|rw [d5] at he);subst he)
        go_roundw
        case rel=>exact ⟨q+1,by omega,by go_num,fun j hj=>if h:j<q then hgq.out j h else by have:j=q:=(by omega);subst this;rw [hX];exact HT.out,hg.out.alloc _,HF.out.bl ((Bl.refl _).alloc _),HM.out.bl ((Bl.refl _).alloc _)⟩
        case measure=>simp [intOf];omega
       ·have d5:decide (0≤X.cls∧X.cls≤(nc:Int)-1)=false:=decide_eq_false t5
        have HF':Hid (headB nc m most=false):=HB.out (HD.out.trans (decide_eq_false (by omega)))
        go_wp2_with (go_at_call 33;refine (within_any _ _ _ _).mono ?_;rintro e w' ⟨he,rfl⟩;(first|rw [d4] at he|rw [d5] at he);subst he)
        go_ret
        exact ⟨ret_bool HF'.out.symm,hg.out.alloc _⟩
      ·have d4:decide (0≤X.pc∧X.pc≤(m.code.length:Int)-1)=false:=decide_eq_false t4
       have HF':Hid (headB nc m most=false):=HB.out (HD.out.trans (decide_eq_false (by omega)))
       go_wp2_with (go_at_call 33;refine (within_any _ _ _ _).mono ?_;rintro e w' ⟨he,rfl⟩;rw [d4] at he;subst he)
       go_ret
       exact ⟨ret_bool HF'.out.symm,hg.out.alloc _⟩
     ·obtain rfl:q=m.hands.length:=by omega
      have HG3:Hid (headB nc m most=(decide (m.ret.kind=0∧m.ret.cls=0)||tyB nc ⟨m.ret.kind,m.ret.cls⟩)):=HG2.out hgq.out
      clear HG2 hgq hql hq
      by_cases t1:m.ret.kind=0
      ·by_cases t2:m.ret.cls=0
       ·have HF':headB nc m most=true:=HG3.out.trans (by rw [decide_eq_true ⟨t1,t2⟩];rfl)
        rw [t1] at hm1
        rw [t2] at hm2
        clear t1 t2
        go_wp2
        go_ret
        exact ⟨ret_bool HF'.symm,hg.out⟩
       ·have HF':Hid (headB nc m most=tyB nc ⟨m.ret.kind,m.ret.cls⟩):=HG3.out.trans (by rw [decide_eq_false (by omega)];rfl)
        have t2':(m.ret.cls==0)=false:=by simpa using t2
        have HT1:Hid (m.ret.kind=0):=t1
        rw [t1] at hm1
        clear t1 t2
        go_wp2_with (go_at_call 73;refine (rtype_any _ _ _ _ _ _).mono ?_;rintro e w' ⟨rfl,hg2⟩)
        go_ret
        exact ⟨ret_bool (by rw [HF'.out,HT1.out]),hg.out.trans hg2⟩
      ·have HF':Hid (headB nc m most=tyB nc ⟨m.ret.kind,m.ret.cls⟩):=HG3.out.trans (by rw [decide_eq_false (by omega)];rfl)
       have t1':(m.ret.kind==0)=false:=by simpa using t1
       clear t1
       go_wp2_with (go_at_call 73;refine (rtype_any _ _ _ _ _ _).mono ?_;rintro e w' ⟨rfl,hg2⟩)
       go_ret
       exact ⟨ret_bool HF'.out.symm,hg.out.trans hg2⟩
 ·have hb:=head_few (nc:=nc) (m:=m) (most:=most) (by omega)
  rw [hb]
  have hd3:decide (1≤(m.code.length:Int)∧(m.code.length:Int)≤most)=false:=decide_eq_false h3
  go_enter Tryz.func34,Tryz.ntmps34
  go_wp2_with (go_at_call 33;refine (within_any _ _ _ _).mono ?_;rintro e w' ⟨he,rfl⟩;rw [hd3] at he;subst he)
  go_ret
  exact ⟨rfl,((Bl.refl _).alloc _).alloc _⟩
end Go.Proofs.YtfncnhlihmnkiabGreat
