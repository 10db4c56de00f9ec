import Derived.Test.YtgiiapenmjollaaSlab
namespace Go.Proofs.Ytgiiapenmjollaa
set_option linter.all false
set_option maxHeartbeats 40000000
open Go.RowKit
theorem of_kind {h:Hp} {v:Va} {t:Ty} (ho:h.of v t=true):v.kind=t.kind:=by
 unfold Hp.of at ho
 rw [Bool.and_eq_true] at ho
 exact of_decide_eq_true ho.1
theorem ty_kind {n:Nat} {t:Ty} (h:tyB n t=true):1≤t.kind∧t.kind≤3:=by
 have:=of_decide_eq_true h
 omega
theorem enter_sizes (h:Hp) (n:Nat):∀(l:List Va) (k:List Ty),l.length=k.length→h.enterL l k=true→(∀t∈k,tyB n t=true)→sizP l=slotsN k∧∀v∈l,1≤v.kind∧v.kind≤3
 | [],[],_,_,_=>⟨rfl,fun v hv=>by simp at hv⟩
 | [],_::_,hl,_,_=>by simp at hl
 | _::_,[],hl,_,_=>by simp at hl
 | v::l,t::k,hl,he,ht=>by
  unfold Hp.enterL at he
  rw [Bool.and_eq_true] at he
  have ih:=enter_sizes h n l k (by simpa using hl) he.2 (fun x hx=>ht x (List.mem_cons_of_mem _ hx))
  have hk:=of_kind he.1
  have htk:=ty_kind (ht t (List.mem_cons_self ..))
  refine ⟨?_,fun x hx=>?_⟩
  ·simp only [sizP,slotsN,ih.1,hk]
  ·rw [List.mem_cons] at hx
   rcases hx with rfl|hx
   ·omega
   ·exact ih.2 x hx
theorem siz_one (v:Va):sizP [v]=if v.kind=2 then 2 else 1:=by simp [sizP]
theorem args_kept (h:Hp):∀(l:List Va) (l0:List Va) (at':Nat),LocOk l0→(∀x∈l0,GdV h x)→(∀x∈l,GdV h x)→(∀v∈l,1≤v.kind∧v.kind≤3)→at'+sizP l≤l0.length →
  LocOk (argsP l0 at' l)∧(∀x∈argsP l0 at' l,GdV h x)∧(argsP l0 at' l).length=l0.length
 | [],l0,at',h1,h2,_,_,_=>⟨h1,h2,rfl⟩
 | v::l,l0,at',h1,h2,h3,h4,h5=>by
  have hv:=h3 v (List.mem_cons_self ..)
  have hk:=h4 v (List.mem_cons_self ..)
  have es:sizP (v::l)=(if v.kind=2 then 2 else 1)+sizP l:=rfl
  have ih:=args_kept h l (stoP l0 at' v) (at'+sizP [v]) (sto_ok h1 at' v (by omega) (fun e=>by rw [es,if_pos e] at h5;omega)) (sto_gd h2 hv at') (fun x hx=>h3 x (List.mem_cons_of_mem _ hx)) (fun x hx=>h4 x (List.mem_cons_of_mem _ hx)) (by rw [stoP_length,siz_one];rw [es] at h5;omega)
  refine ⟨ih.1,ih.2.1,?_⟩
  show (argsP (stoP l0 at' v) (at'+sizP [v]) l).length=_
  rw [ih.2.2,stoP_length]
theorem rep_ok (n:Nat):LocOk (List.replicate n va0):=by
 have key:∀i,nth va0 (List.replicate n va0) i=va0:=fun i=>by simp [nth,List.getD,List.getElem?_replicate];split<;>rfl
 exact ⟨fun i _ hk=>by rw [key] at hk;exact absurd hk (by decide),fun i _ hk=>by rw [key] at hk;exact absurd hk (by decide)⟩
theorem new_kept {h:Hp} {m:Me} {l:List Va} (hm:smeB h.file.classes h.file.methods.length m=true) (hok:∀i∈m.code,i.ok) (hl:l.length=m.params.length) (hg:∀v∈l,GdV h v) (he:h.enterL l m.params=true):Gc h (newCal m l):=by
 obtain ⟨p1,p2,p3,p4,p5,p6,p7,p8,p9,p10,p11⟩:=smeP hm
 obtain ⟨s1,s2⟩:=enter_sizes h h.file.classes.length l m.params hl he p9
 obtain ⟨k1,k2,k3⟩:=args_kept h l (List.replicate m.locs.toNat va0) 0 (rep_ok _) (fun x hx=>by rw [List.eq_of_mem_replicate hx];exact gdV0 h) hg s2 (by rw [List.length_replicate];omega)
 refine ⟨fun v hv=>by simp [newCal] at hv,k2,k1,?_,?_,hm,hok⟩
 ·show ((sizP []:Nat):Int)≤m.stack;simp [sizP];omega
 ·show ((argsP (List.replicate m.locs.toNat va0) 0 l).length:Int)=m.locs
  rw [k3,List.length_replicate];omega
structure Left' (h:Hp) (r:Hp×Va) (d:Int):Prop where
 file:r.1.file=h.file
 input:r.1.input=h.input
 fuel:r.1.fuel=h.fuel
 objs:h.objs.length≤r.1.objs.length
 steps:h.sh.steps≤r.1.sh.steps
 calls:r.1.calls=h.calls-d
 gh:Gh 0 r.1
 gv:GdV r.1 r.2
theorem Left'.from {h h1:Hp} {r:Hp×Va} {d:Int} (l:Le h h1) (k:Left' h1 r d):Left' h r d :=
 ⟨k.file.trans l.file,k.input.trans l.input,k.fuel.trans l.fuel,Nat.le_trans l.objs k.objs,Int.le_trans l.steps k.steps,by rw [k.calls,l.calls],k.gh,k.gv⟩
theorem Left'.le {h:Hp} {r:Hp×Va} (k:Left' h r 0):Le h r.1:=⟨k.file,k.input,k.fuel,k.objs,k.steps,by rw [k.calls];omega⟩
def MayF (f:Fi):Prop:=∀m∈f.methods,smeB f.classes f.methods.length m=true∧∀i∈m.code,i.ok
theorem caught_at {h:Hp} {pc:Int} {n k:Nat}:∀l:List Hd,(∀x∈l,hdB k n x=true)→h.caughtL pc l=-1∨(0≤h.caughtL pc l∧h.caughtL pc l<n)
 | [],_=>Or.inl rfl
 | x::l,hx=>by
  unfold Hp.caughtL;split
  ·have:=of_decide_eq_true (hx x (List.mem_cons_self ..));right;omega
  ·exact caught_at l (fun y hy=>hx y (List.mem_cons_of_mem _ hy))
theorem code_ok {h:Hp} {c:Cal} (gc:Gc h c) (hp:0≤c.pc∧c.pc<c.m.code.length):InOk h.file.classes h.file.methods.length c.m.code.length c.locs.length (nth in0 c.m.code c.pc.toNat)∧(nth in0 c.m.code c.pc.toNat).ok:=by
 have hlt:c.pc.toNat<c.m.code.length:=by omega
 have h8:=(smeP gc.me).2.2.2.2.2.2.2.1 _ (nth_mem (d:=in0) hlt)
 refine ⟨?_,gc.mok _ (nth_mem hlt)⟩
 rw [gc.len]
 exact sin_ok h8
structure Safe (P:Hp→Prop):Prop where
 fin:∀(h:Hp) (e:Int),e=3∨e=4∨e=6→P h→P (h.fin e)
 obj:∀(h:Hp) (o:List Ob),P h→P { h with objs:=o }
 thr:∀(h:Hp) (t:Int),P h→P { h with thrown:=t }
 out:∀(h:Hp) (n:Int),P h→P { h with sh:={ h.sh with out:=h.sh.out++[n] } }
 use:∀(h:Hp),P h→P { h with sh:={ h.sh with used:=h.sh.used+1 } }
theorem Safe.must {P:Hp→Prop} (S:Safe P) {h:Hp} (hf:P h) (b:Bool):P (h.must b):=by
 unfold Hp.must
 split
 ·exact hf
 ·exact S.fin _ _ (by decide) hf
theorem Safe.new {P:Hp→Prop} (S:Safe P) {h:Hp} (hf:P h) (c:Int):P (h.new c):=by
 unfold Hp.new
 split
 ·exact S.fin _ _ (by decide) hf
 ·exact S.obj _ _ hf
theorem Safe.raise {P:Hp→Prop} (S:Safe P) {h:Hp} (hf:P h) (c:Int):P (h.raise c):=by
 unfold Hp.raise
 split
 ·exact S.new hf c
 ·exact S.thr _ _ (S.new hf c)
theorem Safe.throw {P:Hp→Prop} (S:Safe P) {h:Hp} (hf:P h) (v:Va):P (h.throw v):=by
 unfold Hp.throw
 split
 ·split
  ·exact S.raise hf 1
  ·exact S.thr _ _ hf
 ·exact S.must hf _
theorem Safe.findH {P:Hp→Prop} (S:Safe P) {h:Hp} (hf:P h) (r:Va) (c:Int):P (h.findH r c):=by
 unfold Hp.findH
 split
 ·split
  ·exact S.raise hf 1
  ·exact hf
 ·exact S.must hf _
theorem Safe.put {P:Hp→Prop} (S:Safe P) {h:Hp} (hf:P h) (r:Va) (c k:Int) (v:Va):P (h.put r c k v):=by
 unfold Hp.put
 split
 ·split
  ·exact S.findH hf r c
  ·exact S.obj _ _ (S.findH hf r c)
 ·exact S.must hf _
theorem Safe.cast {P:Hp→Prop} (S:Safe P) {h:Hp} (hf:P h) (v:Va) (c:Int):P (h.cast v c):=by
 unfold Hp.cast
 split
 ·split
  ·exact hf
  ·exact S.raise hf 3
 ·exact S.must hf _
theorem Safe.emit {P:Hp→Prop} (S:Safe P) {h:Hp} (hf:P h) (v:Va) (k:Int):P (h.emit v k):=by
 unfold Hp.emit
 split
 ·exact S.out _ _ hf
 ·exact S.must hf _
theorem Safe.input {P:Hp→Prop} (S:Safe P) {h:Hp} (hf:P h):P h.input':=by
 unfold Hp.input'
 split
 ·exact S.fin _ _ (by decide) hf
 ·exact S.use _ hf
theorem Safe.reckH {P:Hp→Prop} (S:Safe P) {h:Hp} (hf:P h) (a b:Va) (k op:Int):P (h.reckH a b k op):=by
 unfold Hp.reckH
 split
 ·split
  ·exact hf
  ·exact S.raise hf 2
 ·exact S.must hf _
theorem Safe.putH {P:Hp→Prop} (S:Safe P) {h:Hp} (hf:P h) (c:Cal) (v:Va):P (h.putH c v):=by
 unfold Hp.putH
 split
 ·exact hf
 ·exact S.must hf _
theorem Safe.givesH {P:Hp→Prop} (S:Safe P) {h:Hp} (hf:P h) (a b:Va) (i:In):P (givesH h a b i):=by
 unfold Go.Proofs.Ytgiiapenmjollaa.givesH
 split
 ·exact hf
 split
 ·exact S.reckH hf _ _ _ _
 split
 ·exact S.reckH hf _ _ _ _
 split
 ·exact S.must hf _
 split
 ·exact S.must hf _
 split
 ·exact S.must hf _
 split
 ·exact S.new hf _
 split
 ·exact S.findH hf _ _
 split
 ·exact S.cast hf _ _
 split
 ·exact S.must hf _
 split
 ·exact hf
 ·exact S.input hf
theorem Safe.does {P:Hp→Prop} (S:Safe P) {h:Hp} (hf:P h) (c:Cal) (i:In):P (doesP h c i).h:=by
 have m:=fun b=>S.must hf b
 unfold doesP
 split
 ·exact hf
 split
 ·exact S.must (m _) _
 split
 ·exact S.must (m _) _
 split
 ·unfold thrP;dsimp only;split
  ·exact m _
  ·exact S.throw (m _) _
 split
 ·unfold loadP;dsimp only;split
  ·exact S.putH hf _ _
  ·exact m _
 split
 ·exact S.must (m _) _
 split
 ·exact m _
 split
 ·unfold dupP;dsimp only;split
  ·exact m _
  ·exact S.putH (S.putH (m _) _ _) _ _
 split
 ·unfold emitP;dsimp only;split
  ·exact m _
  ·exact S.emit (m _) _ _
 split
 ·unfold setP;dsimp only;split
  ·exact m _
  ·split
   ·exact S.put (m _) _ _ _ _
   ·exact S.must (m _) _
 ·unfold givesP;dsimp only;split
  ·exact S.givesH (m _) _ _ _
  ·exact S.putH (S.givesH (m _) _ _ _) _ _
structure Mo where
 fin:Bool
 how:Int
 v:Va
 h:Hp
 cs:List Cal
def goM (h:Hp) (cs:List Cal):Mo:=⟨false,0,va0,h,cs⟩
def endM (how:Int) (v:Va) (h:Hp):Mo:=⟨true,how,v,h,[]⟩
def unwM (h:Hp):List Cal→Mo
 | []=>endM 2 ⟨3,h.thrown⟩ h
 | c::cs=>if h.caughtL c.pc c.m.hands<0 then unwM h.leave cs
  else if (sizP [(⟨3,h.thrown⟩:Va)]:Int)≤c.m.stack then goM { h with thrown:=-1 } ({ c with stk:=[⟨3,h.thrown⟩],pc:=h.caughtL c.pc c.m.hands }::cs)
  else endM 6 va0 h
def backM (h:Hp) (v:Va):List Cal→Mo
 | []=>endM 1 v h
 | c::cs=>if v.kind=0 then goM h ({ c with pc:=c.pc+1 }::cs)
  else if (sizP (c.stk++[v]):Int)≤c.m.stack then goM h ({ c.put v with pc:=c.pc+1 }::cs)
  else endM 6 va0 h
def retM (h:Hp) (c:Cal) (cs:List Cal):Mo :=
 if c.m.ret.kind=0 then backM h.leave va0 cs
 else if c.has 1=false then endM 6 va0 h
 else if h.of (nth va0 (c.top 1) 0) c.m.ret=true then backM h.leave (nth va0 (c.top 1) 0) cs
 else endM 6 va0 h
def calM (h:Hp) (c:Cal) (cs:List Cal) (i:In):Mo :=
 let m:=nth me0 h.file.methods i.a.toNat
 if c.has m.params.length=false then endM 6 va0 h
 else if h.enterL (c.top m.params.length) m.params=false then endM 6 va0 h
 else if h.deep=true then endM 5 va0 h
 else goM { h with calls:=h.calls+1 } (newCal m (c.top m.params.length)::c.cut m.params.length::cs)
def didM (d:Did) (cs:List Cal):Mo :=
 if d.h.over=true then endM d.h.sh.fin va0 d.h
 else if 0≤d.h.thrown then unwM d.h (d.c::cs)
 else goM d.h ({ d.c with pc:=d.nx }::cs)
def stepM (h:Hp) (c:Cal) (cs:List Cal):Mo :=
 if ¬c.pc<c.m.code.length then endM 6 va0 h
 else if (nth in0 c.m.code c.pc.toNat).op=20 then retM h c cs
 else if (nth in0 c.m.code c.pc.toNat).op=19 then calM h c cs (nth in0 c.m.code c.pc.toNat)
 else didM (doesP h c (nth in0 c.m.code c.pc.toNat)) cs
def runM:Nat→Hp→List Cal→Mo
 | 0,h,cs=>endM 0 va0 h
 | n+1,h,[]=>endM 0 va0 h
 | n+1,h,c::cs=>if h.stepB=false then endM 0 va0 h
  else if (stepM h.step c cs).fin=true then stepM h.step c cs
  else runM n (stepM h.step c cs).h (stepM h.step c cs).cs
def finS (o:Mo):Sh :=
 if o.how=2 then ⟨2,0,(o.h.obj o.v.n).cls,o.h.sh.out,o.h.sh.used,o.h.sh.steps⟩
 else ⟨o.how,if o.v.kind=3 then 0 else o.v.n,0,o.h.sh.out,o.h.sh.used,o.h.sh.steps⟩
def Enough (k:Nat) (h:Hp):Prop:=h.fuel-h.sh.steps≤k
theorem givesP_le (h:Hp) (c:Cal) (i:In):Le h (givesP h c i).h:=by
 unfold givesP
 dsimp only
 split
 ·exact (must_le h _).trans (givesH_le _ _ _ _)
 ·exact ((must_le h _).trans (givesH_le _ _ _ _)).trans (putH_le _ _ _)
theorem does_le (h:Hp) (c:Cal) (i:In):Le h (doesP h c i).h:=by
 unfold doesP
 split
 ·exact Le.refl h
 split
 ·exact (must_le h _).trans (must_le _ _)
 split
 ·exact (must_le h _).trans (must_le _ _)
 split
 ·unfold thrP;dsimp only;split
  ·exact must_le h _
  ·exact (must_le h _).trans (throw_le _ _)
 split
 ·unfold loadP;dsimp only;split
  ·exact putH_le _ _ _
  ·exact must_le h _
 split
 ·exact (must_le h _).trans (must_le _ _)
 split
 ·exact must_le h _
 split
 ·unfold dupP;dsimp only;split
  ·exact must_le h _
  ·exact ((must_le h _).trans (putH_le _ _ _)).trans (putH_le _ _ _)
 split
 ·unfold emitP;dsimp only;split
  ·exact must_le h _
  ·exact (must_le h _).trans (emit_le _ _ _)
 split
 ·unfold setP;dsimp only;split
  ·exact must_le h _
  ·split
   ·exact (must_le h _).trans (put_le _ _ _ _ _)
   ·exact (must_le h _).trans (must_le _ _)
 ·exact givesP_le h c i
structure Lf (h h':Hp):Prop where
 fuel:h'.fuel=h.fuel
 steps:h.sh.steps≤h'.sh.steps
theorem Lf.refl (h:Hp):Lf h h:=⟨rfl,Int.le_refl _⟩
theorem Lf.trans {a b c:Hp} (h:Lf a b) (k:Lf b c):Lf a c:=⟨k.fuel.trans h.fuel,Int.le_trans h.steps k.steps⟩
theorem Le.lf {h h':Hp} (l:Le h h'):Lf h h':=⟨l.fuel,l.steps⟩
theorem Lf.enough {h h':Hp} (l:Lf h h') {k:Nat} (e:Enough k h):Enough k h':=by
 have:=l.fuel;have:=l.steps;unfold Enough at *;omega
theorem leave_lf (h:Hp):Lf h h.leave:=⟨rfl,Int.le_refl _⟩
theorem unw_lf:∀(cs:List Cal) (h:Hp),Lf h (unwM h cs).h
 | [],h=>Lf.refl h
 | c::cs,h=>by
  unfold unwM
  split
  ·exact (leave_lf h).trans (unw_lf cs h.leave)
  ·split
   ·exact ⟨rfl,Int.le_refl _⟩
   ·exact Lf.refl h
theorem back_lf (h:Hp) (v:Va) (cs:List Cal):Lf h (backM h v cs).h:=by
 cases cs with
 | nil=>exact Lf.refl h
 | cons c cs =>
  have e:(backM h v (c::cs)).h=h:=by
   rw [backM]
   by_cases h1:v.kind=0
   ·rw [if_pos h1];rfl
   ·rw [if_neg h1]
    by_cases h2:(sizP (c.stk++[v]):Int)≤c.m.stack
    ·rw [if_pos h2];rfl
    ·rw [if_neg h2];rfl
  rw [e]
  exact Lf.refl h
theorem step_lf (h:Hp) (c:Cal) (cs:List Cal):Lf h (stepM h c cs).h:=by
 unfold stepM
 split
 ·exact Lf.refl h
 split
 ·unfold retM
  split
  ·exact (leave_lf h).trans (back_lf _ _ _)
  split
  ·exact Lf.refl h
  split
  ·exact (leave_lf h).trans (back_lf _ _ _)
  ·exact Lf.refl h
 split
 ·unfold calM
  dsimp only
  split
  ·exact Lf.refl h
  split
  ·exact Lf.refl h
  split
  ·exact Lf.refl h
  ·exact ⟨rfl,Int.le_refl _⟩
 ·unfold didM
  have hl:=(does_le h c (nth in0 c.m.code c.pc.toNat)).lf
  split
  ·exact hl
  split
  ·exact hl.trans (unw_lf _ _)
  ·exact hl
theorem stepB_steps {h:Hp} (hb:h.stepB=true):h.step.sh.steps=h.sh.steps+1∧h.step.fuel=h.fuel∧h.step.over=false∧h.step.thrown=h.thrown∧h.step.file=h.file∧h.step.calls=h.calls:=by
 unfold Hp.stepB at hb
 simp at hb
 have e:h.step={ h with sh:={ h.sh with steps:=h.sh.steps+1 } }:=by
  unfold Hp.step
  rw [if_neg (by rw [hb.1];decide),if_neg (by omega)]
 rw [e]
 exact ⟨rfl,rfl,hb.1,rfl,rfl,rfl⟩
theorem stepB_no {k:Nat} {h:Hp} (e:Enough 0 h):h.stepB=false:=by
 unfold Enough at e
 unfold Hp.stepB
 have:¬h.sh.steps<h.fuel:=by omega
 simp [this]
theorem enough_step {k:Nat} {h:Hp} (e:Enough (k+1) h) (hb:h.stepB=true):Enough k h.step:=by
 obtain ⟨h1,h2,-⟩:=stepB_steps hb
 unfold Enough at *
 omega
def NoTwo (h:Hp):Prop:=h.over=true→h.sh.fin≠2
theorem two_safe:Safe NoTwo :=
 ⟨fun h e he p=>by
   unfold Hp.fin;split
   ·exact p
   ·intro _;show e≠2;omega,
  fun h o p=>p,fun h t p=>p,fun h n p=>p,fun h p=>p⟩
theorem does_two (h:Hp) (c:Cal) (i:In) (hf:NoTwo h):NoTwo (doesP h c i).h:=two_safe.does hf c i
theorem Gc.objs {h h':Hp} {c:Cal} (g:Gc h c) (e1:h'.objs=h.objs) (e2:h'.file=h.file):Gc h' c :=
 ⟨fun v hv=>⟨fun e=>by rw [e1];exact (g.stk v hv).ref e,(g.stk v hv).num⟩,fun v hv=>⟨fun e=>by rw [e1];exact (g.locs v hv).ref e,(g.locs v hv).num⟩,g.ok,g.room,g.len,by rw [e2];exact g.me,g.mok⟩
def IC (h:Hp) (cs:List Cal):Prop:=∀c∈cs,Gc h c∧0≤c.pc∧c.pc<c.m.code.length
theorem IC.objs {h h':Hp} {cs:List Cal} (g:IC h cs) (e1:h'.objs=h.objs) (e2:h'.file=h.file):IC h' cs:=fun c hc=>⟨(g c hc).1.objs e1 e2,(g c hc).2⟩
theorem IC.le {h h':Hp} {cs:List Cal} (g:IC h cs) (l:Le h h'):IC h' cs:=fun c hc=>⟨(g c hc).1.le l,(g c hc).2⟩
structure IM (f:Fi) (inp:List Int) (h:Hp) (cs:List Cal):Prop where
 file:h.file=f
 input:h.input=inp
 may:MayF f
 gh:Gh 0 h
 over:h.over=false
 thr:h.thrown=-1
 calls:h.calls=cs.length
 ex:∃c cs',cs=c::cs'∧Gc h c∧0≤c.pc∧c.pc≤c.m.code.length∧IC h cs'
theorem unw_inv (f:Fi) (inp:List Int) (hmay:MayF f):∀(cs:List Cal) (h:Hp),h.file=f→h.input=inp→Gh 0 h→h.over=false→0≤h.thrown→h.calls=cs.length→IC h cs→(unwM h cs).fin=false→IM f inp (unwM h cs).h (unwM h cs).cs∧(unwM h cs).h.sh=h.sh∧(unwM h cs).h.fuel=h.fuel
 | [],h,_,_,_,_,_,_,_,hfin=>by cases hfin
 | c::cs,h,hf,hin,gh,ho,ht,hc,hI,hfin=>by
  have hg:=hI c List.mem_cons_self
  have hlen:h.calls=(cs.length:Int)+1:=by rw [hc];simp
  by_cases hcl:h.caughtL c.pc c.m.hands<0
  ·have e:unwM h (c::cs)=unwM h.leave cs:=if_pos hcl
   rw [e] at hfin ⊢
   have hcb:=gh.calls
   have gl:Gh 0 h.leave:=⟨fun o ho x hx=>⟨fun e=>(gh.held o ho x hx).ref e,(gh.held o ho x hx).num⟩,gh.thr,gh.used,gh.steps,gh.fuel,gh.out,gh.len,gh.inp,by show 0≤h.calls-1∧h.calls-1≤20;omega⟩
   exact unw_inv f inp hmay cs h.leave hf hin gl ho ht (by show h.calls-1=_;omega) (IC.objs (fun x hx=>hI x (List.mem_cons_of_mem _ hx)) rfl rfl) hfin
  ·by_cases hr:(sizP [(⟨3,h.thrown⟩:Va)]:Int)≤c.m.stack
   ·have e:unwM h (c::cs)=goM { h with thrown:=-1 } ({ c with stk:=[⟨3,h.thrown⟩],pc:=h.caughtL c.pc c.m.hands }::cs):=by
     show (if _ then _ else _)=_
     rw [if_neg hcl,if_pos hr]
    rw [e]
    have gt:Gh 0 { h with thrown:=-1 }:=gh.same rfl rfl rfl rfl rfl rfl rfl ⟨by dsimp only;omega,by dsimp only;omega⟩
    have g1:=hg.1.objs (h':={ h with thrown:=-1 }) rfl rfl
    have h1:=caught_at (h:=h) (pc:=c.pc) (n:=c.m.code.length) (k:=h.file.classes.length) c.m.hands (smeP hg.1.me).2.2.2.2.2.2.2.2.2.1
    refine ⟨⟨hf,hin,hmay,gt,ho,rfl,by show h.calls=_;rw [hc];simp [goM],_,cs,rfl,⟨fun v hv=>?_,g1.locs,g1.ok,hr,g1.len,g1.me,g1.mok⟩,by show 0≤h.caughtL c.pc c.m.hands;omega,by show h.caughtL c.pc c.m.hands≤c.m.code.length;omega,IC.objs (fun x hx=>hI x (List.mem_cons_of_mem _ hx)) rfl rfl⟩,rfl,rfl⟩
    obtain rfl:v=⟨3,h.thrown⟩:=by simpa using hv
    exact ⟨fun _=>⟨by dsimp only;omega,gh.thr.2⟩,by have:=gh.thr;have:=gh.len;dsimp only;unfold I64;omega⟩
   ·have e:unwM h (c::cs)=endM 6 va0 h:=by
     show (if _ then _ else _)=_
     rw [if_neg hcl,if_neg hr]
    rw [e] at hfin
    cases hfin
theorem step_inv {f:Fi} {inp:List Int} {h:Hp} {c:Cal} {cs:List Cal} (hf:h.file=f) (hinp:h.input=inp) (hmay:MayF f) (gh:Gh 1 h) (ho:h.over=false) (hth:h.thrown=-1) (hc:h.calls=(c::cs).length) (gc:Gc h c) (hp:0≤c.pc∧c.pc≤c.m.code.length) (hI:IC h cs) (hfin:(stepM h c cs).fin=false) :
  IM f inp (stepM h c cs).h (stepM h c cs).cs:=by
 have hlen:h.calls=(cs.length:Int)+1:=by rw [hc];simp
 have hcb:=gh.calls
 unfold stepM at hfin ⊢
 by_cases hlt:c.pc<c.m.code.length
 ·rw [if_neg (by simpa using hlt)] at hfin ⊢
  obtain ⟨ok,iok⟩:=code_ok gc ⟨hp.1,hlt⟩
  generalize hin:nth in0 c.m.code c.pc.toNat=i at *
  by_cases h20:i.op=20
  ·rw [if_pos h20] at hfin ⊢
   have gl:Gh 0 h.leave:=⟨fun o ho x hx=>⟨fun e=>(gh.held o ho x hx).ref e,(gh.held o ho x hx).num⟩,gh.thr,gh.used,gh.steps,gh.fuel,by have:=gh.out;show (h.sh.out.length:Int)+((0:Nat):Int)≤h.sh.steps;omega,gh.len,gh.inp,by show 0≤h.calls-1∧h.calls-1≤20;omega⟩
   have hback:∀v,GdV h v→(backM h.leave v cs).fin=false→IM f inp (backM h.leave v cs).h (backM h.leave v cs).cs:=fun v gv hfn=>by
    cases cs with
    | nil=>cases hfn
    | cons c2 cs2 =>
     have h2:=hI c2 List.mem_cons_self
     have hr:IC h.leave cs2:=IC.objs (fun x hx=>hI x (List.mem_cons_of_mem _ hx)) rfl rfl
     have hcl:h.leave.calls=((c2::cs2).length:Int):=by show h.calls-1=_;omega
     unfold backM at hfn ⊢
     dsimp only at hfn ⊢
     by_cases hv:v.kind=0
     ·rw [if_pos hv] at hfn ⊢
      exact ⟨hf,hinp,hmay,gl,ho,hth,hcl,_,cs2,rfl,(h2.1.objs (h':=h.leave) rfl rfl).pc _,by show 0≤c2.pc+1;have:=h2.2.1;omega,by show c2.pc+1≤c2.m.code.length;have:=h2.2.2;omega,hr⟩
     ·rw [if_neg hv] at hfn ⊢
      by_cases hs:(sizP (c2.stk++[v]):Int)≤c2.m.stack
      ·rw [if_pos hs] at hfn ⊢
       exact ⟨hf,hinp,hmay,gl,ho,hth,hcl,_,cs2,rfl,((h2.1.objs (h':=h.leave) rfl rfl).put ⟨fun e=>gv.ref e,gv.num⟩ hs).pc _,by show 0≤c2.pc+1;omega,by show c2.pc+1≤c2.m.code.length;have:=h2.2.2;omega,hr⟩
      ·rw [if_neg hs] at hfn;cases hfn
   unfold retM at hfin ⊢
   by_cases hr0:c.m.ret.kind=0
   ·rw [if_pos hr0] at hfin ⊢;exact hback _ (gdV0 _) hfin
   ·rw [if_neg hr0] at hfin ⊢
    by_cases hh:c.has 1=false
    ·rw [if_pos hh] at hfin;cases hfin
    ·rw [if_neg hh] at hfin ⊢
     by_cases hof:h.of (nth va0 (c.top 1) 0) c.m.ret=true
     ·rw [if_pos hof] at hfin ⊢;exact hback _ (top_gd' gc 1 0 (by decide)) hfin
     ·rw [if_neg hof] at hfin;cases hfin
  ·rw [if_neg h20] at hfin ⊢
   by_cases h19:i.op=19
   ·rw [if_pos h19] at hfin ⊢
    unfold calM at hfin ⊢
    dsimp only at hfin ⊢
    have hia:=ok.call h19
    have hmm:=(hf▸hmay:MayF h.file) _ (nth_mem (d:=me0) (i:=i.a.toNat) (by omega:i.a.toNat<h.file.methods.length))
    generalize hM:nth me0 h.file.methods i.a.toNat=m at *
    by_cases hh:c.has m.params.length=false
    ·rw [if_pos hh] at hfin;cases hfin
    rw [if_neg hh] at hfin ⊢
    by_cases he:h.enterL (c.top m.params.length) m.params=false
    ·rw [if_pos he] at hfin;cases hfin
    rw [if_neg he] at hfin ⊢
    by_cases hd:h.deep=true
    ·rw [if_pos hd] at hfin;cases hfin
    rw [if_neg hd] at hfin ⊢
    have hd':h.calls<20:=by unfold Hp.deep at hd;simp at hd;exact hd
    have g2:Gh 0 { h with calls:=h.calls+1 }:=⟨fun o ho x hx=>⟨fun e=>(gh.held o ho x hx).ref e,(gh.held o ho x hx).num⟩,gh.thr,gh.used,gh.steps,gh.fuel,by have:=gh.out;show (h.sh.out.length:Int)+((0:Nat):Int)≤h.sh.steps;omega,gh.len,gh.inp,by show 0≤h.calls+1∧h.calls+1≤20;omega⟩
    have gn:Gc h (newCal m (c.top m.params.length)):=new_kept hmm.1 hmm.2 (top_length c _) (fun v hv=>by
     have e:c.top m.params.length=c.stk.drop (c.stk.length-m.params.length):=by unfold Cal.top;rw [if_pos (has_go (by simpa using hh))]
     rw [e] at hv
     exact gc.stk v (List.mem_of_mem_drop hv)) (by simpa using he)
    have cm:=cut_m c m.params.length
    refine ⟨hf,hinp,hmay,g2,ho,hth,by show h.calls+1=_;rw [hc];simp [goM],_,c.cut m.params.length::cs,rfl,gn.objs rfl rfl,Int.le_refl _,by show (0:Int)≤m.code.length;omega,?_⟩
    intro x hx
    rcases List.mem_cons.1 hx with rfl|hx
    ·exact ⟨(gc.cut _).objs rfl rfl,by rw [cm.2.1];exact hp.1,by rw [cm.2.1,cm.1];exact hlt⟩
    ·exact (IC.objs (h':={ h with calls:=h.calls+1 }) hI rfl rfl) x hx
   ·rw [if_neg h19] at hfin ⊢
    have k:=does_kept gh gc ho hth ok iok ⟨hp.1,hlt⟩
    generalize doesP h c i=d at *
    unfold didM at hfin ⊢
    by_cases hov:d.h.over=true
    ·rw [if_pos hov] at hfin;cases hfin
    rw [if_neg hov] at hfin ⊢
    have hov':d.h.over=false:=by simpa using hov
    have gd:=k.gc hov'
    have hdc:d.h.calls=((d.c::cs).length:Int):=by rw [k.le.calls,hlen];simp
    by_cases hthr:0≤d.h.thrown
    ·rw [if_pos hthr] at hfin ⊢
     refine (unw_inv f inp hmay (d.c::cs) d.h (k.le.file.trans hf) (k.le.input.trans hinp) k.gh hov' hthr hdc ?_ hfin).1
     intro x hx
     rcases List.mem_cons.1 hx with rfl|hx
     ·exact ⟨gd,by rw [k.pc];exact hp.1,by rw [k.pc,k.m];exact hlt⟩
     ·exact hI.le k.le x hx
    ·rw [if_neg hthr] at hfin ⊢
     have ht':d.h.thrown=-1:=by have:=k.gh.thr;omega
     exact ⟨k.le.file.trans hf,k.le.input.trans hinp,hmay,k.gh,hov',ht',hdc,_,cs,rfl,gd.pc _,k.nx.1,by show d.nx≤d.c.m.code.length;rw [k.m];exact k.nx.2,hI.le k.le⟩
 ·rw [if_pos hlt] at hfin
  cases hfin
def NoThr (h:Hp):Prop:=h.over=true→h.sh.fin≠2
theorem does_noThr {h:Hp} (n:NoThr h) (c:Cal) (i:In):NoThr (doesP h c i).h:=does_two h c i n
theorem does_locs {h:Hp} (ht:h.thrown=-1) (c:Cal) (i:In) (hx:0≤(doesP h c i).h.thrown):(doesP h c i).c.locs=c.locs:=by
 have cm:=fun k=>(cut_m c k).2.2
 unfold doesP at hx ⊢
 split
 ·rfl
 split
 ·exact cm 1
 split
 ·exact cm 1
 split
 ·exact cm 1
 split
 ·unfold loadP;dsimp only;split<;>rfl
 split
 ·rename_i h1 h2 h3 h4 h5 h6
  rw [if_neg h1,if_neg h2,if_neg h3,if_neg h4,if_neg h5,if_pos h6] at hx
  unfold storeP at hx
  dsimp only at hx
  rw [must_thrown,must_thrown,ht] at hx
  omega
 split
 ·exact cm 1
 split
 ·unfold dupP;dsimp only;split
  ·exact cm 1
  ·exact cm 1
 split
 ·exact cm 1
 split
 ·exact cm 2
 ·unfold givesP;dsimp only;split
  ·exact cm _
  ·exact cm _
theorem unw_same {h:Hp} {c c':Cal} {cs:List Cal} (e1:c'.m=c.m) (e2:c'.pc=c.pc) (e3:c'.locs=c.locs):unwM h (c'::cs)=unwM h (c::cs):=by
 show (if _ then _ else _)=(if _ then _ else _)
 rw [e1,e2,e3]
theorem enter_all (h:Hp):∀(vs:List Va) (ts:List Ty),vs.length=ts.length→(h.enterL vs ts=true↔∀k,k<ts.length→h.of (nth va0 vs k) (nth ty0 ts k)=true)
 | [],[],_=>⟨fun _ k hk=>absurd hk (Nat.not_lt_zero _),fun _=>rfl⟩
 | [],t::ts,e=>by simp at e
 | v::vs,[],e=>by simp at e
 | v::vs,t::ts,e=>by
  have ih:=enter_all h vs ts (by simpa using e)
  show (h.of v t&&h.enterL vs ts)=true↔_
  rw [Bool.and_eq_true,ih]
  constructor
  ·rintro ⟨a,b⟩ k hk
   cases k with
   | zero=>exact a
   | succ k=>exact b k (by simpa using hk)
  ·intro a
   exact ⟨a 0 (by simp),fun k hk=>a (k+1) (by simpa using hk)⟩
structure Ed (f:Fi) (inp:List Int) (o:Mo):Prop where
 file:o.h.file=f
 input:o.h.input=inp
 len:o.h.objs.length≤100
 thr:o.how=2→o.v.kind=3∧0≤o.v.n∧o.v.n<o.h.objs.length
theorem ed_end {f:Fi} {inp:List Int} {h:Hp} (hf:h.file=f) (hi:h.input=inp) (hl:h.objs.length≤100) {how:Int} (hn:how≠2) (v:Va):Ed f inp (endM how v h):=⟨hf,hi,hl,fun e=>absurd e hn⟩
theorem unw_ed (f:Fi) (inp:List Int):∀(cs:List Cal) (h:Hp),h.file=f→h.input=inp→h.objs.length≤100→0≤h.thrown∧h.thrown<h.objs.length→(unwM h cs).fin=true→Ed f inp (unwM h cs)
 | [],h,hf,hi,hl,ht,_=>⟨hf,hi,hl,fun _=>⟨rfl,ht.1,ht.2⟩⟩
 | c::cs,h,hf,hi,hl,ht,hfin=>by
  by_cases hcl:h.caughtL c.pc c.m.hands<0
  ·have e:unwM h (c::cs)=unwM h.leave cs:=if_pos hcl
   rw [e] at hfin ⊢
   exact unw_ed f inp cs h.leave hf hi hl ht hfin
  ·by_cases hr:(sizP [(⟨3,h.thrown⟩:Va)]:Int)≤c.m.stack
   ·have e:unwM h (c::cs)=goM { h with thrown:=-1 } ({ c with stk:=[⟨3,h.thrown⟩],pc:=h.caughtL c.pc c.m.hands }::cs):=by
     show (if _ then _ else _)=_
     rw [if_neg hcl,if_pos hr]
    rw [e] at hfin
    cases hfin
   ·have e:unwM h (c::cs)=endM 6 va0 h:=by
     show (if _ then _ else _)=_
     rw [if_neg hcl,if_neg hr]
    rw [e]
    exact ed_end hf hi hl (by decide) _
theorem back_ed {f:Fi} {inp:List Int} {h:Hp} (hf:h.file=f) (hi:h.input=inp) (hl:h.objs.length≤100) (v:Va) (cs:List Cal) (hfin:(backM h v cs).fin=true):Ed f inp (backM h v cs):=by
 cases cs with
 | nil=>exact ed_end hf hi hl (by decide) _
 | cons c cs =>
  rw [backM] at hfin ⊢
  by_cases h1:v.kind=0
  ·rw [if_pos h1] at hfin;cases hfin
  ·rw [if_neg h1] at hfin ⊢
   by_cases h2:(sizP (c.stk++[v]):Int)≤c.m.stack
   ·rw [if_pos h2] at hfin;cases hfin
   ·rw [if_neg h2];exact ed_end hf hi hl (by decide) _
theorem step_ed {f:Fi} {inp:List Int} {h:Hp} {c:Cal} {cs:List Cal} (hf:h.file=f) (hinp:h.input=inp) (gh:Gh 1 h) (ho:h.over=false) (hth:h.thrown=-1) (gc:Gc h c) (hp:0≤c.pc∧c.pc≤c.m.code.length) (hfin:(stepM h c cs).fin=true) :
  Ed f inp (stepM h c cs):=by
 unfold stepM at hfin ⊢
 by_cases hlt:c.pc<c.m.code.length
 ·rw [if_neg (by simpa using hlt)] at hfin ⊢
  obtain ⟨ok,iok⟩:=code_ok gc ⟨hp.1,hlt⟩
  generalize hin:nth in0 c.m.code c.pc.toNat=i at *
  by_cases h20:i.op=20
  ·rw [if_pos h20] at hfin ⊢
   unfold retM at hfin ⊢
   by_cases hr0:c.m.ret.kind=0
   ·rw [if_pos hr0] at hfin ⊢;exact back_ed (h:=h.leave) hf hinp gh.len _ _ hfin
   ·rw [if_neg hr0] at hfin ⊢
    by_cases hh:c.has 1=false
    ·rw [if_pos hh];exact ed_end hf hinp gh.len (by decide) _
    ·rw [if_neg hh] at hfin ⊢
     by_cases hof:h.of (nth va0 (c.top 1) 0) c.m.ret=true
     ·rw [if_pos hof] at hfin ⊢;exact back_ed (h:=h.leave) hf hinp gh.len _ _ hfin
     ·rw [if_neg hof];exact ed_end hf hinp gh.len (by decide) _
  ·rw [if_neg h20] at hfin ⊢
   by_cases h19:i.op=19
   ·rw [if_pos h19] at hfin ⊢
    unfold calM at hfin ⊢
    dsimp only at hfin ⊢
    generalize hM:nth me0 h.file.methods i.a.toNat=m at *
    by_cases hh:c.has m.params.length=false
    ·rw [if_pos hh];exact ed_end hf hinp gh.len (by decide) _
    rw [if_neg hh] at hfin ⊢
    by_cases he:h.enterL (c.top m.params.length) m.params=false
    ·rw [if_pos he];exact ed_end hf hinp gh.len (by decide) _
    rw [if_neg he] at hfin ⊢
    by_cases hd:h.deep=true
    ·rw [if_pos hd];exact ed_end hf hinp gh.len (by decide) _
    rw [if_neg hd] at hfin
    cases hfin
   ·rw [if_neg h19] at hfin ⊢
    have k:=does_kept gh gc ho hth ok iok ⟨hp.1,hlt⟩
    have hnt:NoThr (doesP h c i).h:=does_noThr (fun e=>by rw [ho] at e;cases e) c i
    generalize doesP h c i=d at *
    have hl:=k.gh.len
    unfold didM at hfin ⊢
    by_cases hov:d.h.over=true
    ·rw [if_pos hov];exact ed_end (k.le.file.trans hf) (k.le.input.trans hinp) hl (hnt hov) _
    rw [if_neg hov] at hfin ⊢
    by_cases hthr:0≤d.h.thrown
    ·rw [if_pos hthr] at hfin ⊢
     exact unw_ed f inp (d.c::cs) d.h (k.le.file.trans hf) (k.le.input.trans hinp) hl ⟨hthr,k.gh.thr.2⟩ hfin
    ·rw [if_neg hthr] at hfin;cases hfin
 ·rw [if_pos (by simpa using hlt)];exact ed_end hf hinp gh.len (by decide) _
theorem run_ed {f:Fi} {inp:List Int}:∀(n:Nat) (h:Hp) (cs:List Cal),IM f inp h cs→Ed f inp (runM n h cs)∧(runM n h cs).fin=true
 | 0,h,cs,im=>⟨ed_end im.file im.input im.gh.len (by decide) _,rfl⟩
 | n+1,h,[],im=>by obtain ⟨c,cs,e,-⟩:=im.ex;cases e
 | n+1,h,c::cs,im=>by
  obtain ⟨c',cs',e,gc,hp0,hp1,hI⟩:=im.ex
  simp only [List.cons.injEq] at e
  obtain ⟨rfl,rfl⟩:=e
  rw [runM]
  cases hb:h.stepB with
  | false=>rw [if_pos rfl];exact ⟨ed_end im.file im.input im.gh.len (by decide) _,rfl⟩
  | true =>
   rw [if_neg (by decide)]
   obtain ⟨q1,q2,q3,q4,q5,q6⟩:=stepB_steps hb
   have sl:=step_le h
   have gh1:=im.gh.step hb
   by_cases hfin:(stepM h.step c cs).fin=true
   ·rw [if_pos hfin]
    exact ⟨step_ed (q5.trans im.file) (sl.input.trans im.input) gh1 q3 (q4.trans im.thr) (gc.le sl) ⟨hp0,hp1⟩ hfin,hfin⟩
   ·rw [if_neg hfin]
    exact run_ed n _ _ (step_inv (q5.trans im.file) (sl.input.trans im.input) im.may gh1 q3 (q4.trans im.thr) (q6.trans im.calls) (gc.le sl) ⟨hp0,hp1⟩ (hI.le sl) (by simpa using hfin))
end Go.Proofs.Ytgiiapenmjollaa
