import Derived.Test.YtimjmdfokicbkaaSlaa
import Derived.Test.YtimjmdfokicbkaaSlac
import Derived.Test.YtimjmdfokicbkaaSlad
import Derived.Test.YtimjmdfokicbkaaChecked
import Derived.Handy
import Derived.WalkLawsBesides
namespace Go.Proofs.Ytimjmdfokicbkaa
set_option linter.unusedVariables false
set_option linter.unusedSimpArgs false
set_option maxHeartbeats 40000000
open Go.RowKit
def NoThr (h:Hp):Prop:=h.over=true→h.sh.fin≠2
theorem does_noThr {h:Hp} (n:NoThr h) (c:Cal) (i:In):NoThr (doesP h c i).h:=does_two h c i n
theorem does_locs {h:Hp} (ht:h.thrown=-1) (c:Cal) (i:In) (hx:0≤(doesP h c i).h.thrown):(doesP h c i).c.locs=c.locs:=by
 have cm:=fun k=>(cut_m c k).2.2
 unfold doesP at hx ⊢
 split
 ·rfl
 split
 ·exact cm 1
 split
 ·exact cm 1
 split
 ·exact cm 1
 split
 ·unfold loadP;dsimp only;split<;>rfl
 split
 ·rename_i h1 h2 h3 h4 h5 h6
  rw [if_neg h1,if_neg h2,if_neg h3,if_neg h4,if_neg h5,if_pos h6] at hx
  unfold storeP at hx
  dsimp only at hx
  rw [must_thrown,must_thrown,ht] at hx
  omega
 split
 ·exact cm 1
 split
 ·unfold dupP;dsimp only;split
  ·exact cm 1
  ·exact cm 1
 split
 ·exact cm 1
 split
 ·exact cm 2
 ·unfold givesP;dsimp only;split
  ·exact cm _
  ·exact cm _
theorem unw_same {h:Hp} {c c':Cal} {cs:List Cal} (e1:c'.m=c.m) (e2:c'.pc=c.pc) (e3:c'.locs=c.locs):unwM h (c'::cs)=unwM h (c::cs):=by
 show (if _ then _ else _)=(if _ then _ else _)
 rw [e1,e2,e3]
theorem enter_all (h:Hp):∀(vs:List Va) (ts:List Ty),vs.length=ts.length→(h.enterL vs ts=true↔∀k,k<ts.length→h.of (nth va0 vs k) (nth ty0 ts k)=true)
 | [],[],_=>⟨fun _ k hk=>absurd hk (Nat.not_lt_zero _),fun _=>rfl⟩
 | [],t::ts,e=>by simp at e
 | v::vs,[],e=>by simp at e
 | v::vs,t::ts,e=>by
  have ih:=enter_all h vs ts (by simpa using e)
  show (h.of v t&&h.enterL vs ts)=true↔_
  rw [Bool.and_eq_true,ih]
  constructor
  ·rintro ⟨a,b⟩ k hk
   cases k with
   | zero=>exact a
   | succ k=>exact b k (by simpa using hk)
  ·intro a
   exact ⟨a 0 (by simp),fun k hk=>a (k+1) (by simpa using hk)⟩
structure Ed (f:Fi) (inp:List Int) (o:Mo):Prop where
 file:o.h.file=f
 input:o.h.input=inp
 len:o.h.objs.length≤100
 thr:o.how=2→o.v.kind=3∧0≤o.v.n∧o.v.n<o.h.objs.length
theorem ed_end {f:Fi} {inp:List Int} {h:Hp} (hf:h.file=f) (hi:h.input=inp) (hl:h.objs.length≤100) {how:Int} (hn:how≠2) (v:Va):Ed f inp (endM how v h):=⟨hf,hi,hl,fun e=>absurd e hn⟩
theorem unw_ed (f:Fi) (inp:List Int):∀(cs:List Cal) (h:Hp),h.file=f→h.input=inp→h.objs.length≤100→0≤h.thrown∧h.thrown<h.objs.length→(unwM h cs).fin=true→Ed f inp (unwM h cs)
 | [],h,hf,hi,hl,ht,_=>⟨hf,hi,hl,fun _=>⟨rfl,ht.1,ht.2⟩⟩
 | c::cs,h,hf,hi,hl,ht,hfin=>by
  by_cases hcl:h.caughtL c.pc c.m.hands<0
  ·have e:unwM h (c::cs)=unwM h.leave cs:=if_pos hcl
   rw [e] at hfin ⊢
   exact unw_ed f inp cs h.leave hf hi hl ht hfin
  ·by_cases hr:(sizP [(⟨3,h.thrown⟩:Va)]:Int)≤c.m.stack
   ·have e:unwM h (c::cs)=goM { h with thrown:=-1 } ({ c with stk:=[⟨3,h.thrown⟩],pc:=h.caughtL c.pc c.m.hands }::cs):=by
     show (if _ then _ else _)=_
     rw [if_neg hcl,if_pos hr]
    rw [e] at hfin
    cases hfin
   ·have e:unwM h (c::cs)=endM 6 va0 h:=by
     show (if _ then _ else _)=_
     rw [if_neg hcl,if_neg hr]
    rw [e]
    exact ed_end hf hi hl (by decide) _
theorem back_ed {f:Fi} {inp:List Int} {h:Hp} (hf:h.file=f) (hi:h.input=inp) (hl:h.objs.length≤100) (v:Va) (cs:List Cal) (hfin:(backM h v cs).fin=true):Ed f inp (backM h v cs):=by
 cases cs with
 | nil=>exact ed_end hf hi hl (by decide) _
 | cons c cs =>
  rw [backM] at hfin ⊢
  by_cases h1:v.kind=0
  ·rw [if_pos h1] at hfin;cases hfin
  ·rw [if_neg h1] at hfin ⊢
   by_cases h2:(sizP (c.stk++[v]):Int)≤c.m.stack
   ·rw [if_pos h2] at hfin;cases hfin
   ·rw [if_neg h2];exact ed_end hf hi hl (by decide) _
theorem step_ed {f:Fi} {inp:List Int} {h:Hp} {c:Cal} {cs:List Cal} (hf:h.file=f) (hinp:h.input=inp) (gh:Gh 1 h) (ho:h.over=false) (hth:h.thrown=-1) (gc:Gc h c) (hp:0≤c.pc∧c.pc≤c.m.code.length) (hfin:(stepM h c cs).fin=true) :
  Ed f inp (stepM h c cs):=by
 unfold stepM at hfin ⊢
 by_cases hlt:c.pc<c.m.code.length
 ·rw [if_neg (by simpa using hlt)] at hfin ⊢
  obtain ⟨ok,iok⟩:=code_ok gc ⟨hp.1,hlt⟩
  generalize hin:nth in0 c.m.code c.pc.toNat=i at *
  by_cases h20:i.op=20
  ·rw [if_pos h20] at hfin ⊢
   unfold retM at hfin ⊢
   by_cases hr0:c.m.ret.kind=0
   ·rw [if_pos hr0] at hfin ⊢;exact back_ed (h:=h.leave) hf hinp gh.len _ _ hfin
   ·rw [if_neg hr0] at hfin ⊢
    by_cases hh:c.has 1=false
    ·rw [if_pos hh];exact ed_end hf hinp gh.len (by decide) _
    ·rw [if_neg hh] at hfin ⊢
     by_cases hof:h.of (nth va0 (c.top 1) 0) c.m.ret=true
     ·rw [if_pos hof] at hfin ⊢;exact back_ed (h:=h.leave) hf hinp gh.len _ _ hfin
     ·rw [if_neg hof];exact ed_end hf hinp gh.len (by decide) _
  ·rw [if_neg h20] at hfin ⊢
   by_cases h19:i.op=19
   ·rw [if_pos h19] at hfin ⊢
    unfold calM at hfin ⊢
    dsimp only at hfin ⊢
    generalize hM:nth me0 h.file.methods i.a.toNat=m at *
    by_cases hh:c.has m.params.length=false
    ·rw [if_pos hh];exact ed_end hf hinp gh.len (by decide) _
    rw [if_neg hh] at hfin ⊢
    by_cases he:h.enterL (c.top m.params.length) m.params=false
    ·rw [if_pos he];exact ed_end hf hinp gh.len (by decide) _
    rw [if_neg he] at hfin ⊢
    by_cases hd:h.deep=true
    ·rw [if_pos hd];exact ed_end hf hinp gh.len (by decide) _
    rw [if_neg hd] at hfin
    cases hfin
   ·rw [if_neg h19] at hfin ⊢
    have k:=does_kept gh gc ho hth ok iok ⟨hp.1,hlt⟩
    have hnt:NoThr (doesP h c i).h:=does_noThr (fun e=>by rw [ho] at e;cases e) c i
    generalize doesP h c i=d at *
    have hl:=k.gh.len
    unfold didM at hfin ⊢
    by_cases hov:d.h.over=true
    ·rw [if_pos hov];exact ed_end (k.le.file.trans hf) (k.le.input.trans hinp) hl (hnt hov) _
    rw [if_neg hov] at hfin ⊢
    by_cases hthr:0≤d.h.thrown
    ·rw [if_pos hthr] at hfin ⊢
     exact unw_ed f inp (d.c::cs) d.h (k.le.file.trans hf) (k.le.input.trans hinp) hl ⟨hthr,k.gh.thr.2⟩ hfin
    ·rw [if_neg hthr] at hfin;cases hfin
 ·rw [if_pos (by simpa using hlt)];exact ed_end hf hinp gh.len (by decide) _
theorem run_ed {f:Fi} {inp:List Int}:∀(n:Nat) (h:Hp) (cs:List Cal),IM f inp h cs→Ed f inp (runM n h cs)∧(runM n h cs).fin=true
 | 0,h,cs,im=>⟨ed_end im.file im.input im.gh.len (by decide) _,rfl⟩
 | n+1,h,[],im=>by obtain ⟨c,cs,e,-⟩:=im.ex;cases e
 | n+1,h,c::cs,im=>by
  obtain ⟨c',cs',e,gc,hp0,hp1,hI⟩:=im.ex
  simp only [List.cons.injEq] at e
  obtain ⟨rfl,rfl⟩:=e
  rw [runM]
  cases hb:h.stepB with
  | false=>rw [if_pos rfl];exact ⟨ed_end im.file im.input im.gh.len (by decide) _,rfl⟩
  | true =>
   rw [if_neg (by decide)]
   obtain ⟨q1,q2,q3,q4,q5,q6⟩:=stepB_steps hb
   have sl:=step_le h
   have gh1:=im.gh.step hb
   by_cases hfin:(stepM h.step c cs).fin=true
   ·rw [if_pos hfin]
    exact ⟨step_ed (q5.trans im.file) (sl.input.trans im.input) gh1 q3 (q4.trans im.thr) (gc.le sl) ⟨hp0,hp1⟩ hfin,hfin⟩
   ·rw [if_neg hfin]
    exact run_ed n _ _ (step_inv (q5.trans im.file) (sl.input.trans im.input) im.may gh1 q3 (q4.trans im.thr) (q6.trans im.calls) (gc.le sl) ⟨hp0,hp1⟩ (hI.le sl) (by simpa using hfin))
def Hp.fl (h:Hp) (F:Int):Hp:={ h with fuel:=F }
def Mo.fl (o:Mo) (F:Int):Mo:={ o with h:=o.h.fl F }
def Did.fl (d:Did) (F:Int):Did:={ d with h:=d.h.fl F }
theorem fl_fin (h:Hp) (F e:Int):(h.fl F).fin e=(h.fin e).fl F:=by unfold Hp.fin Hp.fl;dsimp only;split<;>rfl
theorem fl_must (h:Hp) (F:Int) (b:Bool):(h.fl F).must b=(h.must b).fl F:=by
 unfold Hp.must;split
 ·rfl
 ·exact fl_fin h F 6
theorem fl_new (h:Hp) (F c:Int):(h.fl F).new c=(h.new c).fl F:=by
 unfold Hp.new
 have e:(h.fl F).full=h.full:=rfl
 rw [e];split
 ·exact fl_fin h F 4
 ·rfl
theorem fl_raise (h:Hp) (F c:Int):(h.fl F).raise c=(h.raise c).fl F:=by
 unfold Hp.raise
 rw [fl_new]
 have e:((h.new c).fl F).over=(h.new c).over:=rfl
 rw [e];split<;>rfl
theorem fl_throw (h:Hp) (F:Int) (v:Va):(h.fl F).throw v=(h.throw v).fl F:=by
 unfold Hp.throw
 have e:(h.fl F).mustB (isRef v)=h.mustB (isRef v):=rfl
 rw [e];split
 ·split
  ·exact fl_raise h F 1
  ·rfl
 ·exact fl_must h F _
theorem fl_findH (h:Hp) (F:Int) (r:Va) (c:Int):(h.fl F).findH r c=(h.findH r c).fl F:=by
 unfold Hp.findH
 have e:(h.fl F).mustB ((h.fl F).of r ⟨3,c⟩)=h.mustB (h.of r ⟨3,c⟩):=rfl
 rw [e];split
 ·split
  ·exact fl_raise h F 1
  ·rfl
 ·exact fl_must h F _
theorem fl_put (h:Hp) (F:Int) (r:Va) (c k:Int) (v:Va):(h.fl F).put r c k v=(h.put r c k v).fl F:=by
 unfold Hp.put
 have e:(h.fl F).mustB ((h.fl F).of v (fieldT (h.fl F).file.classes c k))=h.mustB (h.of v (fieldT h.file.classes c k)):=rfl
 have e2:(h.fl F).findN r c k=h.findN r c k:=rfl
 rw [e,e2,fl_findH];split
 ·split<;>rfl
 ·exact fl_must h F _
theorem fl_cast (h:Hp) (F:Int) (v:Va) (c:Int):(h.fl F).cast v c=(h.cast v c).fl F:=by
 unfold Hp.cast
 have e:(h.fl F).mustB (isRef v)=h.mustB (isRef v):=rfl
 have e2:(h.fl F).of v ⟨3,c⟩=h.of v ⟨3,c⟩:=rfl
 rw [e,e2];split
 ·split
  ·rfl
  ·exact fl_raise h F 3
 ·exact fl_must h F _
theorem fl_emit (h:Hp) (F:Int) (v:Va) (k:Int):(h.fl F).emit v k=(h.emit v k).fl F:=by
 unfold Hp.emit
 have e:(h.fl F).mustB (decide (v.kind=k))=h.mustB (decide (v.kind=k)):=rfl
 rw [e];split
 ·rfl
 ·exact fl_must h F _
theorem fl_input (h:Hp) (F:Int):(h.fl F).input'=h.input'.fl F:=by
 unfold Hp.input'
 have e:(h.fl F).dry=h.dry:=rfl
 rw [e];split
 ·exact fl_fin h F 3
 ·rfl
theorem fl_reckH (h:Hp) (F:Int) (a b:Va) (k op:Int):(h.fl F).reckH a b k op=(h.reckH a b k op).fl F:=by
 unfold Hp.reckH
 have e:(h.fl F).mustB (ofBoth a b k)=h.mustB (ofBoth a b k):=rfl
 rw [e];split
 ·split
  ·rfl
  ·exact fl_raise h F 2
 ·exact fl_must h F _
theorem fl_putH (h:Hp) (F:Int) (c:Cal) (v:Va):(h.fl F).putH c v=(h.putH c v).fl F:=by
 unfold Hp.putH
 have e:(h.fl F).stops=h.stops:=rfl
 rw [e];split
 ·rfl
 ·exact fl_must h F _
theorem fl_givesH (h:Hp) (F:Int) (a b:Va) (i:In):givesH (h.fl F) a b i=(givesH h a b i).fl F:=by
 unfold givesH
 have e:(h.fl F).over=h.over:=rfl
 rw [e,fl_reckH,fl_reckH,fl_must,fl_must,fl_must,fl_must,fl_new,fl_findH,fl_cast,fl_input]
 have ht:∀(p:Prop) [Decidable p] (a b:Hp),(if p then a else b).fl F=if p then a.fl F else b.fl F:=fun p _ a b=>by split<;>rfl
 simp only [ht]
theorem fl_givesV (h:Hp) (F:Int) (a b:Va) (i:In):givesV (h.fl F) a b i=givesV h a b i:=rfl
theorem fl_does (h:Hp) (F:Int) (c:Cal) (i:In):doesP (h.fl F) c i=(doesP h c i).fl F:=by
 unfold doesP
 split
 ·rfl
 split
 ·unfold ifP;dsimp only;rw [fl_must,fl_must];rfl
 split
 ·unfold ifnP;dsimp only;rw [fl_must,fl_must];rfl
 split
 ·unfold thrP;dsimp only;rw [fl_must,fl_throw]
  have e:((h.must (c.has 1)).fl F).over=(h.must (c.has 1)).over:=rfl
  rw [e];split<;>rfl
 split
 ·unfold loadP;dsimp only
  have e:(h.fl F).mustB (decide ((nth va0 c.locs i.a.toNat).kind=i.b))=h.mustB (decide ((nth va0 c.locs i.a.toNat).kind=i.b)):=rfl
  rw [e,fl_putH,fl_must];split<;>rfl
 split
 ·unfold storeP;dsimp only;rw [fl_must,fl_must];rfl
 split
 ·unfold popP;rw [fl_must];rfl
 split
 ·unfold dupP;dsimp only;rw [fl_must,fl_putH,fl_putH]
  have e:((h.must (c.has 1)).fl F).over=(h.must (c.has 1)).over:=rfl
  rw [e];split<;>rfl
 split
 ·unfold emitP;dsimp only;rw [fl_must,fl_emit]
  have e:((h.must (c.has 1)).fl F).over=(h.must (c.has 1)).over:=rfl
  rw [e];split<;>rfl
 split
 ·unfold setP;dsimp only;rw [fl_must,fl_put,fl_must]
  have e:((h.must (c.has 2)).fl F).over=(h.must (c.has 2)).over:=rfl
  have e2:((h.must (c.has 2)).fl F).mustB (isRef (nth va0 (c.top 2) 0))=(h.must (c.has 2)).mustB (isRef (nth va0 (c.top 2) 0)):=rfl
  rw [e,e2];split
  ·rfl
  ·split<;>rfl
 ·unfold givesP;dsimp only;rw [fl_must,fl_givesH,fl_givesV,fl_putH]
  have e:((givesH (h.must (c.has (manyOf i.op))) (nth va0 (c.top (manyOf i.op)) 0) (nth va0 (c.top (manyOf i.op)) 1) i).fl F).stops=(givesH (h.must (c.has (manyOf i.op))) (nth va0 (c.top (manyOf i.op)) 0) (nth va0 (c.top (manyOf i.op)) 1) i).stops:=rfl
  rw [e];split<;>rfl
theorem fl_caught (h:Hp) (F pc:Int):∀l:List Hd,(h.fl F).caughtL pc l=h.caughtL pc l
 | []=>rfl
 | x::l=>by
  unfold Hp.caughtL
  rw [fl_caught h F pc l]
  rfl
theorem fl_unw (F:Int):∀(cs:List Cal) (h:Hp),unwM (h.fl F) cs=(unwM h cs).fl F
 | [],h=>rfl
 | c::cs,h=>by
  have e1:unwM (h.fl F) (c::cs)=if (h.fl F).caughtL c.pc c.m.hands<0 then unwM (h.fl F).leave cs else if (sizP [(⟨3,h.thrown⟩:Va)]:Int)≤c.m.stack then goM { h.fl F with thrown:=-1 } ({ c with stk:=[⟨3,h.thrown⟩],pc:=(h.fl F).caughtL c.pc c.m.hands }::cs) else endM 6 va0 (h.fl F):=rfl
  have e2:unwM h (c::cs)=if h.caughtL c.pc c.m.hands<0 then unwM h.leave cs else if (sizP [(⟨3,h.thrown⟩:Va)]:Int)≤c.m.stack then goM { h with thrown:=-1 } ({ c with stk:=[⟨3,h.thrown⟩],pc:=h.caughtL c.pc c.m.hands }::cs) else endM 6 va0 h:=rfl
  rw [e1,e2,fl_caught]
  split
  ·exact fl_unw F cs h.leave
  ·split<;>rfl
theorem fl_back (h:Hp) (F:Int) (v:Va) (cs:List Cal):backM (h.fl F) v cs=(backM h v cs).fl F:=by
 cases cs with
 | nil=>rfl
 | cons c cs =>
  rw [backM,backM]
  split
  ·rfl
  ·split<;>rfl
theorem fl_step (h:Hp) (F:Int) (c:Cal) (cs:List Cal):stepM (h.fl F) c cs=(stepM h c cs).fl F:=by
 unfold stepM
 split
 ·rfl
 split
 ·unfold retM
  have e:(h.fl F).of (nth va0 (c.top 1) 0) c.m.ret=h.of (nth va0 (c.top 1) 0) c.m.ret:=rfl
  have e2:(h.fl F).leave=h.leave.fl F:=rfl
  rw [e,e2,fl_back,fl_back]
  split
  ·rfl
  ·split
   ·rfl
   ·split<;>rfl
 split
 ·unfold calM
  dsimp only
  have e0:(h.fl F).file=h.file:=rfl
  rw [e0]
  have e1:∀m:Me,(h.fl F).enterL (c.top m.params.length) m.params=h.enterL (c.top m.params.length) m.params:=fun m=>by
   generalize c.top m.params.length=l
   generalize m.params=k
   induction l generalizing k with
   | nil=>cases k<;>rfl
   | cons v l ih =>
    cases k with
    | nil=>rfl
    | cons t k=>unfold Hp.enterL;rw [ih k];rfl
  have e2:(h.fl F).deep=h.deep:=rfl
  rw [e1,e2]
  split
  ·rfl
  ·split
   ·rfl
   ·split<;>rfl
 ·rw [fl_does]
  generalize doesP h c (nth in0 c.m.code c.pc.toNat)=d
  unfold didM
  have e:(d.fl F).h.over=d.h.over:=rfl
  have e2:(d.fl F).h.thrown=d.h.thrown:=rfl
  have e3:unwM (d.fl F).h ((d.fl F).c::cs)=(unwM d.h (d.c::cs)).fl F:=fl_unw F _ d.h
  rw [e,e2,e3]
  split
  ·rfl
  ·split<;>rfl
def Ou (l:List Int) (h:Hp):Prop:=l <+: h.sh.out
theorem ou_safe (l:List Int):Safe (Ou l) :=
 ⟨fun h e _ p=>by unfold Hp.fin;split<;>exact p,fun h o p=>p,fun h t p=>p,fun h n p=>p.trans (List.prefix_append _ _),fun h p=>p⟩
def NoZ (h:Hp):Prop:=h.over=true→h.sh.fin≠0
theorem noz_safe:Safe NoZ :=
 ⟨fun h e he p=>by
   unfold Hp.fin;split
   ·exact p
   ·intro _;show e≠0;omega,
  fun h o p=>p,fun h t p=>p,fun h n p=>p,fun h p=>p⟩
theorem unw_ou (l:List Int):∀(cs:List Cal) (h:Hp),Ou l h→Ou l (unwM h cs).h
 | [],h,p=>p
 | c::cs,h,p=>by
  unfold unwM
  split
  ·exact unw_ou l cs h.leave p
  ·split<;>exact p
theorem back_ou {l:List Int} {h:Hp} (p:Ou l h) (v:Va) (cs:List Cal):Ou l (backM h v cs).h:=by
 cases cs with
 | nil=>exact p
 | cons c cs =>
  rw [backM]
  split
  ·exact p
  ·split<;>exact p
theorem step_ou {l:List Int} {h:Hp} (p:Ou l h) (c:Cal) (cs:List Cal):Ou l (stepM h c cs).h:=by
 unfold stepM
 split
 ·exact p
 split
 ·unfold retM
  split
  ·exact back_ou (h:=h.leave) p _ _
  split
  ·exact p
  split
  ·exact back_ou (h:=h.leave) p _ _
  ·exact p
 split
 ·unfold calM
  dsimp only
  split
  ·exact p
  split
  ·exact p
  split
  ·exact p
  ·exact p
 ·have q:=(ou_safe l).does p c (nth in0 c.m.code c.pc.toNat)
  unfold didM
  split
  ·exact q
  split
  ·exact unw_ou l _ _ q
  ·exact q
theorem run_ou {l:List Int}:∀(n:Nat) (h:Hp) (cs:List Cal),Ou l h→Ou l (runM n h cs).h
 | 0,h,cs,p=>p
 | n+1,h,[],p=>p
 | n+1,h,c::cs,p=>by
  have p1:Ou l h.step:=by
   unfold Hp.step
   split
   ·exact p
   ·split
    ·exact (by unfold Hp.fin;split<;>exact p)
    ·exact p
  rw [runM]
  split
  ·exact p
  split
  ·exact step_ou p1 c cs
  ·exact run_ou n _ _ (step_ou p1 c cs)
theorem run_lfM:∀(n:Nat) (h:Hp) (cs:List Cal),Lf h (runM n h cs).h
 | 0,h,cs=>Lf.refl h
 | n+1,h,[]=>Lf.refl h
 | n+1,h,c::cs=>by
  rw [runM]
  split
  ·exact Lf.refl h
  split
  ·exact (step_le h).lf.trans (step_lf _ c cs)
  ·exact ((step_le h).lf.trans (step_lf _ c cs)).trans (run_lfM n _ _)
theorem unw_how:∀(cs:List Cal) (h:Hp),(unwM h cs).fin=true→(unwM h cs).how≠0
 | [],h,_=>by show (2:Int)≠0;decide
 | c::cs,h,hf=>by
  by_cases hcl:h.caughtL c.pc c.m.hands<0
  ·have e:unwM h (c::cs)=unwM h.leave cs:=if_pos hcl
   rw [e] at hf ⊢
   exact unw_how cs h.leave hf
  ·by_cases hr:(sizP [(⟨3,h.thrown⟩:Va)]:Int)≤c.m.stack
   ·have e:unwM h (c::cs)=goM { h with thrown:=-1 } ({ c with stk:=[⟨3,h.thrown⟩],pc:=h.caughtL c.pc c.m.hands }::cs):=by
     show (if _ then _ else _)=_
     rw [if_neg hcl,if_pos hr]
    rw [e] at hf
    cases hf
   ·have e:unwM h (c::cs)=endM 6 va0 h:=by
     show (if _ then _ else _)=_
     rw [if_neg hcl,if_neg hr]
    rw [e]
    show (6:Int)≠0
    decide
theorem back_how (h:Hp) (v:Va) (cs:List Cal) (hf:(backM h v cs).fin=true):(backM h v cs).how≠0:=by
 cases cs with
 | nil=>show (1:Int)≠0;decide
 | cons c cs =>
  rw [backM] at hf ⊢
  split
  ·rename_i h1;rw [if_pos h1] at hf;cases hf
  ·rename_i h1
   rw [if_neg h1] at hf
   split
   ·rename_i h2;rw [if_pos h2] at hf;cases hf
   ·show (6:Int)≠0;decide
theorem step_how {h:Hp} (ho:h.over=false) (c:Cal) (cs:List Cal) (hf:(stepM h c cs).fin=true):(stepM h c cs).how≠0:=by
 have h6:∀h:Hp,(endM 6 va0 h).how≠0:=fun h=>by show (6:Int)≠0;decide
 unfold stepM at hf ⊢
 by_cases hlt:¬c.pc<c.m.code.length
 ·rw [if_pos hlt];exact h6 h
 rw [if_neg hlt] at hf ⊢
 generalize hin:nth in0 c.m.code c.pc.toNat=i at *
 by_cases h20:i.op=20
 ·rw [if_pos h20] at hf ⊢
  unfold retM at hf ⊢
  by_cases hr0:c.m.ret.kind=0
  ·rw [if_pos hr0] at hf ⊢;exact back_how _ _ _ hf
  rw [if_neg hr0] at hf ⊢
  by_cases hh:c.has 1=false
  ·rw [if_pos hh];exact h6 h
  rw [if_neg hh] at hf ⊢
  by_cases hof:h.of (nth va0 (c.top 1) 0) c.m.ret=true
  ·rw [if_pos hof] at hf ⊢;exact back_how _ _ _ hf
  ·rw [if_neg hof];exact h6 h
 rw [if_neg h20] at hf ⊢
 by_cases h19:i.op=19
 ·rw [if_pos h19] at hf ⊢
  unfold calM at hf ⊢
  dsimp only at hf ⊢
  generalize nth me0 h.file.methods i.a.toNat=m at *
  by_cases hh:c.has m.params.length=false
  ·rw [if_pos hh];exact h6 h
  rw [if_neg hh] at hf ⊢
  by_cases he:h.enterL (c.top m.params.length) m.params=false
  ·rw [if_pos he];exact h6 h
  rw [if_neg he] at hf ⊢
  by_cases hd:h.deep=true
  ·rw [if_pos hd];show (5:Int)≠0;decide
  rw [if_neg hd] at hf
  cases hf
 ·rw [if_neg h19] at hf ⊢
  have q:NoZ (doesP h c i).h:=noz_safe.does (fun e=>by rw [ho] at e;cases e) c i
  generalize doesP h c i=d at *
  unfold didM at hf ⊢
  by_cases hov:d.h.over=true
  ·rw [if_pos hov];exact q hov
  rw [if_neg hov] at hf ⊢
  by_cases hthr:0≤d.h.thrown
  ·rw [if_pos hthr] at hf ⊢;exact unw_how _ _ hf
  ·rw [if_neg hthr] at hf;cases hf
structure Lon (a b:Sh) (few:Int):Prop where
 stop:a.fin=0→a.steps=few∧few≤b.steps∧a.out <+: b.out
 same:a.fin≠0→a=b
theorem finS_fl (o:Mo) (F:Int):finS (o.fl F)=finS o:=rfl
theorem finS_sh (o:Mo):(finS o).steps=o.h.sh.steps∧(finS o).out=o.h.sh.out∧(finS o).fin=o.how:=by
 unfold finS
 split
 ·rename_i h;exact ⟨rfl,rfl,h.symm⟩
 ·exact ⟨rfl,rfl,rfl⟩
theorem fl_stepB (h:Hp) (F:Int):(h.fl F).stepB=(!h.over&&decide (h.sh.steps<F)):=rfl
theorem fl_stepH {h:Hp} {F G:Int} (hF:(h.fl F).stepB=true) (hG:(h.fl G).stepB=true):(h.fl G).step=((h.fl F).step).fl G:=by
 rw [fl_stepB,Bool.and_eq_true] at hF hG
 have h0:h.over=false:=by simpa using hF.1
 have h1:h.sh.steps<F:=of_decide_eq_true hF.2
 have h2:h.sh.steps<G:=of_decide_eq_true hG.2
 unfold Hp.step
 have e1:(h.fl G).over=false:=h0
 have e2:(h.fl F).over=false:=h0
 have e3:¬(h.fl G).fuel≤(h.fl G).sh.steps:=by show ¬G≤h.sh.steps;omega
 have e4:¬(h.fl F).fuel≤(h.fl F).sh.steps:=by show ¬F≤h.sh.steps;omega
 rw [if_neg (by rw [e1];decide),if_neg e3,if_neg (by rw [e2];decide),if_neg e4]
 rfl
theorem run_longer {f:Fi} {inp:List Int} (F G:Int) (hFG:F≤G):∀(n m:Nat) (h:Hp) (cs:List Cal),IM f inp (h.fl F) cs→Enough n (h.fl F)→Enough m (h.fl G)→Lon (finS (runM n (h.fl F) cs)) (finS (runM m (h.fl G) cs)) F
 | n,m,h,[],im,_,_=>by obtain ⟨c,cs,e,-⟩:=im.ex;cases e
 | n,m,h,c::cs,im,en,em=>by
  obtain ⟨c',cs',e,gc,hp0,hp1,hI⟩:=im.ex
  simp only [List.cons.injEq] at e
  obtain ⟨rfl,rfl⟩:=e
  cases hb:(h.fl F).stepB with
  | false =>
   have h0:h.over=false:=im.over
   have hst:h.sh.steps=F:=by
    have h1:h.sh.steps≤F:=im.gh.steps
    rw [fl_stepB,h0] at hb
    simp at hb
    omega
   have e1:runM n (h.fl F) (c::cs)=endM 0 va0 (h.fl F):=by
    cases n with
    | zero=>rfl
    | succ n=>rw [runM,if_pos hb]
   have hl:=run_lfM m (h.fl G) (c::cs)
   have ho:=run_ou (l:=h.sh.out) m (h.fl G) (c::cs) (List.prefix_refl _)
   obtain ⟨s1,s2,s3⟩:=finS_sh (runM m (h.fl G) (c::cs))
   rw [e1]
   refine ⟨fun _=>⟨hst,?_,?_⟩,fun hn=>absurd rfl hn⟩
   ·rw [s1]
    have:h.sh.steps≤(runM m (h.fl G) (c::cs)).h.sh.steps:=hl.steps
    omega
   ·rw [s2]
    exact ho
  | true =>
   have hbF:=hb
   have hlt:h.sh.steps<F:=by
    rw [fl_stepB] at hb
    simp at hb
    exact hb.2
   have hbG:(h.fl G).stepB=true:=by
    have h0:h.over=false:=im.over
    rw [fl_stepB,h0]
    simp
    omega
   cases n with
   | zero=>rw [stepB_no (k:=0) en] at hb;cases hb
   | succ n =>
    cases m with
    | zero=>rw [stepB_no (k:=0) em] at hbG;cases hbG
    | succ m =>
     obtain ⟨q1,q2,q3,q4,q5,q6⟩:=stepB_steps hbF
     have sl:=step_le (h.fl F)
     have en1:=(step_lf (h.fl F).step c cs).enough (enough_step en hbF)
     have em1:=(step_lf (h.fl G).step c cs).enough (enough_step em hbG)
     have es:=fl_step (h.fl F).step G c cs
     rw [←fl_stepH hbF hbG] at es
     have hfu:(stepM (h.fl F).step c cs).h.fuel=F:=(step_lf (h.fl F).step c cs).fuel.trans q2
     have hff:(stepM (h.fl F).step c cs).h.fl F=(stepM (h.fl F).step c cs).h:=by
      have:∀x:Hp,x.fuel=F→x.fl F=x:=fun x hx=>by subst hx;rfl
      exact this _ hfu
     have nF:¬(h.fl F).stepB=false:=by rw [hbF];decide
     have nG:¬(h.fl G).stepB=false:=by rw [hbG];decide
     rw [runM,runM,if_neg nF,if_neg nG,es]
     by_cases hfin:(stepM (h.fl F).step c cs).fin=true
     ·have hfin2:((stepM (h.fl F).step c cs).fl G).fin=true:=hfin
      rw [if_pos hfin,if_pos hfin2,finS_fl]
      refine ⟨fun h0=>?_,fun _=>rfl⟩
      rw [(finS_sh _).2.2] at h0
      exact absurd h0 (step_how q3 c cs hfin)
     ·have hfin2:¬((stepM (h.fl F).step c cs).fl G).fin=true:=hfin
      rw [if_neg hfin,if_neg hfin2]
      have im1:=step_inv (q5.trans im.file) (sl.input.trans im.input) im.may (im.gh.step hbF) q3 (q4.trans im.thr) (q6.trans im.calls) (gc.le sl) ⟨hp0,hp1⟩ (hI.le sl) (by simpa using hfin)
      rw [es] at em1
      have:=run_longer F G hFG n m (stepM (h.fl F).step c cs).h (stepM (h.fl F).step c cs).cs (by rw [hff];exact im1) (by rw [hff];exact en1) em1
      rw [hff] at this
      exact this
theorem ret_int {x y:Int} (h:x=y):Ending.returned (.int .i64 x)=.returned (.int .i64 y):=by rw [h]
theorem ret_bool {x y:Bool} (h:x=y):Ending.returned (.bool x)=.returned (.bool y):=by rw [h]
theorem rtype_any (A:Option Addr) (n c:Nat) (k x:Int) (w:World) :
  Calls Try.prog 43 #[.slice A n c,.agg #[.int .i64 k,.int .i64 x]] w fun e w'=>e=.returned (.bool (tyB n ⟨k,x⟩))∧Bl w w':=by
 by_cases h3:k=3
 ·subst h3
  go_enter Try.func43,Try.ntmps43
  go_wp2
  all_goals
   go_ret
   refine ⟨ret_bool ?_,(Bl.refl _).alloc _⟩
   unfold tyB
   rw [Bool.eq_iff_iff];simp;omega
 ·go_enter Try.func43,Try.ntmps43
  go_wp2
  all_goals
   go_ret
   refine ⟨ret_bool ?_,(Bl.refl _).alloc _⟩
   unfold tyB
   rw [Bool.eq_iff_iff];simp;omega
theorem rmay_any (A : Option Addr) (c : Nat) (l : List Cl) (w : World) (hl : ClsAt w A l) :
    Calls Try.prog 24 #[.slice A l.length c] w fun e w' => e = .returned (.bool (mayB l)) ∧ Bl w w' := by
  obtain ⟨hm, hl⟩ := hl
  unfold maxLen at hm
  by_cases h4 : l.length < 4
  · have hb := may_few (Or.inl h4)
    rw [hb]
    clear hb hl
    go_enter Try.func24, Try.ntmps24
    go_wp2
    go_ret
    exact ⟨rfl, Bl.refl _⟩
  by_cases h12 : 12 < l.length
  · have hb := may_few (Or.inr (Or.inl h12))
    rw [hb]
    clear hb hl
    go_enter Try.func24, Try.ntmps24
    go_wp2
    go_ret
    exact ⟨rfl, Bl.refl _⟩
  rcases hl with hl | ⟨b, off, rfl, hc⟩
  · omega
  have hs0 := (hc 0 (by omega)).1
  rw [Nat.zero_mul, Nat.add_zero] at hs0
  by_cases h0 : (nth cl0 l 0).super = -1
  · rw [h0] at hs0
    have HB : Hid ((∀ i, i < l.length → clB l i = true) → mayB l = true) := fun h => may_good ⟨by omega, by omega, h0⟩ h
    go_enter Try.func24, Try.ntmps24
    go_wp2
    go_loopw [4] (fun i wr => ∃ k : Nat, k ≤ l.length ∧ i = .int .i64 k ∧ Hid (∀ j, j < k → clB l j = true) ∧ Hid (Bl w wr)) (fun i _ => l.length - (intOf i).toNat)
    case atStart => exact ⟨0, Nat.zero_le _, rfl, fun j hj => absurd hj (Nat.not_lt_zero _), Bl.refl _⟩
    case round =>
      obtain ⟨k, hk, rfl, hgood, hg⟩ := hrel
      clear hs0 h0
      by_cases hlt : k < l.length
      · obtain ⟨hsup, hsb, A', c', hfl, hty⟩ := hc k hlt
        replace hsup := Bl.cell hg.out hsup
        replace hfl := Bl.cell hg.out hfl
        replace hty := TysAt.bl hg.out hty
        have HBAD : Hid (¬ ((k = 0 ∨ (0 ≤ (nth cl0 l k).super ∧ (nth cl0 l k).super < k)) ∧ (nth cl0 l k).fields.length ≤ 6) → mayB l = false) := fun h => may_cl hlt (cl_bad h)
        have HTY : Hid (∀ q, q < (nth cl0 l k).fields.length → tyB l.length (nth ty0 (nth cl0 l k).fields q) = false → mayB l = false) := fun q hq h => may_cl hlt (cl_ty hq h)
        have HOK : Hid (((k = 0 ∨ (0 ≤ (nth cl0 l k).super ∧ (nth cl0 l k).super < k)) ∧ (nth cl0 l k).fields.length ≤ 6) → (∀ q, q < (nth cl0 l k).fields.length → tyB l.length (nth ty0 (nth cl0 l k).fields q) = true) → clB l k = true) := cl_good
        clear hc HB
        obtain ⟨hfm, hty⟩ := hty
        unfold maxLen at hfm
        generalize hS : (nth cl0 l k).super = S at *
        generalize hF : (nth cl0 l k).fields = F at *
        clear hS hF
        go_wp2
        all_goals first
          | (go_ret; exact ⟨ret_bool (HBAD.out (by omega)).symm, hg.out⟩)
          | skip
        all_goals
          have HK : Hid ((∀ q, q < F.length → tyB l.length (nth ty0 F q) = true) → clB l k = true) := HOK.out (by omega)
          go_loopw [5] (fun i wr => ∃ q : Nat, q ≤ F.length ∧ i = .int .i64 q ∧ Hid (∀ j, j < q → tyB l.length (nth ty0 F j) = true) ∧ Hid (Bl w wr) ∧ wr.cell? ⟨b, off + k * 2 + 1, none⟩ = some (.slice A' F.length c') ∧ Hid (TysAt wr A' F)) (fun i _ => F.length - (intOf i).toNat)
          case atStart => exact ⟨0, Nat.zero_le _, rfl, fun j hj => absurd hj (Nat.not_lt_zero _), hg, hfl, ⟨hfm, hty⟩⟩
          case round =>
            clear hsup hfl hty hg
            obtain ⟨q, hq, rfl, hgq, hg, hfl, hty⟩ := hrel
            by_cases hql : q < F.length
            · rcases hty.out.2 with h0 | ⟨b', off', rfl, hcell⟩
              · omega
              obtain ⟨ht1, ht2, -, -⟩ := hcell q hql
              clear hcell
              cases hT : tyB l.length (nth ty0 F q)
              · have hT' : tyB l.length ⟨(nth ty0 F q).kind, (nth ty0 F q).cls⟩ = false := hT
                have HF := HTY.out q hql hT
                clear HTY hT
                go_wp2_with (go_at_call 43; refine (rtype_any _ _ _ _ _ _).mono ?_; rintro e w1 ⟨rfl, hg1⟩)
                go_ret
                exact ⟨ret_bool HF.symm, Bl.trans hg.out hg1⟩
              · have hT' : tyB l.length ⟨(nth ty0 F q).kind, (nth ty0 F q).cls⟩ = true := hT
                have HT : Hid (tyB l.length (nth ty0 F q) = true) := hT
                clear hT
                go_wp2_with (go_at_call 43; refine (rtype_any _ _ _ _ _ _).mono ?_; rintro e w1 ⟨rfl, hg1⟩)
                go_roundw
                case rel => exact ⟨q + 1, by omega, by go_num, fun j hj => if h : j < q then hgq.out j h else by have : j = q := by omega
                                                                                                                 subst this; exact HT.out, Bl.trans hg.out hg1, Bl.cell hg1 hfl, TysAt.bl hg1 hty.out⟩
                case measure => simp [intOf]; omega
            · have hkk : q = F.length := by omega
              subst hkk
              have HKK : Hid (clB l k = true) := HK.out hgq.out
              go_wp2
              go_roundw
              case rel => exact ⟨k + 1, by omega, by go_num, fun j hj => if h : j < k then hgood.out j h else by have : j = k := by omega
                                                                                                                 subst this; exact HKK.out, hg⟩
              case measure => simp [intOf]; omega
      · have hkk : k = l.length := by omega
        subst hkk
        have HBB := HB.out hgood.out
        clear HB hc
        go_wp2
        go_ret
        exact ⟨ret_bool HBB.symm, hg.out⟩
  · have hb := may_few (Or.inr (Or.inr h0))
    rw [hb]
    clear hb hc
    have h0' : ((nth cl0 l 0).super != -1) = true := by simpa using h0
    go_enter Try.func24, Try.ntmps24
    go_wp2
    go_ret
    exact ⟨rfl, Bl.refl _⟩
abbrev stopE (how k n:Int):Ending:=.panicked [{ v:=.iface 112 (.agg #[.int .i64 how,.int .i64 k,.int .i64 n]),recovered:=false }]
abbrev mvV (v:Va):Value:=.agg #[.int .i64 v.kind,.int .i64 v.n]
theorem info_mv:(Try.prog.info? 110).map (·.size)=some 2:=by kernel_rfl
theorem mblk {w:World} {b:Nat} {cs:Array Value} {t:TypeId} (hb:b=w.heap.size):(w.alloc (.cells cs t)).heap[b]?=some (.cells cs t (0,0)):=by
 subst hb
 show (w.heap.push _)[w.heap.size]?=_
 simp
theorem mend_any (how:Int) (w:World):Calls Try.prog 97 #[.int .i64 how] w fun e w'=>e=stopE how 0 0∧w'=w:=by
 go_enter Try.func97,Try.ntmps97
 go_wp2
 exact ⟨rfl,rfl,rfl⟩
theorem mstuck_any (w:World):Calls Try.prog 86 #[] w fun e w'=>e=stopE 6 0 0∧w'=w:=by
 go_enter Try.func86,Try.ntmps86
 go_wp2_with (go_at_call 97;refine (mend_any 6 _).mono ?_;rintro e w1 ⟨rfl,hw⟩;rw [hw];clear hw w1)
 exact ⟨rfl,rfl,rfl⟩
theorem mustbe_yes (v:Va) (k:Int) (w:World) (h:v.kind=k):Calls Try.prog 111 #[mvV v,.int .i64 k] w fun e w'=>e=.returned (mvV v)∧Bl w w':=by
 subst h
 go_enter Try.func111,Try.ntmps111
 go_wp2
 refine bodyPost_ret (results_cell_row rfl _ _ (w.heap.size+1) _ _ _ _ rfl (mblk (by simp)) Try.underlying110 rfl info_mv) rfl ?_
 exact ⟨rfl,((Bl.refl w).alloc _).alloc _⟩
theorem mustbe_no (v:Va) (k:Int) (w:World) (h:v.kind≠k):Calls Try.prog 111 #[mvV v,.int .i64 k] w fun e w'=>e=stopE 6 0 0∧Bl w w':=by
 have hz:(v.kind !=k)=true:=by simpa using h
 go_enter Try.func111,Try.ntmps111
 go_wp2_with (go_at_call 86;refine (mstuck_any _).mono ?_;rintro e w1 ⟨rfl,hw⟩;rw [hw];clear hw w1)
 exact ⟨rfl,rfl,((Bl.refl w).alloc _).alloc _⟩
end Go.Proofs.Ytimjmdfokicbkaa
