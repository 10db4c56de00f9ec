import Derived.Test.YtgiiapenmjollaaSlac
import Derived.Test.YtgiiapenmjollaaChecked
import Derived.Handy
import Derived.WalkLawsBesides
import Derived.WalkKit
import Derived.RowKit3
import Derived.Below
import Derived.OwnWalk
import Derived.Laws.OwnMore
import Derived.Deep.Draws
import Derived.Deep.AppendLies
import Derived.Maps.OwnSet
import Derived.DeepKeys4
namespace Go.Proofs.Ytgiiapenmjollaa
set_option linter.all false
set_option maxHeartbeats 40000000
open Go.RowKit
def Hp.fl (h:Hp) (F:Int):Hp:={ h with fuel:=F }
def Mo.fl (o:Mo) (F:Int):Mo:={ o with h:=o.h.fl F }
def Did.fl (d:Did) (F:Int):Did:={ d with h:=d.h.fl F }
theorem fl_fin (h:Hp) (F e:Int):(h.fl F).fin e=(h.fin e).fl F:=by unfold Hp.fin Hp.fl;dsimp only;split<;>rfl
theorem fl_must (h:Hp) (F:Int) (b:Bool):(h.fl F).must b=(h.must b).fl F:=by
 unfold Hp.must;split
 ·rfl
 ·exact fl_fin h F 6
theorem fl_new (h:Hp) (F c:Int):(h.fl F).new c=(h.new c).fl F:=by
 unfold Hp.new
 have e:(h.fl F).full=h.full:=rfl
 rw [e];split
 ·exact fl_fin h F 4
 ·rfl
theorem fl_raise (h:Hp) (F c:Int):(h.fl F).raise c=(h.raise c).fl F:=by
 unfold Hp.raise
 rw [fl_new]
 have e:((h.new c).fl F).over=(h.new c).over:=rfl
 rw [e];split<;>rfl
theorem fl_throw (h:Hp) (F:Int) (v:Va):(h.fl F).throw v=(h.throw v).fl F:=by
 unfold Hp.throw
 have e:(h.fl F).mustB (isRef v)=h.mustB (isRef v):=rfl
 rw [e];split
 ·split
  ·exact fl_raise h F 1
  ·rfl
 ·exact fl_must h F _
theorem fl_findH (h:Hp) (F:Int) (r:Va) (c:Int):(h.fl F).findH r c=(h.findH r c).fl F:=by
 unfold Hp.findH
 have e:(h.fl F).mustB ((h.fl F).of r ⟨3,c⟩)=h.mustB (h.of r ⟨3,c⟩):=rfl
 rw [e];split
 ·split
  ·exact fl_raise h F 1
  ·rfl
 ·exact fl_must h F _
theorem fl_put (h:Hp) (F:Int) (r:Va) (c k:Int) (v:Va):(h.fl F).put r c k v=(h.put r c k v).fl F:=by
 unfold Hp.put
 have e:(h.fl F).mustB ((h.fl F).of v (fieldT (h.fl F).file.classes c k))=h.mustB (h.of v (fieldT h.file.classes c k)):=rfl
 have e2:(h.fl F).findN r c k=h.findN r c k:=rfl
 rw [e,e2,fl_findH];split
 ·split<;>rfl
 ·exact fl_must h F _
theorem fl_cast (h:Hp) (F:Int) (v:Va) (c:Int):(h.fl F).cast v c=(h.cast v c).fl F:=by
 unfold Hp.cast
 have e:(h.fl F).mustB (isRef v)=h.mustB (isRef v):=rfl
 have e2:(h.fl F).of v ⟨3,c⟩=h.of v ⟨3,c⟩:=rfl
 rw [e,e2];split
 ·split
  ·rfl
  ·exact fl_raise h F 3
 ·exact fl_must h F _
theorem fl_emit (h:Hp) (F:Int) (v:Va) (k:Int):(h.fl F).emit v k=(h.emit v k).fl F:=by
 unfold Hp.emit
 have e:(h.fl F).mustB (decide (v.kind=k))=h.mustB (decide (v.kind=k)):=rfl
 rw [e];split
 ·rfl
 ·exact fl_must h F _
theorem fl_input (h:Hp) (F:Int):(h.fl F).input'=h.input'.fl F:=by
 unfold Hp.input'
 have e:(h.fl F).dry=h.dry:=rfl
 rw [e];split
 ·exact fl_fin h F 3
 ·rfl
theorem fl_reckH (h:Hp) (F:Int) (a b:Va) (k op:Int):(h.fl F).reckH a b k op=(h.reckH a b k op).fl F:=by
 unfold Hp.reckH
 have e:(h.fl F).mustB (ofBoth a b k)=h.mustB (ofBoth a b k):=rfl
 rw [e];split
 ·split
  ·rfl
  ·exact fl_raise h F 2
 ·exact fl_must h F _
theorem fl_putH (h:Hp) (F:Int) (c:Cal) (v:Va):(h.fl F).putH c v=(h.putH c v).fl F:=by
 unfold Hp.putH
 have e:(h.fl F).stops=h.stops:=rfl
 rw [e];split
 ·rfl
 ·exact fl_must h F _
theorem fl_givesH (h:Hp) (F:Int) (a b:Va) (i:In):givesH (h.fl F) a b i=(givesH h a b i).fl F:=by
 unfold givesH
 have e:(h.fl F).over=h.over:=rfl
 rw [e,fl_reckH,fl_reckH,fl_must,fl_must,fl_must,fl_must,fl_new,fl_findH,fl_cast,fl_input]
 have ht:∀(p:Prop) [Decidable p] (a b:Hp),(if p then a else b).fl F=if p then a.fl F else b.fl F:=fun p _ a b=>by split<;>rfl
 simp only [ht]
theorem fl_givesV (h:Hp) (F:Int) (a b:Va) (i:In):givesV (h.fl F) a b i=givesV h a b i:=rfl
theorem fl_does (h:Hp) (F:Int) (c:Cal) (i:In):doesP (h.fl F) c i=(doesP h c i).fl F:=by
 unfold doesP
 split
 ·rfl
 split
 ·unfold ifP;dsimp only;rw [fl_must,fl_must];rfl
 split
 ·unfold ifnP;dsimp only;rw [fl_must,fl_must];rfl
 split
 ·unfold thrP;dsimp only;rw [fl_must,fl_throw]
  have e:((h.must (c.has 1)).fl F).over=(h.must (c.has 1)).over:=rfl
  rw [e];split<;>rfl
 split
 ·unfold loadP;dsimp only
  have e:(h.fl F).mustB (decide ((nth va0 c.locs i.a.toNat).kind=i.b))=h.mustB (decide ((nth va0 c.locs i.a.toNat).kind=i.b)):=rfl
  rw [e,fl_putH,fl_must];split<;>rfl
 split
 ·unfold storeP;dsimp only;rw [fl_must,fl_must];rfl
 split
 ·unfold popP;rw [fl_must];rfl
 split
 ·unfold dupP;dsimp only;rw [fl_must,fl_putH,fl_putH]
  have e:((h.must (c.has 1)).fl F).over=(h.must (c.has 1)).over:=rfl
  rw [e];split<;>rfl
 split
 ·unfold emitP;dsimp only;rw [fl_must,fl_emit]
  have e:((h.must (c.has 1)).fl F).over=(h.must (c.has 1)).over:=rfl
  rw [e];split<;>rfl
 split
 ·unfold setP;dsimp only;rw [fl_must,fl_put,fl_must]
  have e:((h.must (c.has 2)).fl F).over=(h.must (c.has 2)).over:=rfl
  have e2:((h.must (c.has 2)).fl F).mustB (isRef (nth va0 (c.top 2) 0))=(h.must (c.has 2)).mustB (isRef (nth va0 (c.top 2) 0)):=rfl
  rw [e,e2];split
  ·rfl
  ·split<;>rfl
 ·unfold givesP;dsimp only;rw [fl_must,fl_givesH,fl_givesV,fl_putH]
  have e:((givesH (h.must (c.has (manyOf i.op))) (nth va0 (c.top (manyOf i.op)) 0) (nth va0 (c.top (manyOf i.op)) 1) i).fl F).stops=(givesH (h.must (c.has (manyOf i.op))) (nth va0 (c.top (manyOf i.op)) 0) (nth va0 (c.top (manyOf i.op)) 1) i).stops:=rfl
  rw [e];split<;>rfl
theorem fl_caught (h:Hp) (F pc:Int):∀l:List Hd,(h.fl F).caughtL pc l=h.caughtL pc l
 | []=>rfl
 | x::l=>by
  unfold Hp.caughtL
  rw [fl_caught h F pc l]
  rfl
theorem fl_unw (F:Int):∀(cs:List Cal) (h:Hp),unwM (h.fl F) cs=(unwM h cs).fl F
 | [],h=>rfl
 | c::cs,h=>by
  have e1:unwM (h.fl F) (c::cs)=if (h.fl F).caughtL c.pc c.m.hands<0 then unwM (h.fl F).leave cs else if (sizP [(⟨3,h.thrown⟩:Va)]:Int)≤c.m.stack then goM { h.fl F with thrown:=-1 } ({ c with stk:=[⟨3,h.thrown⟩],pc:=(h.fl F).caughtL c.pc c.m.hands }::cs) else endM 6 va0 (h.fl F):=rfl
  have e2:unwM h (c::cs)=if h.caughtL c.pc c.m.hands<0 then unwM h.leave cs else if (sizP [(⟨3,h.thrown⟩:Va)]:Int)≤c.m.stack then goM { h with thrown:=-1 } ({ c with stk:=[⟨3,h.thrown⟩],pc:=h.caughtL c.pc c.m.hands }::cs) else endM 6 va0 h:=rfl
  rw [e1,e2,fl_caught]
  split
  ·exact fl_unw F cs h.leave
  ·split<;>rfl
theorem fl_back (h:Hp) (F:Int) (v:Va) (cs:List Cal):backM (h.fl F) v cs=(backM h v cs).fl F:=by
 cases cs with
 | nil=>rfl
 | cons c cs =>
  rw [backM,backM]
  split
  ·rfl
  ·split<;>rfl
theorem fl_step (h:Hp) (F:Int) (c:Cal) (cs:List Cal):stepM (h.fl F) c cs=(stepM h c cs).fl F:=by
 unfold stepM
 split
 ·rfl
 split
 ·unfold retM
  have e:(h.fl F).of (nth va0 (c.top 1) 0) c.m.ret=h.of (nth va0 (c.top 1) 0) c.m.ret:=rfl
  have e2:(h.fl F).leave=h.leave.fl F:=rfl
  rw [e,e2,fl_back,fl_back]
  split
  ·rfl
  ·split
   ·rfl
   ·split<;>rfl
 split
 ·unfold calM
  dsimp only
  have e0:(h.fl F).file=h.file:=rfl
  rw [e0]
  have e1:∀m:Me,(h.fl F).enterL (c.top m.params.length) m.params=h.enterL (c.top m.params.length) m.params:=fun m=>by
   generalize c.top m.params.length=l
   generalize m.params=k
   induction l generalizing k with
   | nil=>cases k<;>rfl
   | cons v l ih =>
    cases k with
    | nil=>rfl
    | cons t k=>unfold Hp.enterL;rw [ih k];rfl
  have e2:(h.fl F).deep=h.deep:=rfl
  rw [e1,e2]
  split
  ·rfl
  ·split
   ·rfl
   ·split<;>rfl
 ·rw [fl_does]
  generalize doesP h c (nth in0 c.m.code c.pc.toNat)=d
  unfold didM
  have e:(d.fl F).h.over=d.h.over:=rfl
  have e2:(d.fl F).h.thrown=d.h.thrown:=rfl
  have e3:unwM (d.fl F).h ((d.fl F).c::cs)=(unwM d.h (d.c::cs)).fl F:=fl_unw F _ d.h
  rw [e,e2,e3]
  split
  ·rfl
  ·split<;>rfl
def Ou (l:List Int) (h:Hp):Prop:=l <+: h.sh.out
theorem ou_safe (l:List Int):Safe (Ou l) :=
 ⟨fun h e _ p=>by unfold Hp.fin;split<;>exact p,fun h o p=>p,fun h t p=>p,fun h n p=>p.trans (List.prefix_append _ _),fun h p=>p⟩
def NoZ (h:Hp):Prop:=h.over=true→h.sh.fin≠0
theorem noz_safe:Safe NoZ :=
 ⟨fun h e he p=>by
   unfold Hp.fin;split
   ·exact p
   ·intro _;show e≠0;omega,
  fun h o p=>p,fun h t p=>p,fun h n p=>p,fun h p=>p⟩
theorem unw_ou (l:List Int):∀(cs:List Cal) (h:Hp),Ou l h→Ou l (unwM h cs).h
 | [],h,p=>p
 | c::cs,h,p=>by
  unfold unwM
  split
  ·exact unw_ou l cs h.leave p
  ·split<;>exact p
theorem back_ou {l:List Int} {h:Hp} (p:Ou l h) (v:Va) (cs:List Cal):Ou l (backM h v cs).h:=by
 cases cs with
 | nil=>exact p
 | cons c cs =>
  rw [backM]
  split
  ·exact p
  ·split<;>exact p
theorem step_ou {l:List Int} {h:Hp} (p:Ou l h) (c:Cal) (cs:List Cal):Ou l (stepM h c cs).h:=by
 unfold stepM
 split
 ·exact p
 split
 ·unfold retM
  split
  ·exact back_ou (h:=h.leave) p _ _
  split
  ·exact p
  split
  ·exact back_ou (h:=h.leave) p _ _
  ·exact p
 split
 ·unfold calM
  dsimp only
  split
  ·exact p
  split
  ·exact p
  split
  ·exact p
  ·exact p
 ·have q:=(ou_safe l).does p c (nth in0 c.m.code c.pc.toNat)
  unfold didM
  split
  ·exact q
  split
  ·exact unw_ou l _ _ q
  ·exact q
theorem run_ou {l:List Int}:∀(n:Nat) (h:Hp) (cs:List Cal),Ou l h→Ou l (runM n h cs).h
 | 0,h,cs,p=>p
 | n+1,h,[],p=>p
 | n+1,h,c::cs,p=>by
  have p1:Ou l h.step:=by
   unfold Hp.step
   split
   ·exact p
   ·split
    ·exact (by unfold Hp.fin;split<;>exact p)
    ·exact p
  rw [runM]
  split
  ·exact p
  split
  ·exact step_ou p1 c cs
  ·exact run_ou n _ _ (step_ou p1 c cs)
theorem run_lfM:∀(n:Nat) (h:Hp) (cs:List Cal),Lf h (runM n h cs).h
 | 0,h,cs=>Lf.refl h
 | n+1,h,[]=>Lf.refl h
 | n+1,h,c::cs=>by
  rw [runM]
  split
  ·exact Lf.refl h
  split
  ·exact (step_le h).lf.trans (step_lf _ c cs)
  ·exact ((step_le h).lf.trans (step_lf _ c cs)).trans (run_lfM n _ _)
theorem unw_how:∀(cs:List Cal) (h:Hp),(unwM h cs).fin=true→(unwM h cs).how≠0
 | [],h,_=>by show (2:Int)≠0;decide
 | c::cs,h,hf=>by
  by_cases hcl:h.caughtL c.pc c.m.hands<0
  ·have e:unwM h (c::cs)=unwM h.leave cs:=if_pos hcl
   rw [e] at hf ⊢
   exact unw_how cs h.leave hf
  ·by_cases hr:(sizP [(⟨3,h.thrown⟩:Va)]:Int)≤c.m.stack
   ·have e:unwM h (c::cs)=goM { h with thrown:=-1 } ({ c with stk:=[⟨3,h.thrown⟩],pc:=h.caughtL c.pc c.m.hands }::cs):=by
     show (if _ then _ else _)=_
     rw [if_neg hcl,if_pos hr]
    rw [e] at hf
    cases hf
   ·have e:unwM h (c::cs)=endM 6 va0 h:=by
     show (if _ then _ else _)=_
     rw [if_neg hcl,if_neg hr]
    rw [e]
    show (6:Int)≠0
    decide
theorem back_how (h:Hp) (v:Va) (cs:List Cal) (hf:(backM h v cs).fin=true):(backM h v cs).how≠0:=by
 cases cs with
 | nil=>show (1:Int)≠0;decide
 | cons c cs =>
  rw [backM] at hf ⊢
  split
  ·rename_i h1;rw [if_pos h1] at hf;cases hf
  ·rename_i h1
   rw [if_neg h1] at hf
   split
   ·rename_i h2;rw [if_pos h2] at hf;cases hf
   ·show (6:Int)≠0;decide
theorem step_how {h:Hp} (ho:h.over=false) (c:Cal) (cs:List Cal) (hf:(stepM h c cs).fin=true):(stepM h c cs).how≠0:=by
 have h6:∀h:Hp,(endM 6 va0 h).how≠0:=fun h=>by show (6:Int)≠0;decide
 unfold stepM at hf ⊢
 by_cases hlt:¬c.pc<c.m.code.length
 ·rw [if_pos hlt];exact h6 h
 rw [if_neg hlt] at hf ⊢
 generalize hin:nth in0 c.m.code c.pc.toNat=i at *
 by_cases h20:i.op=20
 ·rw [if_pos h20] at hf ⊢
  unfold retM at hf ⊢
  by_cases hr0:c.m.ret.kind=0
  ·rw [if_pos hr0] at hf ⊢;exact back_how _ _ _ hf
  rw [if_neg hr0] at hf ⊢
  by_cases hh:c.has 1=false
  ·rw [if_pos hh];exact h6 h
  rw [if_neg hh] at hf ⊢
  by_cases hof:h.of (nth va0 (c.top 1) 0) c.m.ret=true
  ·rw [if_pos hof] at hf ⊢;exact back_how _ _ _ hf
  ·rw [if_neg hof];exact h6 h
 rw [if_neg h20] at hf ⊢
 by_cases h19:i.op=19
 ·rw [if_pos h19] at hf ⊢
  unfold calM at hf ⊢
  dsimp only at hf ⊢
  generalize nth me0 h.file.methods i.a.toNat=m at *
  by_cases hh:c.has m.params.length=false
  ·rw [if_pos hh];exact h6 h
  rw [if_neg hh] at hf ⊢
  by_cases he:h.enterL (c.top m.params.length) m.params=false
  ·rw [if_pos he];exact h6 h
  rw [if_neg he] at hf ⊢
  by_cases hd:h.deep=true
  ·rw [if_pos hd];show (5:Int)≠0;decide
  rw [if_neg hd] at hf
  cases hf
 ·rw [if_neg h19] at hf ⊢
  have q:NoZ (doesP h c i).h:=noz_safe.does (fun e=>by rw [ho] at e;cases e) c i
  generalize doesP h c i=d at *
  unfold didM at hf ⊢
  by_cases hov:d.h.over=true
  ·rw [if_pos hov];exact q hov
  rw [if_neg hov] at hf ⊢
  by_cases hthr:0≤d.h.thrown
  ·rw [if_pos hthr] at hf ⊢;exact unw_how _ _ hf
  ·rw [if_neg hthr] at hf;cases hf
structure Lon (a b:Sh) (few:Int):Prop where
 stop:a.fin=0→a.steps=few∧few≤b.steps∧a.out <+: b.out
 same:a.fin≠0→a=b
theorem finS_fl (o:Mo) (F:Int):finS (o.fl F)=finS o:=rfl
theorem finS_sh (o:Mo):(finS o).steps=o.h.sh.steps∧(finS o).out=o.h.sh.out∧(finS o).fin=o.how:=by
 unfold finS
 split
 ·rename_i h;exact ⟨rfl,rfl,h.symm⟩
 ·exact ⟨rfl,rfl,rfl⟩
theorem fl_stepB (h:Hp) (F:Int):(h.fl F).stepB=(!h.over&&decide (h.sh.steps<F)):=rfl
theorem fl_stepH {h:Hp} {F G:Int} (hF:(h.fl F).stepB=true) (hG:(h.fl G).stepB=true):(h.fl G).step=((h.fl F).step).fl G:=by
 rw [fl_stepB,Bool.and_eq_true] at hF hG
 have h0:h.over=false:=by simpa using hF.1
 have h1:h.sh.steps<F:=of_decide_eq_true hF.2
 have h2:h.sh.steps<G:=of_decide_eq_true hG.2
 unfold Hp.step
 have e1:(h.fl G).over=false:=h0
 have e2:(h.fl F).over=false:=h0
 have e3:¬(h.fl G).fuel≤(h.fl G).sh.steps:=by show ¬G≤h.sh.steps;omega
 have e4:¬(h.fl F).fuel≤(h.fl F).sh.steps:=by show ¬F≤h.sh.steps;omega
 rw [if_neg (by rw [e1];decide),if_neg e3,if_neg (by rw [e2];decide),if_neg e4]
 rfl
theorem run_longer {f:Fi} {inp:List Int} (F G:Int) (hFG:F≤G):∀(n m:Nat) (h:Hp) (cs:List Cal),IM f inp (h.fl F) cs→Enough n (h.fl F)→Enough m (h.fl G)→Lon (finS (runM n (h.fl F) cs)) (finS (runM m (h.fl G) cs)) F
 | n,m,h,[],im,_,_=>by obtain ⟨c,cs,e,-⟩:=im.ex;cases e
 | n,m,h,c::cs,im,en,em=>by
  obtain ⟨c',cs',e,gc,hp0,hp1,hI⟩:=im.ex
  simp only [List.cons.injEq] at e
  obtain ⟨rfl,rfl⟩:=e
  cases hb:(h.fl F).stepB with
  | false =>
   have h0:h.over=false:=im.over
   have hst:h.sh.steps=F:=by
    have h1:h.sh.steps≤F:=im.gh.steps
    rw [fl_stepB,h0] at hb
    simp at hb
    omega
   have e1:runM n (h.fl F) (c::cs)=endM 0 va0 (h.fl F):=by
    cases n with
    | zero=>rfl
    | succ n=>rw [runM,if_pos hb]
   have hl:=run_lfM m (h.fl G) (c::cs)
   have ho:=run_ou (l:=h.sh.out) m (h.fl G) (c::cs) (List.prefix_refl _)
   obtain ⟨s1,s2,s3⟩:=finS_sh (runM m (h.fl G) (c::cs))
   rw [e1]
   refine ⟨fun _=>⟨hst,?_,?_⟩,fun hn=>absurd rfl hn⟩
   ·rw [s1]
    have:h.sh.steps≤(runM m (h.fl G) (c::cs)).h.sh.steps:=hl.steps
    omega
   ·rw [s2]
    exact ho
  | true =>
   have hbF:=hb
   have hlt:h.sh.steps<F:=by
    rw [fl_stepB] at hb
    simp at hb
    exact hb.2
   have hbG:(h.fl G).stepB=true:=by
    have h0:h.over=false:=im.over
    rw [fl_stepB,h0]
    simp
    omega
   cases n with
   | zero=>rw [stepB_no (k:=0) en] at hb;cases hb
   | succ n =>
    cases m with
    | zero=>rw [stepB_no (k:=0) em] at hbG;cases hbG
    | succ m =>
     obtain ⟨q1,q2,q3,q4,q5,q6⟩:=stepB_steps hbF
     have sl:=step_le (h.fl F)
     have en1:=(step_lf (h.fl F).step c cs).enough (enough_step en hbF)
     have em1:=(step_lf (h.fl G).step c cs).enough (enough_step em hbG)
     have es:=fl_step (h.fl F).step G c cs
     rw [←fl_stepH hbF hbG] at es
     have hfu:(stepM (h.fl F).step c cs).h.fuel=F:=(step_lf (h.fl F).step c cs).fuel.trans q2
     have hff:(stepM (h.fl F).step c cs).h.fl F=(stepM (h.fl F).step c cs).h:=by
      have:∀x:Hp,x.fuel=F→x.fl F=x:=fun x hx=>by subst hx;rfl
      exact this _ hfu
     have nF:¬(h.fl F).stepB=false:=by rw [hbF];decide
     have nG:¬(h.fl G).stepB=false:=by rw [hbG];decide
     rw [runM,runM,if_neg nF,if_neg nG,es]
     by_cases hfin:(stepM (h.fl F).step c cs).fin=true
     ·have hfin2:((stepM (h.fl F).step c cs).fl G).fin=true:=hfin
      rw [if_pos hfin,if_pos hfin2,finS_fl]
      refine ⟨fun h0=>?_,fun _=>rfl⟩
      rw [(finS_sh _).2.2] at h0
      exact absurd h0 (step_how q3 c cs hfin)
     ·have hfin2:¬((stepM (h.fl F).step c cs).fl G).fin=true:=hfin
      rw [if_neg hfin,if_neg hfin2]
      have im1:=step_inv (q5.trans im.file) (sl.input.trans im.input) im.may (im.gh.step hbF) q3 (q4.trans im.thr) (q6.trans im.calls) (gc.le sl) ⟨hp0,hp1⟩ (hI.le sl) (by simpa using hfin)
      rw [es] at em1
      have:=run_longer F G hFG n m (stepM (h.fl F).step c cs).h (stepM (h.fl F).step c cs).cs (by rw [hff];exact im1) (by rw [hff];exact en1) em1
      rw [hff] at this
      exact this
theorem ret_bool {x y:Bool} (h:x=y):Ending.returned (.bool x)=.returned (.bool y):=by rw [h]
abbrev stopE (how k n:Int):Ending:=.panicked [{ v:=.iface 111 (.agg #[.int .i64 how,.int .i64 k,.int .i64 n]),recovered:=false }]
abbrev mvV (v:Va):Value:=.agg #[.int .i64 v.kind,.int .i64 v.n]
theorem info_mv:(Try.prog.info? 109).map (·.size)=some 2:=by kernel_rfl
theorem mblk {w:World} {b:Nat} {cs:Array Value} {t:TypeId} (hb:b=w.heap.size):(w.alloc (.cells cs t)).heap[b]?=some (.cells cs t (0,0)):=by
 subst hb
 show (w.heap.push _)[w.heap.size]?=_
 simp
theorem mend_any (how:Int) (w:World):Calls Try.prog 98 #[.int .i64 how] w fun e w'=>e=stopE how 0 0∧w'=w:=by
 go_enter Try.func98,Try.ntmps98
 go_wp2
 exact ⟨rfl,rfl,rfl⟩
theorem mstuck_any (w:World):Calls Try.prog 87 #[] w fun e w'=>e=stopE 6 0 0∧w'=w:=by
 go_enter Try.func87,Try.ntmps87
 go_wp2_with (go_at_call 98;refine (mend_any 6 _).mono ?_;rintro e w1 ⟨rfl,hw⟩;rw [hw];clear hw w1)
 exact ⟨rfl,rfl,rfl⟩
theorem mustbe_yes (v:Va) (k:Int) (w:World) (h:v.kind=k):Calls Try.prog 112 #[mvV v,.int .i64 k] w fun e w'=>e=.returned (mvV v)∧Bl w w':=by
 subst h
 go_enter Try.func112,Try.ntmps112
 go_wp2
 refine bodyPost_ret (results_cell_row rfl _ _ (w.heap.size+1) _ _ _ _ rfl (mblk (by simp)) Try.underlying109 rfl info_mv) rfl ?_
 exact ⟨rfl,((Bl.refl w).alloc _).alloc _⟩
theorem mustbe_no (v:Va) (k:Int) (w:World) (h:v.kind≠k):Calls Try.prog 112 #[mvV v,.int .i64 k] w fun e w'=>e=stopE 6 0 0∧Bl w w':=by
 have hz:(v.kind !=k)=true:=by simpa using h
 go_enter Try.func112,Try.ntmps112
 go_wp2_with (go_at_call 87;refine (mstuck_any _).mono ?_;rintro e w1 ⟨rfl,hw⟩;rw [hw];clear hw w1)
 exact ⟨rfl,rfl,((Bl.refl w).alloc _).alloc _⟩
theorem lt_some {w:World} {b:Nat} {o:Obj} (h:w.heap[b]?=some o):b<w.heap.size:=by
 by_cases hb:b<w.heap.size
 ·exact hb
 ·simp [hb] at h
theorem block_set {w:World} {b i:Nat} {cs:Array Value} {t:TypeId} {f:Nat×Nat} (h:w.heap[b]?=some (.cells cs t f)) (v:Value) :
  (w.setCell ⟨b,i,none⟩ v).heap[b]?=some (.cells (cs.setIfInBounds i v) t f):=by
 simp [World.setCell,Array.getElem?_modify,h]
theorem block_far {w:World} {b b' i:Nat} {s:Option _} (hb:b'≠b) (v:Value):(w.setCell ⟨b,i,s⟩ v).heap[b']?=w.heap[b']?:=Below.heap_setCell _ _ _ _ hb
theorem cell_blk {w:World} {b i:Nat} {cs:Array Value} {t:TypeId} {f:Nat×Nat} (h:w.heap[b]?=some (.cells cs t f)):w.cell? ⟨b,i,none⟩=cs[i]?:=by simp [World.cell?,h]
theorem free_blk {w:World} {b:Nat} {cs:Array Value} {t:TypeId} (h:w.heap[b]?=some (.cells cs t (0,0))) (i:Nat):w.frozen? ⟨b,i,none⟩=false:=by simp [World.frozen?,h]
theorem row_far {w:World} {base:Nat} {e:TypeId} {size n:Nat} {v:Value} {xs:List Value} (ho:w.ownsRow base e size v n xs) {b i:Nat} {cs:Array Value} {t:TypeId} {f:Nat×Nat} (hb:w.heap[b]?=some (.cells cs t f)) (ht:t≠e) (u:Value) :
  (w.setCell ⟨b,i,none⟩ u).ownsRow base e size v n xs:=by
 refine ⟨ho.1,?_⟩
 rcases ho.2 with h0|⟨g,cap,cur,h1,h2,h3,h4⟩
 ·exact Or.inl h0
 ·refine Or.inr ⟨g,cap,cur,h1,h2,?_,h4⟩
  rw [block_far]
  ·exact h3
  ·rintro rfl;rw [hb] at h3;simp at h3;exact ht h3.2.1
theorem blk_new (w:World) (cs:Array Value) (t:TypeId):(w.alloc (.cells cs t)).heap[w.heap.size]?=some (.cells cs t (0,0)):=by
 show (w.heap.push _)[w.heap.size]?=_
 simp
theorem bl_drewN {a w:World} (h:Bl a w) (n:Nat):Bl a (w.drewN n):=⟨h.os,h.tape,h.output,h.size,h.block⟩
theorem own_far {w:World} {base:Nat} {e:TypeId} {size n:Nat} {v:Value} {xs:List Value} (ho:w.ownsRow base e size v n xs) {b:Nat} {cs:Array Value} {t:TypeId} {f:Nat×Nat} (hb:w.heap[b]?=some (.cells cs t f)) (ht:t≠e):v.ownBlock≠some b:=by
 intro hc
 rcases ho.2 with ⟨rfl,-⟩|⟨gb,cap,cur,rfl,h2,h3,h4⟩
 ·simp [Value.ownBlock] at hc
 ·simp [Value.ownBlock] at hc
  subst hc
  rw [hb] at h3
  simp at h3
  exact ht h3.2.1
def vaCells:List Va→List Value
 | []=>[]
 | v::l=>.int .i64 v.kind::.int .i64 v.n::vaCells l
theorem vaCells_length (l:List Va):(vaCells l).length=l.length*2:=by
 induction l with
 | nil=>rfl
 | cons x l ih=>simp [vaCells,ih];omega
theorem va_cells:∀(l:List Va) (i:Nat),i<l.length→(vaCells l)[i*2]?=some (.int .i64 (nth va0 l i).kind)∧(vaCells l)[i*2+1]?=some (.int .i64 (nth va0 l i).n)
 | [],i,h=>by simp at h
 | x::l,0,_=>by simp [vaCells,nth]
 | x::l,i+1,h=>by
  have:=va_cells l i (by simpa using h)
  have e:(i+1)*2=i*2+1+1:=by omega
  rw [e]
  simpa [vaCells,nth] using this
theorem vaCells_set:∀(l:List Va) (i:Nat) (v:Va),i<l.length→vaCells (l.set i v)=((vaCells l).set (i*2) (.int .i64 v.kind)).set (i*2+1) (.int .i64 v.n)
 | [],i,v,h=>by simp at h
 | x::l,0,v,_=>by simp [vaCells]
 | x::l,i+1,v,h=>by
  have:=vaCells_set l i v (by simpa using h)
  have e1:(i+1)*2=i*2+1+1:=by omega
  have e2:(i+1)*2+1=i*2+1+1+1:=by omega
  rw [e2,e1]
  simp [vaCells,this]
theorem vaCells_append (l k:List Va):vaCells (l++k)=vaCells l++vaCells k:=by
 induction l with
 | nil=>rfl
 | cons x l ih=>simp [vaCells,ih]
theorem hid {p:Prop} (h:p):Hid p:=h
abbrev tyMV (t:Ty):Value:=.agg #[.int .i64 t.kind,.int .i64 t.cls]
abbrev tyMO (t:Ty):Obj:=.cells #[.int .i64 t.kind,.int .i64 t.cls] 54
abbrev mvO (v:Va):Obj:=.cells #[.int .i64 v.kind,.int .i64 v.n] 109
abbrev mvZ:Obj:=.cells #[.int .i64 0,.int .i64 0] 109
theorem three_lie (w:World) (a b c:Array Value) (s t u:TypeId):(((w.alloc (.cells a s)).alloc (.cells b t)).alloc (.cells c u)).heap[w.heap.size]?=some (.cells a s (0,0))∧(((w.alloc (.cells a s)).alloc (.cells b t)).alloc (.cells c u)).heap[w.heap.size+1]?=some (.cells b t (0,0))
  ∧ (((w.alloc (.cells a s)).alloc (.cells b t)).alloc (.cells c u)).heap[w.heap.size+1+1]?=some (.cells c u (0,0)):=by
 have h1:(w.alloc (.cells a s)).heap.size=w.heap.size+1:=by simp
 have h2:((w.alloc (.cells a s)).alloc (.cells b t)).heap.size=w.heap.size+1+1:=by simp
 refine ⟨?_,?_,?_⟩
 ·rw [Below.heap_alloc _ _ _ (by omega),Below.heap_alloc _ _ _ (by omega)];exact blk_new _ _ _
 ·rw [Below.heap_alloc _ _ _ (by omega),←h1];exact blk_new _ _ _
 ·rw [←h2];exact blk_new _ _ _
theorem bl_blk {w w':World} (h:Bl w w') {b:Nat} {o:Obj} (hb:w.heap[b]?=some o):w'.heap[b]?=some o:=(h.block b (lt_some hb)).trans hb
theorem c0_of {w:World} {b:Nat} {k n:Value} {t:TypeId} (q:w.heap[b]?=some (.cells #[k,n] t (0,0))):w.cell? ⟨b,0,none⟩=some k:=by rw [cell_blk q];rfl
theorem c1_of {w:World} {b:Nat} {k n:Value} {t:TypeId} (q:w.heap[b]?=some (.cells #[k,n] t (0,0))):w.cell? ⟨b,1,none⟩=some n:=by rw [cell_blk q];rfl
theorem set_two {w:World} {b:Nat} {k n k' n':Value} {t:TypeId} (q:w.heap[b]?=some (.cells #[k,n] t (0,0))):((w.setCell ⟨b,0,none⟩ k').setCell ⟨b,1,none⟩ n').heap[b]?=some (.cells #[k',n'] t (0,0)):=by
 rw [block_set (block_set q _) _];rfl
theorem bl_two {w0 w:World} (h:Bl w0 w) {b:Nat} (hb:w0.heap.size≤b) (k n:Value):Bl w0 ((w.setCell ⟨b,0,none⟩ k).setCell ⟨b,1,none⟩ n):=(h.setCell (p:=⟨b,0,none⟩) hb k).setCell (p:=⟨b,1,none⟩) hb n
theorem blk_in1 {W:World} {cs:Array Value} {t:TypeId} {o:Obj} {n:Nat} (hn:n=W.heap.size):((W.alloc (.cells cs t)).alloc o).heap[n]?=some (.cells cs t (0,0)):=by
 subst hn
 rw [Below.heap_alloc _ _ _ (by simp)]
 exact blk_new _ _ _
theorem grown_set {w:World} (b i:Nat) (v:Value):w.grownBy (w.setCell ⟨b,i,none⟩ v) (some b) :=
 ⟨rfl,rfl,rfl,by simp [World.setCell],fun k hk hb=>block_far (fun e=>hb (by rw [e])) v⟩
theorem grown_trans {x y z:World} {row:Option Nat} (h:x.grownBy y row) (k:y.grownBy z row):x.grownBy z row :=
 ⟨k.os.trans h.os,k.tape.trans h.tape,k.output.trans h.output,Nat.le_trans h.size k.size,fun i hi hb=>(k.block i (Nat.lt_of_lt_of_le hi h.size) hb).trans (h.block i hi hb)⟩
section
open Go.Maps (Keyed has)
abbrev placeV (o c k:Int):Value:=.agg #[.int .i64 o,.int .i64 c,.int .i64 k]
def keyM (o c k:Int):Lit:=.string (keyBytes [.int .i64 o,.int .i64 c,.int .i64 k])
theorem place_out:laidOutB Try.prog=true:=by kernel_rfl
theorem place_row:(159:TypeId)<Try.prog.types.size:=of_decide_eq_true (by kernel_rfl)
theorem place_wide:(match Try.prog.underlying 159 with|some (.array _ _)|some (.struct _)=>true|_=>false)=true:=by rw [Try.underlying159]
theorem place_at:Try.prog.keyTypeAt 2 159=true:=by kernel_rfl
set_option maxRecDepth 1000000 in
theorem place_key:Keyed Try.prog 159:=Keyed.of_law (deep_law_laid (P:=Try.prog) (k:=159) place_out (m:=2) (by omega) place_row place_at place_wide)
theorem place_type:Try.prog.keyType 159=true:=by kernel_rfl
theorem place_cells:Try.prog.cellsOf 159=3:=by kernel_rfl
theorem int_cells:Try.prog.cellsOf 3=1:=by kernel_rfl
theorem i64_wf {n:Int} (h:I64 n):(Lit.int .i64 n).wf=true:=by
 unfold I64 at h
 simp [Lit.wf,IntKind.min,IntKind.max,IntKind.bits,IntKind.signed]
 omega
theorem int_lits (d:Nat) {n:Int} (h:I64 n):Try.prog.keyLits (d+1) 3 [.int .i64 n]=some [.int .i64 n]:=by
 unfold Program.keyLits
 rw [Try.underlying3]
 simp [i64_wf h]
theorem place_lits (d:Nat) {o c k:Int} (ho:I64 o) (hc:I64 c) (hk:I64 k):Try.prog.keyLits (d+1+1) 159 [.int .i64 o,.int .i64 c,.int .i64 k]=some [.int .i64 o,.int .i64 c,.int .i64 k]:=by
 have h1:=int_lits d ho
 have h2:=int_lits d hc
 have h3:=int_lits d hk
 unfold Program.keyLits
 rw [Try.underlying159]
 simp [place_cells,int_cells,h1,h2,h3]
theorem types_two:∃d,Try.prog.types.size+1=d+1+1:=by
 have h:(159:Nat)<Try.prog.types.size:=place_row
 exact ⟨Try.prog.types.size-1,by omega⟩
theorem keyM_of {o c k:Int} (ho:I64 o) (hc:I64 c) (hk:I64 k):keyOf Try.prog 159 (placeV o c k)=some (keyM o c k):=by
 obtain ⟨d,hd⟩:=types_two
 unfold keyOf
 rw [Try.underlying159,hd]
 dsimp only
 have hf:(placeV o c k).formed Try.prog 159=true:=by simp [Value.formed,Try.underlying159,place_cells]
 rw [place_type,hf]
 have hc':(placeV o c k).cells.toList=[.int .i64 o,.int .i64 c,.int .i64 k]:=rfl
 rw [hc',place_lits d ho hc hk]
 rfl
theorem keyM_inj {o c k o' c' k':Int} (ho:I64 o) (hc:I64 c) (hk:I64 k) (ho':I64 o') (hc':I64 c') (hk':I64 k') (h:keyM o c k=keyM o' c' k'):o=o'∧c=c'∧k=k':=by
 have h1:=keyM_of ho hc hk
 have h2:=keyM_of ho' hc' hk'
 rw [←h] at h2
 have:=place_key.inj h1 h2
 simp at this
 exact this
end
end Go.Proofs.Ytgiiapenmjollaa
