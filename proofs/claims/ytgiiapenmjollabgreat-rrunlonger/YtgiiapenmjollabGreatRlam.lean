import Derived.Test.YtgiiapenmjollabGreatRlal
namespace Go.Proofs.YtgiiapenmjollabGreat
set_option linter.all false
set_option maxHeartbeats 40000000
set_option maxRecDepth 100000
open Go.RowKit
def Hp.fl (h:Hp) (F:Int):Hp:={ h with fuel:=F }
def Mo.fl (o:Mo) (F:Int):Mo:={ o with h:=o.h.fl F }
def Did.fl (d:Did) (F:Int):Did:={ d with h:=d.h.fl F }
theorem fl_fin (h:Hp) (F e:Int):(h.fl F).fin e=(h.fin e).fl F:=by unfold Hp.fin Hp.fl;dsimp only;split<;>rfl
theorem fl_must (h:Hp) (F:Int) (b:Bool):(h.fl F).must b=(h.must b).fl F:=by
 unfold Hp.must;split
 ·rfl
 ·exact fl_fin h F 6
theorem fl_new (h:Hp) (F c:Int):(h.fl F).new c=(h.new c).fl F:=by
 unfold Hp.new
 have e:(h.fl F).full=h.full:=rfl
 rw [e];split
 ·exact fl_fin h F 4
 ·rfl
theorem fl_raise (h:Hp) (F c:Int):(h.fl F).raise c=(h.raise c).fl F:=by
 unfold Hp.raise
 rw [fl_new]
 have e:((h.new c).fl F).over=(h.new c).over:=rfl
 rw [e];split<;>rfl
theorem fl_throw (h:Hp) (F:Int) (v:Va):(h.fl F).throw v=(h.throw v).fl F:=by
 unfold Hp.throw
 have e:(h.fl F).mustB (isRef v)=h.mustB (isRef v):=rfl
 rw [e];split
 ·split
  ·exact fl_raise h F 1
  ·rfl
 ·exact fl_must h F _
theorem fl_findH (h:Hp) (F:Int) (r:Va) (c:Int):(h.fl F).findH r c=(h.findH r c).fl F:=by
 unfold Hp.findH
 have e:(h.fl F).mustB ((h.fl F).of r ⟨3,c⟩)=h.mustB (h.of r ⟨3,c⟩):=rfl
 rw [e];split
 ·split
  ·exact fl_raise h F 1
  ·rfl
 ·exact fl_must h F _
theorem fl_put (h:Hp) (F:Int) (r:Va) (c k:Int) (v:Va):(h.fl F).put r c k v=(h.put r c k v).fl F:=by
 unfold Hp.put
 have e:(h.fl F).mustB ((h.fl F).of v (fieldT (h.fl F).file.classes c k))=h.mustB (h.of v (fieldT h.file.classes c k)):=rfl
 have e2:(h.fl F).findN r c k=h.findN r c k:=rfl
 rw [e,e2,fl_findH];split
 ·split<;>rfl
 ·exact fl_must h F _
theorem fl_cast (h:Hp) (F:Int) (v:Va) (c:Int):(h.fl F).cast v c=(h.cast v c).fl F:=by
 unfold Hp.cast
 have e:(h.fl F).mustB (isRef v)=h.mustB (isRef v):=rfl
 have e2:(h.fl F).of v ⟨3,c⟩=h.of v ⟨3,c⟩:=rfl
 rw [e,e2];split
 ·split
  ·rfl
  ·exact fl_raise h F 3
 ·exact fl_must h F _
theorem fl_emit (h:Hp) (F:Int) (v:Va) (k:Int):(h.fl F).emit v k=(h.emit v k).fl F:=by
 unfold Hp.emit
 have e:(h.fl F).mustB (decide (v.kind=k))=h.mustB (decide (v.kind=k)):=rfl
 rw [e];split
 ·rfl
 ·exact fl_must h F _
theorem fl_input (h:Hp) (F:Int):(h.fl F).input'=h.input'.fl F:=by
 unfold Hp.input'
 have e:(h.fl F).dry=h.dry:=rfl
 rw [e];split
 ·exact fl_fin h F 3
 ·rfl
theorem fl_reckH (h:Hp) (F:Int) (a b:Va) (k op:Int):(h.fl F).reckH a b k op=(h.reckH a b k op).fl F:=by
 unfold Hp.reckH
 have e:(h.fl F).mustB (ofBoth a b k)=h.mustB (ofBoth a b k):=rfl
 rw [e];split
 ·split
  ·rfl
  ·exact fl_raise h F 2
 ·exact fl_must h F _
theorem fl_rdH (h:Hp) (F:Int) (c:Cal) (a k:Int):(h.fl F).rdH c a k=(h.rdH c a k).fl F:=fl_must h F _
theorem fl_if (p:Prop) [Decidable p] (a b:Hp) (F:Int):(if p then a else b).fl F=if p then a.fl F else b.fl F:=by split<;>rfl
theorem fl_over (h:Hp) (F:Int):(h.fl F).over=h.over:=rfl
theorem fl_givesH (h:Hp) (F:Int) (c:Cal) (i:In):givesH (h.fl F) c i=(givesH h c i).fl F:=by
 unfold givesH
 simp only [fl_rdH,fl_over,fl_reckH,fl_must,fl_new,fl_findH,fl_input,fl_if]
theorem fl_givesV (h:Hp) (F:Int) (c:Cal) (i:In):givesV (h.fl F) c i=givesV h c i:=by
 have e:∀a k,((h.fl F).rdH c a k)=(h.rdH c a k).fl F:=fun a k=>fl_rdH h F c a k
 unfold givesV
 simp only [e,fl_over]
 rfl
theorem fl_wr (h:Hp) (F:Int) (c:Cal) (a:Int) (v:Va):wrP (h.fl F) c a v=wrP h c a v:=rfl
theorem fl_does (h:Hp) (F:Int) (c:Cal) (i:In):doesP (h.fl F) c i=(doesP h c i).fl F:=by
 unfold doesP
 split
 ·rfl
 split
 ·unfold ifP;rw [fl_rdH];rfl
 split
 ·unfold ifnP;rw [fl_rdH];rfl
 split
 ·unfold putP;dsimp only
  have e0:(h.fl F).file=h.file:=rfl
  rw [e0,fl_rdH,fl_rdH,fl_put,fl_over,←fl_if];rfl
 split
 ·unfold castP;rw [fl_rdH,fl_cast,fl_over,←fl_if];rfl
 split
 ·unfold resP;rw [fl_must];rfl
 split
 ·unfold thrP;rw [fl_rdH,fl_throw,fl_over,←fl_if];rfl
 split
 ·unfold cauP;rw [fl_must];rfl
 split
 ·unfold emitP;rw [fl_rdH,fl_emit,fl_over,←fl_if];rfl
 ·unfold givesP;rw [fl_givesH,fl_givesV,fl_wr];rfl
theorem fl_caught (h:Hp) (F pc:Int):∀l:List Hd,(h.fl F).caughtL pc l=h.caughtL pc l
 | []=>rfl
 | x::l=>by
  unfold Hp.caughtL
  rw [fl_caught h F pc l]
  rfl
theorem fl_unw (F:Int):∀(cs:List Cal) (h:Hp),unwM (h.fl F) cs=(unwM h cs).fl F
 | [],h=>rfl
 | c::cs,h=>by
  have e1:unwM (h.fl F) (c::cs)=if (h.fl F).caughtL c.pc c.m.hands<0 then unwM (h.fl F).leave cs else goM { h.fl F with thrown:=-1 } ({ c with giv:=va0,cau:=⟨3,h.thrown⟩,pc:=(h.fl F).caughtL c.pc c.m.hands }::cs):=rfl
  have e2:unwM h (c::cs)=if h.caughtL c.pc c.m.hands<0 then unwM h.leave cs else goM { h with thrown:=-1 } ({ c with giv:=va0,cau:=⟨3,h.thrown⟩,pc:=h.caughtL c.pc c.m.hands }::cs):=rfl
  rw [e1,e2,fl_caught]
  split
  ·exact fl_unw F cs h.leave
  ·rfl
theorem fl_back (h:Hp) (F:Int) (v:Va) (cs:List Cal):backM (h.fl F) v cs=(backM h v cs).fl F:=by
 cases cs with
 | nil=>rfl
 | cons c cs=>rfl
theorem fl_step (h:Hp) (F:Int) (c:Cal) (cs:List Cal):stepM (h.fl F) c cs=(stepM h c cs).fl F:=by
 unfold stepM
 split
 ·rfl
 split
 ·unfold retM
  generalize nth in0 c.m.code c.pc.toNat=i
  have e:(h.fl F).of (c.rd i.a) c.m.ret=h.of (c.rd i.a) c.m.ret:=rfl
  have e2:(h.fl F).leave=h.leave.fl F:=rfl
  rw [e,e2,fl_back,fl_back]
  split
  ·rfl
  ·split<;>rfl
 split
 ·unfold calM
  dsimp only
  have e0:(h.fl F).file=h.file:=rfl
  rw [e0]
  generalize nth in0 c.m.code c.pc.toNat=i
  have e1:∀m:Me,(h.fl F).enterL (c.rds i.args m.params) m.params=h.enterL (c.rds i.args m.params) m.params:=fun m=>by
   generalize c.rds i.args m.params=l
   generalize m.params=k
   induction l generalizing k with
   | nil=>cases k<;>rfl
   | cons v l ih =>
    cases k with
    | nil=>rfl
    | cons t k=>unfold Hp.enterL;rw [ih k];rfl
  have e2:(h.fl F).deep=h.deep:=rfl
  rw [e1,e2]
  split
  ·rfl
  ·split<;>rfl
 ·rw [fl_does]
  generalize doesP h c (nth in0 c.m.code c.pc.toNat)=d
  unfold didM
  have e:(d.fl F).h.over=d.h.over:=rfl
  have e2:(d.fl F).h.thrown=d.h.thrown:=rfl
  have e3:unwM (d.fl F).h ((d.fl F).c::cs)=(unwM d.h (d.c::cs)).fl F:=fl_unw F _ d.h
  rw [e,e2,e3]
  split
  ·rfl
  ·split<;>rfl
def Ou (l:List Int) (h:Hp):Prop:=l <+: h.sh.out
theorem ou_safe (l:List Int):Safe (Ou l) :=
 ⟨fun h e _ p=>by unfold Hp.fin;split<;>exact p,fun h o p=>p,fun h t p=>p,fun h n p=>p.trans (List.prefix_append _ _),fun h p=>p⟩
def NoZ (h:Hp):Prop:=h.over=true→h.sh.fin≠0
theorem noz_safe:Safe NoZ :=
 ⟨fun h e he p=>by
   unfold Hp.fin;split
   ·exact p
   ·intro _;show e≠0;omega,
  fun h o p=>p,fun h t p=>p,fun h n p=>p,fun h p=>p⟩
theorem unw_ou (l:List Int):∀(cs:List Cal) (h:Hp),Ou l h→Ou l (unwM h cs).h
 | [],h,p=>p
 | c::cs,h,p=>by
  unfold unwM
  split
  ·exact unw_ou l cs h.leave p
  ·exact p
theorem back_ou {l:List Int} {h:Hp} (p:Ou l h) (v:Va) (cs:List Cal):Ou l (backM h v cs).h:=by
 cases cs with
 | nil=>exact p
 | cons c cs=>exact p
theorem step_ou {l:List Int} {h:Hp} (p:Ou l h) (c:Cal) (cs:List Cal):Ou l (stepM h c cs).h:=by
 unfold stepM
 split
 ·exact p
 split
 ·unfold retM
  split
  ·exact back_ou (h:=h.leave) p _ _
  split
  ·exact back_ou (h:=h.leave) p _ _
  ·exact p
 split
 ·unfold calM
  dsimp only
  split
  ·exact p
  split
  ·exact p
  ·exact p
 ·have q:=(ou_safe l).does p c (nth in0 c.m.code c.pc.toNat)
  unfold didM
  split
  ·exact q
  split
  ·exact unw_ou l _ _ q
  ·exact q
theorem run_ou {l:List Int}:∀(n:Nat) (h:Hp) (cs:List Cal),Ou l h→Ou l (runM n h cs).h
 | 0,h,cs,p=>p
 | n+1,h,[],p=>p
 | n+1,h,c::cs,p=>by
  have p1:Ou l h.step:=by
   unfold Hp.step
   split
   ·exact p
   ·split
    ·exact (by unfold Hp.fin;split<;>exact p)
    ·exact p
  rw [runM]
  split
  ·exact p
  split
  ·exact step_ou p1 c cs
  ·exact run_ou n _ _ (step_ou p1 c cs)
theorem run_lfM:∀(n:Nat) (h:Hp) (cs:List Cal),Lf h (runM n h cs).h
 | 0,h,cs=>Lf.refl h
 | n+1,h,[]=>Lf.refl h
 | n+1,h,c::cs=>by
  rw [runM]
  split
  ·exact Lf.refl h
  split
  ·exact (step_le h).lf.trans (step_lf _ c cs)
  ·exact ((step_le h).lf.trans (step_lf _ c cs)).trans (run_lfM n _ _)
theorem unw_how:∀(cs:List Cal) (h:Hp),(unwM h cs).fin=true→(unwM h cs).how≠0
 | [],h,_=>by show (2:Int)≠0;decide
 | c::cs,h,hf=>by
  by_cases hcl:h.caughtL c.pc c.m.hands<0
  ·have e:unwM h (c::cs)=unwM h.leave cs:=if_pos hcl
   rw [e] at hf ⊢
   exact unw_how cs h.leave hf
  ·have e:unwM h (c::cs)=goM { h with thrown:=-1 } ({ c with giv:=va0,cau:=⟨3,h.thrown⟩,pc:=h.caughtL c.pc c.m.hands }::cs):=by
    show (if _ then _ else _)=_
    rw [if_neg hcl]
   rw [e] at hf
   cases hf
theorem back_how (h:Hp) (v:Va) (cs:List Cal) (hf:(backM h v cs).fin=true):(backM h v cs).how≠0:=by
 cases cs with
 | nil=>show (1:Int)≠0;decide
 | cons c cs =>
  cases hf
theorem step_how {h:Hp} (ho:h.over=false) (c:Cal) (cs:List Cal) (hf:(stepM h c cs).fin=true):(stepM h c cs).how≠0:=by
 have h6:∀h:Hp,(endM 6 va0 h).how≠0:=fun h=>by show (6:Int)≠0;decide
 unfold stepM at hf ⊢
 by_cases hlt:¬c.pc<c.m.code.length
 ·rw [if_pos hlt];exact h6 h
 rw [if_neg hlt] at hf ⊢
 generalize hin:nth in0 c.m.code c.pc.toNat=i at *
 by_cases h20:i.op=20
 ·rw [if_pos h20] at hf ⊢
  unfold retM at hf ⊢
  by_cases hr0:c.m.ret.kind=0
  ·rw [if_pos hr0] at hf ⊢;exact back_how _ _ _ hf
  rw [if_neg hr0] at hf ⊢
  by_cases hof:h.of (c.rd i.a) c.m.ret=true
  ·rw [if_pos hof] at hf ⊢;exact back_how _ _ _ hf
  ·rw [if_neg hof];exact h6 h
 rw [if_neg h20] at hf ⊢
 by_cases h19:i.op=18
 ·rw [if_pos h19] at hf ⊢
  unfold calM at hf ⊢
  dsimp only at hf ⊢
  generalize nth me0 h.file.methods i.a.toNat=m at *
  by_cases he:h.enterL (c.rds i.args m.params) m.params=false
  ·rw [if_pos he];exact h6 h
  rw [if_neg he] at hf ⊢
  by_cases hd:h.deep=true
  ·rw [if_pos hd];show (5:Int)≠0;decide
  rw [if_neg hd] at hf
  cases hf
 ·rw [if_neg h19] at hf ⊢
  have q:NoZ (doesP h c i).h:=noz_safe.does (fun e=>by rw [ho] at e;cases e) c i
  generalize doesP h c i=d at *
  unfold didM at hf ⊢
  by_cases hov:d.h.over=true
  ·rw [if_pos hov];exact q hov
  rw [if_neg hov] at hf ⊢
  by_cases hthr:0≤d.h.thrown
  ·rw [if_pos hthr] at hf ⊢;exact unw_how _ _ hf
  ·rw [if_neg hthr] at hf;cases hf
structure Lon (a b:Sh) (few:Int):Prop where
 stop:a.fin=0→a.steps=few∧few≤b.steps∧a.out <+: b.out
 same:a.fin≠0→a=b
theorem finS_fl (o:Mo) (F:Int):finS (o.fl F)=finS o:=rfl
theorem finS_sh (o:Mo):(finS o).steps=o.h.sh.steps∧(finS o).out=o.h.sh.out∧(finS o).fin=o.how:=by
 unfold finS
 split
 ·rename_i h;exact ⟨rfl,rfl,h.symm⟩
 ·exact ⟨rfl,rfl,rfl⟩
theorem fl_stepB (h:Hp) (F:Int):(h.fl F).stepB=(!h.over&&decide (h.sh.steps<F)):=rfl
theorem fl_stepH {h:Hp} {F G:Int} (hF:(h.fl F).stepB=true) (hG:(h.fl G).stepB=true):(h.fl G).step=((h.fl F).step).fl G:=by
 rw [fl_stepB,Bool.and_eq_true] at hF hG
 have h0:h.over=false:=by simpa using hF.1
 have h1:h.sh.steps<F:=of_decide_eq_true hF.2
 have h2:h.sh.steps<G:=of_decide_eq_true hG.2
 unfold Hp.step
 have e1:(h.fl G).over=false:=h0
 have e2:(h.fl F).over=false:=h0
 have e3:¬(h.fl G).fuel≤(h.fl G).sh.steps:=by show ¬G≤h.sh.steps;omega
 have e4:¬(h.fl F).fuel≤(h.fl F).sh.steps:=by show ¬F≤h.sh.steps;omega
 rw [if_neg (by rw [e1];decide),if_neg e3,if_neg (by rw [e2];decide),if_neg e4]
 rfl
theorem run_longer {f:Fi} {inp:List Int} (F G:Int) (hFG:F≤G):∀(n m:Nat) (h:Hp) (cs:List Cal),IM f inp (h.fl F) cs→Enough n (h.fl F)→Enough m (h.fl G)→Lon (finS (runM n (h.fl F) cs)) (finS (runM m (h.fl G) cs)) F
 | n,m,h,[],im,_,_=>by obtain ⟨c,cs,e,-⟩:=im.ex;cases e
 | n,m,h,c::cs,im,en,em=>by
  obtain ⟨c',cs',e,gc,hp0,hp1,hI⟩:=im.ex
  simp only [List.cons.injEq] at e
  obtain ⟨rfl,rfl⟩:=e
  cases hb:(h.fl F).stepB with
  | false =>
   have h0:h.over=false:=im.over
   have hst:h.sh.steps=F:=by
    have h1:h.sh.steps≤F:=im.gh.steps
    rw [fl_stepB,h0] at hb
    simp at hb
    omega
   have e1:runM n (h.fl F) (c::cs)=endM 0 va0 (h.fl F):=by
    cases n with
    | zero=>rfl
    | succ n=>rw [runM,if_pos hb]
   have hl:=run_lfM m (h.fl G) (c::cs)
   have ho:=run_ou (l:=h.sh.out) m (h.fl G) (c::cs) (List.prefix_refl _)
   obtain ⟨s1,s2,s3⟩:=finS_sh (runM m (h.fl G) (c::cs))
   rw [e1]
   refine ⟨fun _=>⟨hst,?_,?_⟩,fun hn=>absurd rfl hn⟩
   ·rw [s1]
    have:h.sh.steps≤(runM m (h.fl G) (c::cs)).h.sh.steps:=hl.steps
    omega
   ·rw [s2]
    exact ho
  | true =>
   have hbF:=hb
   have hlt:h.sh.steps<F:=by
    rw [fl_stepB] at hb
    simp at hb
    exact hb.2
   have hbG:(h.fl G).stepB=true:=by
    have h0:h.over=false:=im.over
    rw [fl_stepB,h0]
    simp
    omega
   cases n with
   | zero=>rw [stepB_no (k:=0) en] at hb;cases hb
   | succ n =>
    cases m with
    | zero=>rw [stepB_no (k:=0) em] at hbG;cases hbG
    | succ m =>
     obtain ⟨q1,q2,q3,q4,q5,q6⟩:=stepB_steps hbF
     have sl:=step_le (h.fl F)
     have en1:=(step_lf (h.fl F).step c cs).enough (enough_step en hbF)
     have em1:=(step_lf (h.fl G).step c cs).enough (enough_step em hbG)
     have es:=fl_step (h.fl F).step G c cs
     rw [←fl_stepH hbF hbG] at es
     have hfu:(stepM (h.fl F).step c cs).h.fuel=F:=(step_lf (h.fl F).step c cs).fuel.trans q2
     have hff:(stepM (h.fl F).step c cs).h.fl F=(stepM (h.fl F).step c cs).h:=by
      have:∀x:Hp,x.fuel=F→x.fl F=x:=fun x hx=>by subst hx;rfl
      exact this _ hfu
     have nF:¬(h.fl F).stepB=false:=by rw [hbF];decide
     have nG:¬(h.fl G).stepB=false:=by rw [hbG];decide
     rw [runM,runM,if_neg nF,if_neg nG,es]
     by_cases hfin:(stepM (h.fl F).step c cs).fin=true
     ·have hfin2:((stepM (h.fl F).step c cs).fl G).fin=true:=hfin
      rw [if_pos hfin,if_pos hfin2,finS_fl]
      refine ⟨fun h0=>?_,fun _=>rfl⟩
      rw [(finS_sh _).2.2] at h0
      exact absurd h0 (step_how q3 c cs hfin)
     ·have hfin2:¬((stepM (h.fl F).step c cs).fl G).fin=true:=hfin
      rw [if_neg hfin,if_neg hfin2]
      have im1:=step_inv (q5.trans im.file) (sl.input.trans im.input) im.may (im.gh.step hbF) im.kd.step q3 (q4.trans im.thr) (q6.trans im.calls) (gc.le sl) ⟨hp0,hp1⟩ (hI.le sl) (by simpa using hfin)
      rw [es] at em1
      have:=run_longer F G hFG n m (stepM (h.fl F).step c cs).h (stepM (h.fl F).step c cs).cs (by rw [hff];exact im1) (by rw [hff];exact en1) em1
      rw [hff] at this
      exact this
end Go.Proofs.YtgiiapenmjollabGreat
