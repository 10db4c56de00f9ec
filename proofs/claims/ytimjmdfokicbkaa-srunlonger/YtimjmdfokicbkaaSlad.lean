import Derived.Test.YtimjmdfokicbkaaSlac
namespace Go.Proofs.Ytimjmdfokicbkaa
set_option linter.unusedVariables false
set_option linter.unusedSimpArgs false
set_option maxHeartbeats 40000000
open Go.RowKit
structure Mo where
 fin:Bool
 how:Int
 v:Va
 h:Hp
 cs:List Cal
def goM (h:Hp) (cs:List Cal):Mo:=⟨false,0,va0,h,cs⟩
def endM (how:Int) (v:Va) (h:Hp):Mo:=⟨true,how,v,h,[]⟩
def unwM (h:Hp):List Cal→Mo
 | []=>endM 2 ⟨3,h.thrown⟩ h
 | c::cs=>if h.caughtL c.pc c.m.hands<0 then unwM h.leave cs
  else if (sizP [(⟨3,h.thrown⟩:Va)]:Int)≤c.m.stack then goM { h with thrown:=-1 } ({ c with stk:=[⟨3,h.thrown⟩],pc:=h.caughtL c.pc c.m.hands }::cs)
  else endM 6 va0 h
def backM (h:Hp) (v:Va):List Cal→Mo
 | []=>endM 1 v h
 | c::cs=>if v.kind=0 then goM h ({ c with pc:=c.pc+1 }::cs)
  else if (sizP (c.stk++[v]):Int)≤c.m.stack then goM h ({ c.put v with pc:=c.pc+1 }::cs)
  else endM 6 va0 h
def retM (h:Hp) (c:Cal) (cs:List Cal):Mo :=
 if c.m.ret.kind=0 then backM h.leave va0 cs
 else if c.has 1=false then endM 6 va0 h
 else if h.of (nth va0 (c.top 1) 0) c.m.ret=true then backM h.leave (nth va0 (c.top 1) 0) cs
 else endM 6 va0 h
def calM (h:Hp) (c:Cal) (cs:List Cal) (i:In):Mo :=
 let m:=nth me0 h.file.methods i.a.toNat
 if c.has m.params.length=false then endM 6 va0 h
 else if h.enterL (c.top m.params.length) m.params=false then endM 6 va0 h
 else if h.deep=true then endM 5 va0 h
 else goM { h with calls:=h.calls+1 } (newCal m (c.top m.params.length)::c.cut m.params.length::cs)
def didM (d:Did) (cs:List Cal):Mo :=
 if d.h.over=true then endM d.h.sh.fin va0 d.h
 else if 0≤d.h.thrown then unwM d.h (d.c::cs)
 else goM d.h ({ d.c with pc:=d.nx }::cs)
def stepM (h:Hp) (c:Cal) (cs:List Cal):Mo :=
 if ¬c.pc<c.m.code.length then endM 6 va0 h
 else if (nth in0 c.m.code c.pc.toNat).op=20 then retM h c cs
 else if (nth in0 c.m.code c.pc.toNat).op=19 then calM h c cs (nth in0 c.m.code c.pc.toNat)
 else didM (doesP h c (nth in0 c.m.code c.pc.toNat)) cs
def runM:Nat→Hp→List Cal→Mo
 | 0,h,cs=>endM 0 va0 h
 | n+1,h,[]=>endM 0 va0 h
 | n+1,h,c::cs=>if h.stepB=false then endM 0 va0 h
  else if (stepM h.step c cs).fin=true then stepM h.step c cs
  else runM n (stepM h.step c cs).h (stepM h.step c cs).cs
def finS (o:Mo):Sh :=
 if o.how=2 then ⟨2,0,(o.h.obj o.v.n).cls,o.h.sh.out,o.h.sh.used,o.h.sh.steps⟩
 else ⟨o.how,if o.v.kind=3 then 0 else o.v.n,0,o.h.sh.out,o.h.sh.used,o.h.sh.steps⟩
def runS (n:Nat) (h:Hp) (cs:List Cal):Sh:=finS (runM n h cs)
def onS (k:Nat) (o:Mo):Sh:=if o.fin=true then finS o else runS k o.h o.cs
def contS (k:Nat) (r:Hp×Va) (cs:List Cal):Sh :=
 if r.1.over=true then ⟨r.1.sh.fin,0,0,r.1.sh.out,r.1.sh.used,r.1.sh.steps⟩
 else if 0≤r.1.thrown then onS k (unwM r.1 cs)
 else onS k (backM r.1 r.2 cs)
def Enough (k:Nat) (h:Hp):Prop:=h.fuel-h.sh.steps≤k
theorem givesP_le (h:Hp) (c:Cal) (i:In):Le h (givesP h c i).h:=by
 unfold givesP
 dsimp only
 split
 ·exact (must_le h _).trans (givesH_le _ _ _ _)
 ·exact ((must_le h _).trans (givesH_le _ _ _ _)).trans (putH_le _ _ _)
theorem does_le (h:Hp) (c:Cal) (i:In):Le h (doesP h c i).h:=by
 unfold doesP
 split
 ·exact Le.refl h
 split
 ·exact (must_le h _).trans (must_le _ _)
 split
 ·exact (must_le h _).trans (must_le _ _)
 split
 ·unfold thrP;dsimp only;split
  ·exact must_le h _
  ·exact (must_le h _).trans (throw_le _ _)
 split
 ·unfold loadP;dsimp only;split
  ·exact putH_le _ _ _
  ·exact must_le h _
 split
 ·exact (must_le h _).trans (must_le _ _)
 split
 ·exact must_le h _
 split
 ·unfold dupP;dsimp only;split
  ·exact must_le h _
  ·exact ((must_le h _).trans (putH_le _ _ _)).trans (putH_le _ _ _)
 split
 ·unfold emitP;dsimp only;split
  ·exact must_le h _
  ·exact (must_le h _).trans (emit_le _ _ _)
 split
 ·unfold setP;dsimp only;split
  ·exact must_le h _
  ·split
   ·exact (must_le h _).trans (put_le _ _ _ _ _)
   ·exact (must_le h _).trans (must_le _ _)
 ·exact givesP_le h c i
theorem does_m (h:Hp) (c:Cal) (i:In):(doesP h c i).c.m=c.m:=by
 have hc:=fun k=>(cut_m c k).1
 unfold doesP
 split
 ·rfl
 split
 ·exact hc 1
 split
 ·exact hc 1
 split
 ·exact hc 1
 split
 ·unfold loadP;dsimp only;split<;>rfl
 split
 ·unfold storeP;dsimp only;split
  ·exact hc 1
  ·exact hc 1
 split
 ·exact hc 1
 split
 ·unfold dupP;dsimp only;split
  ·exact hc 1
  ·exact hc 1
 split
 ·exact hc 1
 split
 ·exact hc 2
 ·unfold givesP;dsimp only;split
  ·exact hc _
  ·exact hc _
structure Lf (h h':Hp):Prop where
 fuel:h'.fuel=h.fuel
 steps:h.sh.steps≤h'.sh.steps
theorem Lf.refl (h:Hp):Lf h h:=⟨rfl,Int.le_refl _⟩
theorem Lf.trans {a b c:Hp} (h:Lf a b) (k:Lf b c):Lf a c:=⟨k.fuel.trans h.fuel,Int.le_trans h.steps k.steps⟩
theorem Le.lf {h h':Hp} (l:Le h h'):Lf h h':=⟨l.fuel,l.steps⟩
theorem Lf.enough {h h':Hp} (l:Lf h h') {k:Nat} (e:Enough k h):Enough k h':=by
 have:=l.fuel;have:=l.steps;unfold Enough at *;omega
theorem leave_lf (h:Hp):Lf h h.leave:=⟨rfl,Int.le_refl _⟩
theorem unw_lf:∀(cs:List Cal) (h:Hp),Lf h (unwM h cs).h
 | [],h=>Lf.refl h
 | c::cs,h=>by
  unfold unwM
  split
  ·exact (leave_lf h).trans (unw_lf cs h.leave)
  ·split
   ·exact ⟨rfl,Int.le_refl _⟩
   ·exact Lf.refl h
theorem back_lf (h:Hp) (v:Va) (cs:List Cal):Lf h (backM h v cs).h:=by
 cases cs with
 | nil=>exact Lf.refl h
 | cons c cs =>
  have e:(backM h v (c::cs)).h=h:=by
   rw [backM]
   by_cases h1:v.kind=0
   ·rw [if_pos h1];rfl
   ·rw [if_neg h1]
    by_cases h2:(sizP (c.stk++[v]):Int)≤c.m.stack
    ·rw [if_pos h2];rfl
    ·rw [if_neg h2];rfl
  rw [e]
  exact Lf.refl h
theorem step_lf (h:Hp) (c:Cal) (cs:List Cal):Lf h (stepM h c cs).h:=by
 unfold stepM
 split
 ·exact Lf.refl h
 split
 ·unfold retM
  split
  ·exact (leave_lf h).trans (back_lf _ _ _)
  split
  ·exact Lf.refl h
  split
  ·exact (leave_lf h).trans (back_lf _ _ _)
  ·exact Lf.refl h
 split
 ·unfold calM
  dsimp only
  split
  ·exact Lf.refl h
  split
  ·exact Lf.refl h
  split
  ·exact Lf.refl h
  ·exact ⟨rfl,Int.le_refl _⟩
 ·unfold didM
  have hl:=(does_le h c (nth in0 c.m.code c.pc.toNat)).lf
  split
  ·exact hl
  split
  ·exact hl.trans (unw_lf _ _)
  ·exact hl
theorem stepB_steps {h:Hp} (hb:h.stepB=true):h.step.sh.steps=h.sh.steps+1∧h.step.fuel=h.fuel∧h.step.over=false∧h.step.thrown=h.thrown∧h.step.file=h.file∧h.step.calls=h.calls:=by
 unfold Hp.stepB at hb
 simp at hb
 have e:h.step={ h with sh:={ h.sh with steps:=h.sh.steps+1 } }:=by
  unfold Hp.step
  rw [if_neg (by rw [hb.1];decide),if_neg (by omega)]
 rw [e]
 exact ⟨rfl,rfl,hb.1,rfl,rfl,rfl⟩
theorem stepB_no {k:Nat} {h:Hp} (e:Enough 0 h):h.stepB=false:=by
 unfold Enough at e
 unfold Hp.stepB
 have:¬h.sh.steps<h.fuel:=by omega
 simp [this]
theorem enough_step {k:Nat} {h:Hp} (e:Enough (k+1) h) (hb:h.stepB=true):Enough k h.step:=by
 obtain ⟨h1,h2,-⟩:=stepB_steps hb
 unfold Enough at *
 omega
theorem run_enough:∀(k k':Nat) (h:Hp) (cs:List Cal),Enough k h→Enough k' h→runM k h cs=runM k' h cs
 | 0,0,h,cs,_,_=>rfl
 | 0,k'+1,h,[],_,_=>rfl
 | 0,k'+1,h,c::cs,e,_=>by
  unfold runM
  rw [if_pos (stepB_no (k:=0) e)]
 | k+1,0,h,[],_,_=>rfl
 | k+1,0,h,c::cs,_,e=>by
  unfold runM
  rw [if_pos (stepB_no (k:=0) e)]
 | k+1,k'+1,h,[],_,_=>rfl
 | k+1,k'+1,h,c::cs,e,e'=>by
  rw [runM,runM]
  by_cases hb:h.stepB=false
  ·rw [if_pos hb,if_pos hb]
  ·have hb':h.stepB=true:=by simpa using hb
   rw [if_neg hb,if_neg hb]
   by_cases hf:(stepM h.step c cs).fin=true
   ·rw [if_pos hf,if_pos hf]
   ·rw [if_neg hf,if_neg hf]
    exact run_enough k k' _ _ ((step_lf h.step c cs).enough (enough_step e hb')) ((step_lf h.step c cs).enough (enough_step e' hb'))
theorem on_enough {k k':Nat} {o:Mo} (e:Enough k o.h) (e':Enough k' o.h):onS k o=onS k' o:=by
 unfold onS runS
 rw [run_enough k k' o.h o.cs e e']
theorem run_on {k:Nat} {h:Hp} {c:Cal} {cs:List Cal} (hb:h.stepB=true):runS (k+1) h (c::cs)=onS k (stepM h.step c cs):=by
 unfold runS onS
 rw [runM,if_neg (by rw [hb];decide)]
 split<;>rfl
structure GoK (n:Nat) (go:Hp→Cal→Hp×Va):Prop where
 lf:∀h c,Lf h (go h c).1
 kind:∀h c,Enough n h→(go h c).1.stops=false→(go h c).2.kind=c.m.ret.kind
theorem must_stops {h:Hp} {b:Bool} (ho:(h.must b).leave.stops=false) (hb:h.over=false):b=true:=by
 cases b with
 | true=>rfl
 | false =>
  simp [Hp.must,Hp.fin,hb,Hp.stops,Hp.leave] at ho
theorem call_m (go:Hp→Cal→Hp×Va) (h:Hp) (c:Cal) (i:In):(callP go h c i).c.m=c.m:=by
 unfold callP
 dsimp only
 split
 ·exact (cut_m c _).1
 ·split
  ·exact (cut_m c _).1
  ·exact (cut_m c _).1
theorem enter_lf (h:Hp) (m:Me) (l:List Va):Lf h (h.enterH m l):=by
 unfold Hp.enterH
 split
 ·exact (fin_le h 6).lf
 ·split
  ·exact (fin_le h 5).lf
  ·exact ⟨rfl,Int.le_refl _⟩
theorem run_lf {n:Nat} {go:Hp→Cal→Hp×Va} (G:GoK n go) (h:Hp) (m:Me) (l:List Va):Lf h (runP go h m l).1:=by
 unfold runP
 split
 ·exact (enter_lf h m l).trans (G.lf _ _)
 ·exact enter_lf h m l
theorem call_lf {n:Nat} {go:Hp→Cal→Hp×Va} (G:GoK n go) (h:Hp) (c:Cal) (i:In):Lf h (callP go h c i).h:=by
 unfold callP
 dsimp only
 split
 ·exact (must_le h _).lf
 ·split
  ·exact ((must_le h _).lf.trans (run_lf G _ _ _)).trans (putH_le _ _ _).lf
  ·exact (must_le h _).lf.trans (run_lf G _ _ _)
theorem next_lf {n:Nat} {go:Hp→Cal→Hp×Va} (G:GoK n go) (d:Did):Lf d.h (nextP go d).1:=by
 unfold nextP
 split
 ·exact leave_lf _
 split
 ·split
  ·exact leave_lf _
  ·refine Lf.trans ?_ (G.lf _ _)
   refine Lf.trans ?_ (putH_le _ _ _).lf
   exact ⟨rfl,Int.le_refl _⟩
 ·exact G.lf _ _
theorem next_kind {n:Nat} {go:Hp→Cal→Hp×Va} (G:GoK n go) (d:Did) (e:Enough n d.h) (hs:(nextP go d).1.stops=false):(nextP go d).2.kind=d.c.m.ret.kind:=by
 unfold nextP at hs ⊢
 split
 ·rename_i h1
  rw [if_pos h1] at hs
  simp [Hp.stops,Hp.leave,h1] at hs
 ·rename_i h1
  rw [if_neg h1] at hs
  split
  ·rename_i h2
   rw [if_pos h2] at hs
   split
   ·rename_i h3
    rw [if_pos h3] at hs
    have:(d.h.leave,va0).1.stops=true:=by simp [Hp.stops,Hp.leave,h2]
    rw [this] at hs
    exact absurd hs (by decide)
   ·rename_i h3
    rw [if_neg h3] at hs
    refine G.kind _ _ ?_ hs
    refine Lf.enough ?_ e
    refine Lf.trans ?_ (putH_le _ _ _).lf
    exact ⟨rfl,Int.le_refl _⟩
  ·rename_i h2
   rw [if_neg h2] at hs
   exact G.kind _ _ e hs
theorem ret_lf (h:Hp) (c:Cal):Lf h (retP h c).1:=by
 unfold retP
 split
 ·exact leave_lf h
 ·exact ((must_le h _).trans (must_le _ _)).lf.trans (leave_lf _)
theorem ret_kind (h:Hp) (c:Cal) (ho:h.over=false) (hs:(retP h c).1.stops=false):(retP h c).2.kind=c.m.ret.kind:=by
 unfold retP at hs ⊢
 split
 ·rename_i h1;exact h1.symm
 ·rename_i h1
  rw [if_neg h1] at hs
  dsimp only at hs ⊢
  have ho1:(h.must (c.has 1)).over=false:=by
   cases hc:c.has 1 with
   | true=>simpa [Hp.must] using ho
   | false =>
    exfalso
    rw [hc] at hs
    simp [Hp.must,Hp.fin,ho,Hp.stops,Hp.leave] at hs
  have:=must_stops hs ho1
  rw [Bool.and_eq_true] at this
  exact of_kind this.2
theorem stepP_lf {n:Nat} {go:Hp→Cal→Hp×Va} (G:GoK n go) (h:Hp) (c:Cal):Lf h (stepP go h c).1:=by
 unfold stepP
 split
 ·exact (must_le h _).lf.trans (leave_lf _)
 split
 ·exact ret_lf h c
 ·refine Lf.trans ?_ (next_lf G _)
  split
  ·exact call_lf G h c _
  ·exact (does_le h c _).lf
theorem stepP_kind {n:Nat} {go:Hp→Cal→Hp×Va} (G:GoK n go) (h:Hp) (c:Cal) (e:Enough n h) (ho:h.over=false) (hs:(stepP go h c).1.stops=false):(stepP go h c).2.kind=c.m.ret.kind:=by
 unfold stepP at hs ⊢
 split
 ·rename_i h1
  rw [if_pos h1] at hs
  have:=must_stops hs ho
  unfold Hp.mustB at h1
  rw [this,ho] at h1
  simp at h1
 ·rename_i h1
  rw [if_neg h1] at hs
  split
  ·rename_i h2
   rw [if_pos h2] at hs
   exact ret_kind h c ho hs
  ·rename_i h2
   rw [if_neg h2] at hs
   have e2:Enough n (if (nth in0 c.m.code c.pc.toNat).op=19 then callP go h c (nth in0 c.m.code c.pc.toNat) else doesP h c (nth in0 c.m.code c.pc.toNat)).h:=by
    split
    ·exact (call_lf G h c _).enough e
    ·exact (does_le h c _).lf.enough e
   rw [next_kind G _ e2 hs]
   split
   ·rw [call_m]
   ·rw [does_m]
theorem stepH_lf (h:Hp):Lf h h.step:=(step_le h).lf
theorem step_stops {h:Hp} (hb:h.stepB=false):h.step.over=true:=by
 unfold Hp.stepB at hb
 unfold Hp.step
 by_cases ho:h.over=true
 ·rw [if_pos ho];exact ho
 ·rw [if_neg ho]
  simp [ho] at hb
  rw [if_pos hb]
  simp [Hp.fin,ho]
theorem loop_gok:∀n:Nat,GoK n (loopP n)
 | 0=>⟨fun h c=>(stepH_lf h).trans (leave_lf _),fun h c e hs=>by
   exfalso
   have:=step_stops (stepB_no (k:=0) e)
   simp [loopP,Hp.stops,Hp.leave,this] at hs⟩
 | n+1=>by
  have G:=loop_gok n
  refine ⟨fun h c=>?_,fun h c e hs=>?_⟩
  ·unfold loopP
   split
   ·exact (stepH_lf h).trans (leave_lf _)
   ·exact (stepH_lf h).trans (stepP_lf G _ _)
  ·unfold loopP at hs ⊢
   split
   ·rename_i h1
    rw [if_pos h1] at hs
    have:=step_stops h1
    simp [Hp.stops,Hp.leave,this] at hs
   ·rename_i h1
    rw [if_neg h1] at hs
    have hb:h.stepB=true:=by simpa using h1
    exact stepP_kind G _ _ (enough_step e hb) (stepB_steps hb).2.2.1 hs
theorem cont_over {k:Nat} {r:Hp×Va} {cs:List Cal} (h:r.1.over=true):contS k r cs=⟨r.1.sh.fin,0,0,r.1.sh.out,r.1.sh.used,r.1.sh.steps⟩:=by unfold contS;rw [if_pos h]
theorem end_on (k:Nat) (how:Int) (h:Hp) (hn:how≠2):onS k (endM how va0 h)=⟨how,0,0,h.sh.out,h.sh.used,h.sh.steps⟩:=by
 unfold onS endM finS
 dsimp only
 rw [if_pos rfl,if_neg hn]
 rfl
def Sim (n:Nat):Prop:=∀(h:Hp) (c:Cal),h.stops=false→Enough n h→∀(k:Nat) (cs:List Cal),Enough k h→runS k h (c::cs)=contS k (loopP n h c) cs
theorem loop_over (n:Nat) (h:Hp) (c:Cal) (ho:h.over=true):loopP n h c=(h.leave,va0):=by
 have hs:h.step=h:=by unfold Hp.step;rw [if_pos ho]
 cases n with
 | zero=>unfold loopP;rw [hs]
 | succ n =>
  unfold loopP
  rw [if_pos (by unfold Hp.stepB;rw [ho];rfl),hs]
theorem putH_fin {h:Hp} {c:Cal} {v:Va} (hs:h.stops=false) (hr:¬(sizP (c.stk++[v]):Int)≤c.m.stack):h.putH c v={ h with over:=true,sh:={ h.sh with fin:=6 } }:=by
 have ho:h.over=false:=by
  unfold Hp.stops at hs
  rw [Bool.or_eq_false_iff] at hs
  exact hs.1
 unfold Hp.putH
 rw [if_neg (by rw [hs];decide)]
 unfold Hp.must
 rw [if_neg (by simpa using hr)]
 unfold Hp.fin
 rw [if_neg (by rw [ho];decide)]
theorem putH_yes {h:Hp} {c:Cal} {v:Va} (hr:(sizP (c.stk++[v]):Int)≤c.m.stack):h.putH c v=h:=by
 unfold Hp.putH
 split
 ·rfl
 ·unfold Hp.must
  rw [if_pos (by simpa using hr)]
theorem sim_thrown {n:Nat} (S:Sim n) (d:Did) (ho:d.h.over=false) (ht:0≤d.h.thrown) (e:Enough n d.h) (k:Nat) (cs:List Cal) (ek:Enough k d.h) :
  onS k (unwM d.h (d.c::cs))=contS k (nextP (loopP n) d) cs:=by
 unfold unwM nextP
 rw [if_neg (show ¬d.h.over=true by rw [ho];decide),if_pos ht]
 by_cases hc:d.h.caughtL d.c.pc d.c.m.hands<0
 ·rw [if_pos hc,if_pos hc]
  unfold contS
  have h1:d.h.leave.over=false:=ho
  have h2:0≤d.h.leave.thrown:=ht
  dsimp only
  rw [if_neg (by rw [h1];decide),if_pos h2]
 ·rw [if_neg hc,if_neg hc]
  have hst:({ d.h with thrown:=-1 }:Hp).stops=false:=by simp [Hp.stops,ho]
  by_cases hr:(sizP [(⟨3,d.h.thrown⟩:Va)]:Int)≤d.c.m.stack
  ·rw [if_pos hr]
   rw [putH_yes (h:={ d.h with thrown:=-1 }) (c:={ d.c with stk:=[] }) hr]
   have:=S { d.h with thrown:=-1 } { d.c with stk:=[⟨3,d.h.thrown⟩],pc:=d.h.caughtL d.c.pc d.c.m.hands } hst e k cs ek
   have e0:∀h cs,onS k (goM h cs)=runS k h cs:=by
    intro h cs
    unfold onS goM
    rw [if_neg (by simp)]
   rw [e0]
   exact this
  ·rw [if_neg hr]
   rw [putH_fin (h:={ d.h with thrown:=-1 }) (c:={ d.c with stk:=[] }) hst hr]
   rw [loop_over _ _ _ rfl,cont_over rfl,end_on _ _ _ (by decide)]
   rfl
theorem sim_did {n:Nat} (S:Sim n) (d:Did) (e:Enough n d.h) (k:Nat) (cs:List Cal) (ek:Enough k d.h) (hf:d.h.over=true→d.h.sh.fin≠2) :
  onS k (didM d cs)=contS k (nextP (loopP n) d) cs:=by
 unfold didM
 by_cases ho:d.h.over=true
 ·rw [if_pos ho,end_on _ _ _ (hf ho)]
  have:nextP (loopP n) d=(d.h.leave,va0):=by unfold nextP;rw [if_pos ho]
  rw [this,cont_over ho]
  rfl
 ·rw [if_neg ho]
  have ho':d.h.over=false:=by simpa using ho
  by_cases ht:0≤d.h.thrown
  ·rw [if_pos ht]
   exact sim_thrown S d ho' ht e k cs ek
  ·rw [if_neg ht]
   have:nextP (loopP n) d=loopP n d.h { d.c with pc:=d.nx }:=by unfold nextP;rw [if_neg ho,if_neg ht]
   rw [this]
   have hst:d.h.stops=false:=by simp [Hp.stops,ho',ht]
   have:=S d.h { d.c with pc:=d.nx } hst e k cs ek
   have e0:∀h cs,onS k (goM h cs)=runS k h cs:=by
    intro h cs
    unfold onS goM
    rw [if_neg (by simp)]
   rw [e0]
   exact this
theorem stops_parts {h:Hp} (hs:h.stops=false):h.over=false∧¬0≤h.thrown:=by
 unfold Hp.stops at hs
 rw [Bool.or_eq_false_iff] at hs
 exact ⟨hs.1,by simpa using hs.2⟩
theorem sim_back {k:Nat} {h:Hp} {v:Va} {cs:List Cal} (hs:h.stops=false):contS k (h,v) cs=onS k (backM h v cs):=by
 obtain ⟨h1,h2⟩:=stops_parts hs
 unfold contS
 dsimp only
 rw [if_neg (by rw [h1];decide),if_neg h2]
theorem sim_ret (h:Hp) (c:Cal) (hs:h.stops=false) (k:Nat) (cs:List Cal):onS k (retM h c cs)=contS k (retP h c) cs:=by
 obtain ⟨h1,h2⟩:=stops_parts hs
 unfold retM retP
 by_cases hr:c.m.ret.kind=0
 ·rw [if_pos hr,if_pos hr]
  exact (sim_back (h:=h.leave) hs).symm
 ·rw [if_neg hr,if_neg hr]
  cases hc:c.has 1 with
  | false =>
   rw [if_pos rfl]
   have e1:h.must false={ h with over:=true,sh:={ h.sh with fin:=6 } }:=by simp [Hp.must,Hp.fin,h1]
   dsimp only
   rw [e1]
   have e2:(({ h with over:=true,sh:={ h.sh with fin:=6 } }:Hp).must (!({ h with over:=true,sh:={ h.sh with fin:=6 } }:Hp).over&&({ h with over:=true,sh:={ h.sh with fin:=6 } }:Hp).of (nth va0 (c.top 1) 0) c.m.ret))={ h with over:=true,sh:={ h.sh with fin:=6 } }:=by
    simp [Hp.must,Hp.fin]
   rw [e2,cont_over rfl,end_on _ _ _ (by decide)]
   rfl
  | true =>
   rw [if_neg (by decide)]
   have e1:h.must true=h:=by simp [Hp.must]
   dsimp only
   rw [e1]
   cases ho:h.of (nth va0 (c.top 1) 0) c.m.ret with
   | true =>
    rw [if_pos rfl]
    have e2:h.must (!h.over&&true)=h:=by simp [Hp.must,h1]
    rw [e2]
    exact (sim_back (h:=h.leave) hs).symm
   | false =>
    rw [if_neg (by decide)]
    have e2:h.must (!h.over&&false)={ h with over:=true,sh:={ h.sh with fin:=6 } }:=by simp [Hp.must,Hp.fin,h1]
    rw [e2,cont_over rfl,end_on _ _ _ (by decide)]
    rfl
theorem next_end {go:Hp→Cal→Hp×Va} {d:Did} (ho:d.h.over=true) {k:Nat} {cs:List Cal}:contS k (nextP go d) cs=⟨d.h.sh.fin,0,0,d.h.sh.out,d.h.sh.used,d.h.sh.steps⟩:=by
 have:nextP go d=(d.h.leave,va0):=by unfold nextP;rw [if_pos ho]
 rw [this,cont_over ho]
 rfl
theorem sim_call {n:Nat} (S:Sim n) (h:Hp) (c:Cal) (i:In) (hs:h.stops=false) (e:Enough n h) (k:Nat) (cs:List Cal) (ek:Enough k h) :
  onS k (calM h c cs i)=contS k (nextP (loopP n) (callP (loopP n) h c i)) cs:=by
 obtain ⟨h1,h2⟩:=stops_parts hs
 have G:=loop_gok n
 unfold calM callP
 dsimp only
 generalize hm:nth me0 h.file.methods i.a.toNat=m
 cases hc:c.has m.params.length with
 | false =>
  rw [if_pos rfl]
  have e1:h.must false={ h with over:=true,sh:={ h.sh with fin:=6 } }:=by simp [Hp.must,Hp.fin,h1]
  rw [e1,if_pos rfl,next_end rfl,end_on _ _ _ (by decide)]
 | true =>
  rw [if_neg (by decide)]
  have e1:h.must true=h:=by simp [Hp.must]
  rw [e1,if_neg (show ¬h.over=true by rw [h1];decide)]
  cases hl:h.enterL (c.top m.params.length) m.params with
  | false =>
   rw [if_pos rfl]
   have e2:runP (loopP n) h m (c.top m.params.length)=({ h with over:=true,sh:={ h.sh with fin:=6 } },va0):=by
    simp [runP,Hp.enterB,Hp.enterH,hl,Hp.fin,h1]
   rw [e2]
   dsimp only
   rw [if_neg (by simp [Hp.stops]),next_end rfl,end_on _ _ _ (by decide)]
  | true =>
   rw [if_neg (by decide)]
   cases hd:h.deep with
   | true =>
    rw [if_pos rfl]
    have e2:runP (loopP n) h m (c.top m.params.length)=({ h with over:=true,sh:={ h.sh with fin:=5 } },va0):=by
     simp [runP,Hp.enterB,Hp.enterH,hl,hd,Hp.fin,h1]
    rw [e2]
    dsimp only
    rw [if_neg (by simp [Hp.stops]),next_end rfl,end_on _ _ _ (by decide)]
   | false =>
    rw [if_neg (by decide)]
    have e2:runP (loopP n) h m (c.top m.params.length)=loopP n { h with calls:=h.calls+1 } (newCal m (c.top m.params.length)):=by
     simp [runP,Hp.enterB,Hp.enterH,hl,hd]
    rw [e2]
    have hst:({ h with calls:=h.calls+1 }:Hp).stops=false:=hs
    have IH:=S { h with calls:=h.calls+1 } (newCal m (c.top m.params.length)) hst e k (c.cut m.params.length::cs) ek
    have e3:onS k (goM { h with calls:=h.calls+1 } (newCal m (c.top m.params.length)::c.cut m.params.length::cs))=runS k { h with calls:=h.calls+1 } (newCal m (c.top m.params.length)::c.cut m.params.length::cs):=by
     unfold onS goM;rw [if_neg (by simp)]
    rw [e3,IH]
    clear e3 IH
    have hlf:=G.lf { h with calls:=h.calls+1 } (newCal m (c.top m.params.length))
    have hkd:=G.kind { h with calls:=h.calls+1 } (newCal m (c.top m.params.length)) e
    have hlf':Lf h (loopP n { h with calls:=h.calls+1 } (newCal m (c.top m.params.length))).1:=⟨hlf.fuel,hlf.steps⟩
    generalize loopP n { h with calls:=h.calls+1 } (newCal m (c.top m.params.length))=r at hlf hkd hlf'
    obtain ⟨rh,rv⟩:=r
    dsimp only at hlf hkd hlf' ⊢
    have er:=hlf'.enough e
    have erk:=hlf'.enough ek
    by_cases hro:rh.over=true
    ·rw [cont_over hro]
     rw [if_neg (by simp [Hp.stops,hro])]
     rw [next_end hro]
    ·have hro':rh.over=false:=by simpa using hro
     by_cases hrt:0≤rh.thrown
     ·rw [if_neg (by simp [Hp.stops,hrt])]
      rw [←sim_thrown S ⟨rh,c.cut m.params.length,c.pc+1⟩ hro' hrt er k cs erk]
      unfold contS
      dsimp only
      rw [if_neg hro,if_pos hrt]
     ·have hrs:rh.stops=false:=by simp [Hp.stops,hro',hrt]
      have hrk:rv.kind=m.ret.kind:=hkd hrs
      rw [sim_back hrs]
      have hpc:(c.cut m.params.length).pc=c.pc:=(cut_m c _).2.1
      rw [backM]
      by_cases hv:rv.kind=0
      ·rw [if_pos hv,if_neg (by rw [←hrk];simp [hv])]
       have:=sim_did S ⟨rh,c.cut m.params.length,c.pc+1⟩ er k cs erk (fun q=>absurd q hro)
       rw [←this]
       unfold didM
       dsimp only
       rw [if_neg hro,if_neg hrt,hpc]
      ·rw [if_neg hv,if_pos (show rh.stops=false∧m.ret.kind≠0 from ⟨hrs,by rw [←hrk];exact hv⟩)]
       by_cases hroom:(sizP ((c.cut m.params.length).stk++[rv]):Int)≤(c.cut m.params.length).m.stack
       ·rw [if_pos hroom,putH_yes hroom]
        have:=sim_did S ⟨rh,(c.cut m.params.length).put rv,c.pc+1⟩ er k cs erk (fun q=>absurd q hro)
        rw [←this]
        unfold didM
        dsimp only
        rw [if_neg hro,if_neg hrt,hpc]
       ·rw [if_neg hroom,putH_fin hrs hroom,next_end rfl,end_on _ _ _ (by decide)]
def NoTwo (h:Hp):Prop:=h.over=true→h.sh.fin≠2
theorem two_safe:Safe NoTwo :=
 ⟨fun h e he p=>by
   unfold Hp.fin;split
   ·exact p
   ·intro _;show e≠2;omega,
  fun h o p=>p,fun h t p=>p,fun h n p=>p,fun h p=>p⟩
theorem does_two (h:Hp) (c:Cal) (i:In) (hf:NoTwo h):NoTwo (doesP h c i).h:=two_safe.does hf c i
theorem sim_all:∀n:Nat,Sim n
 | 0=>by
  intro h c hs e k cs ek
  have hb:=stepB_no (k:=0) e
  obtain ⟨h1,h2⟩:=stops_parts hs
  have hf:h.fuel≤h.sh.steps:=by unfold Enough at e;omega
  have es:h.step={ h with over:=true,sh:={ h.sh with fin:=0 } }:=by
   unfold Hp.step Hp.fin
   rw [if_neg (by rw [h1];decide),if_pos hf,if_neg (by rw [h1];decide)]
  have el:loopP 0 h c=(h.step.leave,va0):=rfl
  rw [el,es,cont_over rfl]
  cases k with
  | zero=>rfl
  | succ k =>
   unfold runS
   rw [runM,if_pos hb]
   rfl
 | n+1=>by
  have S:=sim_all n
  intro h c hs e k cs ek
  obtain ⟨h1,h2⟩:=stops_parts hs
  cases hb:h.stepB with
  | false =>
   have hf:h.fuel≤h.sh.steps:=by
    unfold Hp.stepB at hb
    simp [h1] at hb
    exact hb
   have es:h.step={ h with over:=true,sh:={ h.sh with fin:=0 } }:=by
    unfold Hp.step Hp.fin
    rw [if_neg (by rw [h1];decide),if_pos hf,if_neg (by rw [h1];decide)]
   have el:loopP (n+1) h c=(h.step.leave,va0):=by rw [loopP,if_pos hb]
   rw [el,es,cont_over rfl]
   cases k with
   | zero=>rfl
   | succ k =>
    unfold runS
    rw [runM,if_pos hb]
    rfl
  | true =>
   have el:loopP (n+1) h c=stepP (loopP n) h.step c:=by rw [loopP,if_neg (by rw [hb];decide)]
   obtain ⟨k',hk⟩:∃k',k=k'+1:=by
    cases k with
    | zero=>rw [stepB_no (k:=0) ek] at hb;exact absurd hb (by decide)
    | succ k=>exact ⟨k,rfl⟩
   subst hk
   rw [el,run_on hb]
   have e1:=enough_step e hb
   have ek1:=enough_step ek hb
   obtain ⟨-,-,s3,s4,-,-⟩:=stepB_steps hb
   have hs1:h.step.stops=false:=by
    unfold Hp.stops
    rw [s3,s4]
    simpa using h2
   generalize h.step=hh at *
   have ek2:Enough (k'+1) hh:=by unfold Enough at *;omega
   have up:∀(o:Mo),Lf hh o.h→onS k' o=onS (k'+1) o:=fun o l=>on_enough (l.enough ek1) (l.enough ek2)
   rw [up _ (step_lf hh c cs)]
   unfold stepM stepP
   by_cases hp:c.pc<c.m.code.length
   ·rw [if_neg (by simpa using hp)]
    have hmb:¬(hh.mustB (decide (c.pc<c.m.code.length))=false):=by simp [Hp.mustB,hp,s3]
    rw [if_neg hmb]
    by_cases h20:(nth in0 c.m.code c.pc.toNat).op=20
    ·rw [if_pos h20,if_pos h20]
     exact sim_ret hh c hs1 (k'+1) cs
    ·rw [if_neg h20,if_neg h20]
     by_cases h19:(nth in0 c.m.code c.pc.toNat).op=19
     ·rw [if_pos h19,if_pos h19]
      exact sim_call S hh c _ hs1 e1 (k'+1) cs ek2
     ·rw [if_neg h19,if_neg h19]
      have hl:=(does_le hh c (nth in0 c.m.code c.pc.toNat)).lf
      exact sim_did S _ (hl.enough e1) (k'+1) cs (hl.enough ek2) (does_two hh c _ (fun q=>by rw [s3] at q;exact absurd q (by decide)))
   ·rw [if_pos (by simpa using hp)]
    have hmb:hh.mustB (decide (c.pc<c.m.code.length))=false:=by simp [Hp.mustB,hp]
    rw [if_pos hmb]
    have e2:hh.must (decide (c.pc<c.m.code.length))={ hh with over:=true,sh:={ hh.sh with fin:=6 } }:=by simp [Hp.must,Hp.fin,hp,s3]
    rw [e2,cont_over rfl,end_on _ _ _ (by decide)]
    rfl
theorem Gc.objs {h h':Hp} {c:Cal} (g:Gc h c) (e1:h'.objs=h.objs) (e2:h'.file=h.file):Gc h' c :=
 ⟨fun v hv=>⟨fun e=>by rw [e1];exact (g.stk v hv).ref e,(g.stk v hv).num⟩,fun v hv=>⟨fun e=>by rw [e1];exact (g.locs v hv).ref e,(g.locs v hv).num⟩,g.ok,g.room,g.len,by rw [e2];exact g.me,g.mok⟩
def IC (h:Hp) (cs:List Cal):Prop:=∀c∈cs,Gc h c∧0≤c.pc∧c.pc<c.m.code.length
theorem IC.objs {h h':Hp} {cs:List Cal} (g:IC h cs) (e1:h'.objs=h.objs) (e2:h'.file=h.file):IC h' cs:=fun c hc=>⟨(g c hc).1.objs e1 e2,(g c hc).2⟩
theorem IC.le {h h':Hp} {cs:List Cal} (g:IC h cs) (l:Le h h'):IC h' cs:=fun c hc=>⟨(g c hc).1.le l,(g c hc).2⟩
structure IM (f:Fi) (inp:List Int) (h:Hp) (cs:List Cal):Prop where
 file:h.file=f
 input:h.input=inp
 may:MayF f
 gh:Gh 0 h
 over:h.over=false
 thr:h.thrown=-1
 calls:h.calls=cs.length
 ex:∃c cs',cs=c::cs'∧Gc h c∧0≤c.pc∧c.pc≤c.m.code.length∧IC h cs'
theorem unw_inv (f:Fi) (inp:List Int) (hmay:MayF f):∀(cs:List Cal) (h:Hp),h.file=f→h.input=inp→Gh 0 h→h.over=false→0≤h.thrown→h.calls=cs.length→IC h cs→(unwM h cs).fin=false→IM f inp (unwM h cs).h (unwM h cs).cs∧(unwM h cs).h.sh=h.sh∧(unwM h cs).h.fuel=h.fuel
 | [],h,_,_,_,_,_,_,_,hfin=>by cases hfin
 | c::cs,h,hf,hin,gh,ho,ht,hc,hI,hfin=>by
  have hg:=hI c List.mem_cons_self
  have hlen:h.calls=(cs.length:Int)+1:=by rw [hc];simp
  by_cases hcl:h.caughtL c.pc c.m.hands<0
  ·have e:unwM h (c::cs)=unwM h.leave cs:=if_pos hcl
   rw [e] at hfin ⊢
   have hcb:=gh.calls
   have gl:Gh 0 h.leave:=⟨fun o ho x hx=>⟨fun e=>(gh.held o ho x hx).ref e,(gh.held o ho x hx).num⟩,gh.thr,gh.used,gh.steps,gh.fuel,gh.out,gh.len,gh.inp,by show 0≤h.calls-1∧h.calls-1≤20;omega⟩
   exact unw_inv f inp hmay cs h.leave hf hin gl ho ht (by show h.calls-1=_;omega) (IC.objs (fun x hx=>hI x (List.mem_cons_of_mem _ hx)) rfl rfl) hfin
  ·by_cases hr:(sizP [(⟨3,h.thrown⟩:Va)]:Int)≤c.m.stack
   ·have e:unwM h (c::cs)=goM { h with thrown:=-1 } ({ c with stk:=[⟨3,h.thrown⟩],pc:=h.caughtL c.pc c.m.hands }::cs):=by
     show (if _ then _ else _)=_
     rw [if_neg hcl,if_pos hr]
    rw [e]
    have gt:Gh 0 { h with thrown:=-1 }:=gh.same rfl rfl rfl rfl rfl rfl rfl ⟨by dsimp only;omega,by dsimp only;omega⟩
    have g1:=hg.1.objs (h':={ h with thrown:=-1 }) rfl rfl
    have h1:=caught_at (h:=h) (pc:=c.pc) (n:=c.m.code.length) (k:=h.file.classes.length) c.m.hands (smeP hg.1.me).2.2.2.2.2.2.2.2.2.1
    refine ⟨⟨hf,hin,hmay,gt,ho,rfl,by show h.calls=_;rw [hc];simp [goM],_,cs,rfl,⟨fun v hv=>?_,g1.locs,g1.ok,hr,g1.len,g1.me,g1.mok⟩,by show 0≤h.caughtL c.pc c.m.hands;omega,by show h.caughtL c.pc c.m.hands≤c.m.code.length;omega,IC.objs (fun x hx=>hI x (List.mem_cons_of_mem _ hx)) rfl rfl⟩,rfl,rfl⟩
    obtain rfl:v=⟨3,h.thrown⟩:=by simpa using hv
    exact ⟨fun _=>⟨by dsimp only;omega,gh.thr.2⟩,by have:=gh.thr;have:=gh.len;dsimp only;unfold I64;omega⟩
   ·have e:unwM h (c::cs)=endM 6 va0 h:=by
     show (if _ then _ else _)=_
     rw [if_neg hcl,if_neg hr]
    rw [e] at hfin
    cases hfin
theorem step_inv {f:Fi} {inp:List Int} {h:Hp} {c:Cal} {cs:List Cal} (hf:h.file=f) (hinp:h.input=inp) (hmay:MayF f) (gh:Gh 1 h) (ho:h.over=false) (hth:h.thrown=-1) (hc:h.calls=(c::cs).length) (gc:Gc h c) (hp:0≤c.pc∧c.pc≤c.m.code.length) (hI:IC h cs) (hfin:(stepM h c cs).fin=false) :
  IM f inp (stepM h c cs).h (stepM h c cs).cs:=by
 have hlen:h.calls=(cs.length:Int)+1:=by rw [hc];simp
 have hcb:=gh.calls
 unfold stepM at hfin ⊢
 by_cases hlt:c.pc<c.m.code.length
 ·rw [if_neg (by simpa using hlt)] at hfin ⊢
  obtain ⟨ok,iok⟩:=code_ok gc ⟨hp.1,hlt⟩
  generalize hin:nth in0 c.m.code c.pc.toNat=i at *
  by_cases h20:i.op=20
  ·rw [if_pos h20] at hfin ⊢
   have gl:Gh 0 h.leave:=⟨fun o ho x hx=>⟨fun e=>(gh.held o ho x hx).ref e,(gh.held o ho x hx).num⟩,gh.thr,gh.used,gh.steps,gh.fuel,by have:=gh.out;show (h.sh.out.length:Int)+((0:Nat):Int)≤h.sh.steps;omega,gh.len,gh.inp,by show 0≤h.calls-1∧h.calls-1≤20;omega⟩
   have hback:∀v,GdV h v→(backM h.leave v cs).fin=false→IM f inp (backM h.leave v cs).h (backM h.leave v cs).cs:=fun v gv hfn=>by
    cases cs with
    | nil=>cases hfn
    | cons c2 cs2 =>
     have h2:=hI c2 List.mem_cons_self
     have hr:IC h.leave cs2:=IC.objs (fun x hx=>hI x (List.mem_cons_of_mem _ hx)) rfl rfl
     have hcl:h.leave.calls=((c2::cs2).length:Int):=by show h.calls-1=_;omega
     unfold backM at hfn ⊢
     dsimp only at hfn ⊢
     by_cases hv:v.kind=0
     ·rw [if_pos hv] at hfn ⊢
      exact ⟨hf,hinp,hmay,gl,ho,hth,hcl,_,cs2,rfl,(h2.1.objs (h':=h.leave) rfl rfl).pc _,by show 0≤c2.pc+1;have:=h2.2.1;omega,by show c2.pc+1≤c2.m.code.length;have:=h2.2.2;omega,hr⟩
     ·rw [if_neg hv] at hfn ⊢
      by_cases hs:(sizP (c2.stk++[v]):Int)≤c2.m.stack
      ·rw [if_pos hs] at hfn ⊢
       exact ⟨hf,hinp,hmay,gl,ho,hth,hcl,_,cs2,rfl,((h2.1.objs (h':=h.leave) rfl rfl).put ⟨fun e=>gv.ref e,gv.num⟩ hs).pc _,by show 0≤c2.pc+1;omega,by show c2.pc+1≤c2.m.code.length;have:=h2.2.2;omega,hr⟩
      ·rw [if_neg hs] at hfn;cases hfn
   unfold retM at hfin ⊢
   by_cases hr0:c.m.ret.kind=0
   ·rw [if_pos hr0] at hfin ⊢;exact hback _ (gdV0 _) hfin
   ·rw [if_neg hr0] at hfin ⊢
    by_cases hh:c.has 1=false
    ·rw [if_pos hh] at hfin;cases hfin
    ·rw [if_neg hh] at hfin ⊢
     by_cases hof:h.of (nth va0 (c.top 1) 0) c.m.ret=true
     ·rw [if_pos hof] at hfin ⊢;exact hback _ (top_gd' gc 1 0 (by decide)) hfin
     ·rw [if_neg hof] at hfin;cases hfin
  ·rw [if_neg h20] at hfin ⊢
   by_cases h19:i.op=19
   ·rw [if_pos h19] at hfin ⊢
    unfold calM at hfin ⊢
    dsimp only at hfin ⊢
    have hia:=ok.call h19
    have hmm:=(hf▸hmay:MayF h.file) _ (nth_mem (d:=me0) (i:=i.a.toNat) (by omega:i.a.toNat<h.file.methods.length))
    generalize hM:nth me0 h.file.methods i.a.toNat=m at *
    by_cases hh:c.has m.params.length=false
    ·rw [if_pos hh] at hfin;cases hfin
    rw [if_neg hh] at hfin ⊢
    by_cases he:h.enterL (c.top m.params.length) m.params=false
    ·rw [if_pos he] at hfin;cases hfin
    rw [if_neg he] at hfin ⊢
    by_cases hd:h.deep=true
    ·rw [if_pos hd] at hfin;cases hfin
    rw [if_neg hd] at hfin ⊢
    have hd':h.calls<20:=by unfold Hp.deep at hd;simp at hd;exact hd
    have g2:Gh 0 { h with calls:=h.calls+1 }:=⟨fun o ho x hx=>⟨fun e=>(gh.held o ho x hx).ref e,(gh.held o ho x hx).num⟩,gh.thr,gh.used,gh.steps,gh.fuel,by have:=gh.out;show (h.sh.out.length:Int)+((0:Nat):Int)≤h.sh.steps;omega,gh.len,gh.inp,by show 0≤h.calls+1∧h.calls+1≤20;omega⟩
    have gn:Gc h (newCal m (c.top m.params.length)):=new_kept hmm.1 hmm.2 (top_length c _) (fun v hv=>by
     have e:c.top m.params.length=c.stk.drop (c.stk.length-m.params.length):=by unfold Cal.top;rw [if_pos (has_go (by simpa using hh))]
     rw [e] at hv
     exact gc.stk v (List.mem_of_mem_drop hv)) (by simpa using he)
    have cm:=cut_m c m.params.length
    refine ⟨hf,hinp,hmay,g2,ho,hth,by show h.calls+1=_;rw [hc];simp [goM],_,c.cut m.params.length::cs,rfl,gn.objs rfl rfl,Int.le_refl _,by show (0:Int)≤m.code.length;omega,?_⟩
    intro x hx
    rcases List.mem_cons.1 hx with rfl|hx
    ·exact ⟨(gc.cut _).objs rfl rfl,by rw [cm.2.1];exact hp.1,by rw [cm.2.1,cm.1];exact hlt⟩
    ·exact (IC.objs (h':={ h with calls:=h.calls+1 }) hI rfl rfl) x hx
   ·rw [if_neg h19] at hfin ⊢
    have k:=does_kept gh gc ho hth ok iok ⟨hp.1,hlt⟩
    generalize doesP h c i=d at *
    unfold didM at hfin ⊢
    by_cases hov:d.h.over=true
    ·rw [if_pos hov] at hfin;cases hfin
    rw [if_neg hov] at hfin ⊢
    have hov':d.h.over=false:=by simpa using hov
    have gd:=k.gc hov'
    have hdc:d.h.calls=((d.c::cs).length:Int):=by rw [k.le.calls,hlen];simp
    by_cases hthr:0≤d.h.thrown
    ·rw [if_pos hthr] at hfin ⊢
     refine (unw_inv f inp hmay (d.c::cs) d.h (k.le.file.trans hf) (k.le.input.trans hinp) k.gh hov' hthr hdc ?_ hfin).1
     intro x hx
     rcases List.mem_cons.1 hx with rfl|hx
     ·exact ⟨gd,by rw [k.pc];exact hp.1,by rw [k.pc,k.m];exact hlt⟩
     ·exact hI.le k.le x hx
    ·rw [if_neg hthr] at hfin ⊢
     have ht':d.h.thrown=-1:=by have:=k.gh.thr;omega
     exact ⟨k.le.file.trans hf,k.le.input.trans hinp,hmay,k.gh,hov',ht',hdc,_,cs,rfl,gd.pc _,k.nx.1,by show d.nx≤d.c.m.code.length;rw [k.m];exact k.nx.2,hI.le k.le⟩
 ·rw [if_pos hlt] at hfin
  cases hfin
end Go.Proofs.Ytimjmdfokicbkaa
