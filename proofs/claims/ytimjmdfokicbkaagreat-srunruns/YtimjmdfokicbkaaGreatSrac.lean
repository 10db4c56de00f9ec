import Derived.Test.YtimjmdfokicbkaaGreatSrab
namespace Go.Proofs.YtimjmdfokicbkaaGreat
set_option linter.unusedVariables false
set_option linter.unusedSimpArgs false
set_option maxHeartbeats 40000000
set_option maxRecDepth 100000
open Go.RowKit
open Go.Value (int)
open Go.IntKind (i64)
structure Mo where
 fin:Bool
 how:Int
 v:Va
 h:Hp
 cs:List aH
def v7 (h:Hp) (cs:List aH):Mo:=⟨false,0,ag,h,cs⟩
def gL (how:Int) (v:Va) (h:Hp):Mo:=⟨true,how,v,h,[]⟩
def unwM (h:Hp):List aH->Mo
 | []=>gL 2 ⟨3,h.thrown⟩ h
 | c::cs=>if h.caughtL c.pc c.m.hands<0 then unwM h.leave cs
  else if (aP [(⟨3,h.thrown⟩:Va)]:Int)≤c.m.stack then v7 { h with thrown:=-1 } ({ c with stk:=[⟨3,h.thrown⟩],pc:=h.caughtL c.pc c.m.hands }::cs)
  else gL 6 ag h
def g6 (h:Hp) (v:Va):List aH->Mo
 | []=>gL 1 v h
 | c::cs=>if v.kind=0 then v7 h ({ c with pc:=c.pc+1 }::cs)
  else if (aP (c.stk++[v]):Int)≤c.m.stack then v7 h ({ c.put v with pc:=c.pc+1 }::cs)
  else gL 6 ag h
def ym (h:Hp) (c:aH) (cs:List aH):Mo :=
 if c.m.ret.kind=0 then g6 h.leave ag cs
 else if c.has 1=false then gL 6 ag h
 else if h.of (nth ag (c.top 1) 0) c.m.ret=true then g6 h.leave (nth ag (c.top 1) 0) cs
 else gL 6 ag h
def sX (h:Hp) (c:aH) (cs:List aH) (i:In):Mo :=
 let m:=nth bM h.file.methods i.a.toNat
 if c.has m.params.length=false then gL 6 ag h
 else if h.enterL (c.top m.params.length) m.params=false then gL 6 ag h
 else if h.deep=true then gL 5 ag h
 else v7 { h with calls:=h.calls+1 } (bT m (c.top m.params.length)::c.cut m.params.length::cs)
def po (d:jx) (cs:List aH):Mo :=
 if d.h.over=true then gL d.h.sh.fin ag d.h
 else if 0≤d.h.thrown then unwM d.h (d.c::cs)
 else v7 d.h ({ d.c with pc:=d.nx }::cs)
def dT (h:Hp) (c:aH) (cs:List aH):Mo :=
 if ¬c.pc<c.m.code.length then gL 6 ag h
 else if (nth fX c.m.code c.pc.toNat).op=20 then ym h c cs
 else if (nth fX c.m.code c.pc.toNat).op=19 then sX h c cs (nth fX c.m.code c.pc.toNat)
 else po (aM h c (nth fX c.m.code c.pc.toNat)) cs
def runM:Nat->Hp->List aH->Mo
 | 0,h,cs=>gL 0 ag h
 | n+1,h,[]=>gL 0 ag h
 | n+1,h,c::cs=>if h.stepB=false then gL 0 ag h
  else if (dT h.step c cs).fin=true then dT h.step c cs
  else runM n (dT h.step c cs).h (dT h.step c cs).cs
def ob (o:Mo):Sh :=
 if o.how=2 then ⟨2,0,(o.h.obj o.v.n).cls,o.h.sh.out,o.h.sh.used,o.h.sh.steps⟩
 else ⟨o.how,if o.v.kind=3 then 0 else o.v.n,0,o.h.sh.out,o.h.sh.used,o.h.sh.steps⟩
def pY (n:Nat) (h:Hp) (cs:List aH):Sh:=ob (runM n h cs)
def rB (k:Nat) (o:Mo):Sh:=if o.fin=true then ob o else pY k o.h o.cs
def jL (k:Nat) (r:Hp×Va) (cs:List aH):Sh :=
 if r.1.over=true then ⟨r.1.sh.fin,0,0,r.1.sh.out,r.1.sh.used,r.1.sh.steps⟩
 else if 0≤r.1.thrown then rB k (unwM r.1 cs)
 else rB k (g6 r.1 r.2 cs)
def cq (k:Nat) (h:Hp):Prop:=h.fuel-h.sh.steps≤k
section
variable (h:Hp) (c:aH) (i:In)
theorem Bh:Le h (bZ h c i).h:=by
 unfold bZ
 dsimp only
 split
 ·exact (au h _).trans (lV _ _ _ _)
 ·exact ((au h _).trans (lV _ _ _ _)).trans (dp _ _ _)
theorem nA:Le h (aM h c i).h:=by
 unfold aM
 split
 ·exact Le.refl h
 split
 ·exact (au h _).trans (au _ _)
 split
 ·exact (au h _).trans (au _ _)
 split
 ·unfold vL;dsimp only;split
  ·exact au h _
  ·exact (au h _).trans (vV _ _)
 split
 ·unfold kQ;dsimp only;split
  ·exact dp _ _ _
  ·exact au h _
 split
 ·exact (au h _).trans (au _ _)
 split
 ·exact au h _
 split
 ·unfold pj;dsimp only;split
  ·exact au h _
  ·exact ((au h _).trans (dp _ _ _)).trans (dp _ _ _)
 split
 ·unfold oO;dsimp only;split
  ·exact au h _
  ·exact (au h _).trans (zD _ _ _)
 split
 ·unfold jZ;dsimp only;split
  ·exact au h _
  ·split
   ·exact (au h _).trans (DW _ _ _ _ _)
   ·exact (au h _).trans (au _ _)
 ·exact Bh h c i
theorem Mb:(aM h c i).c.m=c.m:=by
 have hc:=fun k=>(mw c k).1
 unfold aM
 split
 ·rfl
 split
 ·exact hc 1
 split
 ·exact hc 1
 split
 ·exact hc 1
 split
 ·unfold kQ;dsimp only;split<;>rfl
 split
 ·unfold kB;dsimp only;split
  ·exact hc 1
  ·exact hc 1
 split
 ·exact hc 1
 split
 ·unfold pj;dsimp only;split
  ·exact hc 1
  ·exact hc 1
 split
 ·exact hc 1
 split
 ·exact hc 2
 ·unfold bZ;dsimp only;split
  ·exact hc _
  ·exact hc _
end
structure Lf (h h':Hp):Prop where
 fuel:h'.fuel=h.fuel
 steps:h.sh.steps≤h'.sh.steps
theorem Lf.refl (h:Hp):Lf h h:=⟨rfl,Int.le_refl _⟩
theorem Lf.trans {a b c:Hp} (h:Lf a b) (k:Lf b c):Lf a c:=⟨k.fuel.trans h.fuel,Int.le_trans h.steps k.steps⟩
theorem Le.lf {h h':Hp} (l:Le h h'):Lf h h':=⟨l.fuel,l.steps⟩
theorem Lf.enough {h h':Hp} (l:Lf h h') {k:Nat} (e:cq k h):cq k h':=by
 have:=l.fuel;have:=l.steps;unfold cq at *;omega
theorem fN (h:Hp):Lf h h.leave:=⟨rfl,Int.le_refl _⟩
theorem unw_lf:∀(cs:List aH) (h:Hp),Lf h (unwM h cs).h
 | [],h=>Lf.refl h
 | c::cs,h=>by
  unfold unwM
  split
  ·exact (fN h).trans (unw_lf cs h.leave)
  ·split
   ·exact ⟨rfl,Int.le_refl _⟩
   ·exact Lf.refl h
theorem zJ (h:Hp) (v:Va) (cs:List aH):Lf h (g6 h v cs).h:=by
 cases cs with
 | nil=>exact Lf.refl h
 | cons c cs =>
  have e:(g6 h v (c::cs)).h=h:=by
   rw [g6]
   by_cases h1:v.kind=0
   ·rw [if_pos h1];rfl
   ·rw [if_neg h1]
    by_cases h2:(aP (c.stk++[v]):Int)≤c.m.stack
    ·rw [if_pos h2];rfl
    ·rw [if_neg h2];rfl
  rw [e]
  exact Lf.refl h
theorem pE (h:Hp) (c:aH) (cs:List aH):Lf h (dT h c cs).h:=by
 unfold dT
 split
 ·exact Lf.refl h
 split
 ·unfold ym
  split
  ·exact (fN h).trans (zJ _ _ _)
  split
  ·exact Lf.refl h
  split
  ·exact (fN h).trans (zJ _ _ _)
  ·exact Lf.refl h
 split
 ·unfold sX
  dsimp only
  split
  ·exact Lf.refl h
  split
  ·exact Lf.refl h
  split
  ·exact Lf.refl h
  ·exact ⟨rfl,Int.le_refl _⟩
 ·unfold po
  have hl:=(nA h c (nth fX c.m.code c.pc.toNat)).lf
  split
  ·exact hl
  split
  ·exact hl.trans (unw_lf _ _)
  ·exact hl
theorem fW {h:Hp} (hb:h.stepB=true):h.step.sh.steps=h.sh.steps+1/\h.step.fuel=h.fuel/\h.step.over=false/\h.step.thrown=h.thrown/\h.step.file=h.file/\h.step.calls=h.calls:=by
 unfold Hp.stepB at hb
 simp at hb
 have e:h.step={ h with sh:={ h.sh with steps:=h.sh.steps+1 } }:=by
  unfold Hp.step
  rw [if_neg (by rw [hb.1];decide),if_neg (by omega)]
 rw [e]
 exact ⟨rfl,rfl,hb.1,rfl,rfl,rfl⟩
theorem ll {k:Nat} {h:Hp} (e:cq 0 h):h.stepB=false:=by
 unfold cq at e
 unfold Hp.stepB
 have:¬h.sh.steps<h.fuel:=by omega
 simp [this]
theorem fp {k:Nat} {h:Hp} (e:cq (k+1) h) (hb:h.stepB=true):cq k h.step:=by
 obtain ⟨h1,h2,-⟩:=fW hb
 unfold cq at *
 omega
theorem pZ:∀(k k':Nat) (h:Hp) (cs:List aH),cq k h->cq k' h->runM k h cs=runM k' h cs
 | 0,0,h,cs,_,_=>rfl
 | 0,k'+1,h,[],_,_=>rfl
 | 0,k'+1,h,c::cs,e,_=>by
  unfold runM
  rw [if_pos (ll (k:=0) e)]
 | k+1,0,h,[],_,_=>rfl
 | k+1,0,h,c::cs,_,e=>by
  unfold runM
  rw [if_pos (ll (k:=0) e)]
 | k+1,k'+1,h,[],_,_=>rfl
 | k+1,k'+1,h,c::cs,e,e'=>by
  rw [runM,runM]
  by_cases hb:h.stepB=false
  ·rw [if_pos hb,if_pos hb]
  ·have vp:h.stepB=true:=by simpa using hb
   rw [if_neg hb,if_neg hb]
   by_cases hf:(dT h.step c cs).fin=true
   ·rw [if_pos hf,if_pos hf]
   ·rw [if_neg hf,if_neg hf]
    exact pZ k k' _ _ ((pE h.step c cs).enough (fp e vp)) ((pE h.step c cs).enough (fp e' vp))
theorem Bi {k k':Nat} {o:Mo} (e:cq k o.h) (e':cq k' o.h):rB k o=rB k' o:=by
 unfold rB pY
 rw [pZ k k' o.h o.cs e e']
theorem Md {k:Nat} {h:Hp} {c:aH} {cs:List aH} (hb:h.stepB=true):pY (k+1) h (c::cs)=rB k (dT h.step c cs):=by
 unfold pY rB
 rw [runM,if_neg (by rw [hb];decide)]
 split<;>rfl
structure KR (n:Nat) (go:Hp->aH->Hp×Va):Prop where
 lf:∀h c,Lf h (go h c).1
 kind:∀h c,cq n h->(go h c).1.stops=false->(go h c).2.kind=c.m.ret.kind
theorem qa {h:Hp} {b:Bool} (ho:(h.must b).leave.stops=false) (hb:h.over=false):b=true:=by
 cases b with
 | true=>rfl
 | false =>
  simp [Hp.must,Hp.fin,hb,Hp.stops,Hp.leave] at ho
theorem Mf (go:Hp->aH->Hp×Va) (h:Hp) (c:aH) (i:In):(gu go h c i).c.m=c.m:=by
 unfold gu
 dsimp only
 split
 ·exact (mw c _).1
 ·split
  ·exact (mw c _).1
  ·exact (mw c _).1
theorem v8 (h:Hp) (m:Me) (l:List Va):Lf h (h.enterH m l):=by
 unfold Hp.enterH
 split
 ·exact (gy h 6).lf
 ·split
  ·exact (gy h 5).lf
  ·exact ⟨rfl,Int.le_refl _⟩
section
variable {n:Nat} {go:Hp->aH->Hp×Va}
theorem D5 (G:KR n go) (h:Hp) (m:Me) (l:List Va):Lf h (fY go h m l).1:=by
 unfold fY
 split
 ·exact (v8 h m l).trans (G.lf _ _)
 ·exact v8 h m l
theorem sY (G:KR n go) (h:Hp) (c:aH) (i:In):Lf h (gu go h c i).h:=by
 unfold gu
 dsimp only
 split
 ·exact (au h _).lf
 ·split
  ·exact ((au h _).lf.trans (D5 G _ _ _)).trans (dp _ _ _).lf
  ·exact (au h _).lf.trans (D5 G _ _ _)
theorem Iq (G:KR n go) (d:jx):Lf d.h (dM go d).1:=by
 unfold dM
 split
 ·exact fN _
 split
 ·split
  ·exact fN _
  ·refine Lf.trans ?_ (G.lf _ _)
   refine Lf.trans ?_ (dp _ _ _).lf
   exact ⟨rfl,Int.le_refl _⟩
 ·exact G.lf _ _
theorem Bj (G:KR n go) (d:jx) (e:cq n d.h) (hs:(dM go d).1.stops=false):(dM go d).2.kind=d.c.m.ret.kind:=by
 unfold dM at hs ⊢
 split
 ·rename_i h1
  rw [if_pos h1] at hs
  simp [Hp.stops,Hp.leave,h1] at hs
 ·rename_i h1
  rw [if_neg h1] at hs
  split
  ·rename_i h2
   rw [if_pos h2] at hs
   split
   ·rename_i h3
    rw [if_pos h3] at hs
    have:(d.h.leave,ag).1.stops=true:=by simp [Hp.stops,Hp.leave,h2]
    rw [this] at hs
    exact absurd hs (by decide)
   ·rename_i h3
    rw [if_neg h3] at hs
    refine G.kind _ _ ?_ hs
    refine Lf.enough ?_ e
    refine Lf.trans ?_ (dp _ _ _).lf
    exact ⟨rfl,Int.le_refl _⟩
  ·rename_i h2
   rw [if_neg h2] at hs
   exact G.kind _ _ e hs
end
theorem Mh (h:Hp) (c:aH):Lf h (ju h c).1:=by
 unfold ju
 split
 ·exact fN h
 ·exact ((au h _).trans (au _ _)).lf.trans (fN _)
theorem wa (h:Hp) (c:aH) (ho:h.over=false) (hs:(ju h c).1.stops=false):(ju h c).2.kind=c.m.ret.kind:=by
 unfold ju at hs ⊢
 split
 ·rename_i h1;exact h1.symm
 ·rename_i h1
  rw [if_neg h1] at hs
  dsimp only at hs ⊢
  have NP:(h.must (c.has 1)).over=false:=by
   cases hc:c.has 1 with
   | true=>simpa [Hp.must] using ho
   | false =>
    exfalso
    rw [hc] at hs
    simp [Hp.must,Hp.fin,ho,Hp.stops,Hp.leave] at hs
  have:=qa hs NP
  rw [Bool.and_eq_true] at this
  exact zG this.2
section
variable {n:Nat} {go:Hp->aH->Hp×Va}
theorem D6 (G:KR n go) (h:Hp) (c:aH):Lf h (gw go h c).1:=by
 unfold gw
 split
 ·exact (au h _).lf.trans (fN _)
 split
 ·exact Mh h c
 ·refine Lf.trans ?_ (Iq G _)
  split
  ·exact sY G h c _
  ·exact (nA h c _).lf
theorem yn (G:KR n go) (h:Hp) (c:aH) (e:cq n h) (ho:h.over=false) (hs:(gw go h c).1.stops=false):(gw go h c).2.kind=c.m.ret.kind:=by
 unfold gw at hs ⊢
 split
 ·rename_i h1
  rw [if_pos h1] at hs
  have:=qa hs ho
  unfold Hp.mustB at h1
  rw [this,ho] at h1
  simp at h1
 ·rename_i h1
  rw [if_neg h1] at hs
  split
  ·rename_i h2
   rw [if_pos h2] at hs
   exact wa h c ho hs
  ·rename_i h2
   rw [if_neg h2] at hs
   have e2:cq n (if (nth fX c.m.code c.pc.toNat).op=19 then gu go h c (nth fX c.m.code c.pc.toNat) else aM h c (nth fX c.m.code c.pc.toNat)).h:=by
    split
    ·exact (sY G h c _).enough e
    ·exact (nA h c _).lf.enough e
   rw [Bj G _ e2 hs]
   split
   ·rw [Mf]
   ·rw [Mb]
end
theorem qc (h:Hp):Lf h h.step:=(jH h).lf
theorem qd {h:Hp} (hb:h.stepB=false):h.step.over=true:=by
 unfold Hp.stepB at hb
 unfold Hp.step
 by_cases ho:h.over=true
 ·rw [if_pos ho];exact ho
 ·rw [if_neg ho]
  simp [ho] at hb
  rw [if_pos hb]
  simp [Hp.fin,ho]
theorem nC:∀n:Nat,KR n (bF n)
 | 0=>⟨fun h c=>(qc h).trans (fN _),fun h c e hs=>by
   exfalso
   have:=qd (ll (k:=0) e)
   simp [bF,Hp.stops,Hp.leave,this] at hs⟩
 | n+1=>by
  have G:=nC n
  refine ⟨fun h c=>?_,fun h c e hs=>?_⟩
  ·unfold bF
   split
   ·exact (qc h).trans (fN _)
   ·exact (qc h).trans (D6 G _ _)
  ·unfold bF at hs ⊢
   split
   ·rename_i h1
    rw [if_pos h1] at hs
    have:=qd h1
    simp [Hp.stops,Hp.leave,this] at hs
   ·rename_i h1
    rw [if_neg h1] at hs
    have hb:h.stepB=true:=by simpa using h1
    exact yn G _ _ (fp e hb) (fW hb).2.2.1 hs
theorem fC {k:Nat} {r:Hp×Va} {cs:List aH} (h:r.1.over=true):jL k r cs=⟨r.1.sh.fin,0,0,r.1.sh.out,r.1.sh.used,r.1.sh.steps⟩:=by unfold jL;rw [if_pos h]
theorem kG (k:Nat) (how:Int) (h:Hp) (hn:how≠2):rB k (gL how ag h)=⟨how,0,0,h.sh.out,h.sh.used,h.sh.steps⟩:=by
 unfold rB gL ob
 dsimp only
 rw [if_pos rfl,if_neg hn]
 rfl
def Qx (n:Nat):Prop:=∀(h:Hp) (c:aH),h.stops=false->cq n h->∀(k:Nat) (cs:List aH),cq k h->pY k h (c::cs)=jL k (bF n h c) cs
theorem Bk (n:Nat) (h:Hp) (c:aH) (ho:h.over=true):bF n h c=(h.leave,ag):=by
 have hs:h.step=h:=by unfold Hp.step;rw [if_pos ho]
 cases n with
 | zero=>unfold bF;rw [hs]
 | succ n =>
  unfold bF
  rw [if_pos (by unfold Hp.stepB;rw [ho];rfl),hs]
theorem we {h:Hp} {c:aH} {v:Va} (hs:h.stops=false) (hr:¬(aP (c.stk++[v]):Int)≤c.m.stack):h.putH c v={ h with over:=true,sh:={ h.sh with fin:=6 } }:=by
 have ho:h.over=false:=by
  unfold Hp.stops at hs
  rw [Bool.or_eq_false_iff] at hs
  exact hs.1
 unfold Hp.putH
 rw [if_neg (by rw [hs];decide)]
 unfold Hp.must
 rw [if_neg (by simpa using hr)]
 unfold Hp.fin
 rw [if_neg (by rw [ho];decide)]
theorem wh {h:Hp} {c:aH} {v:Va} (hr:(aP (c.stk++[v]):Int)≤c.m.stack):h.putH c v=h:=by
 unfold Hp.putH
 split
 ·rfl
 ·unfold Hp.must
  rw [if_pos (by simpa using hr)]
theorem qe {n:Nat} (S:Qx n) (d:jx) (ho:d.h.over=false) (ht:0≤d.h.thrown) (e:cq n d.h) (k:Nat) (cs:List aH) (ek:cq k d.h) :
  rB k (unwM d.h (d.c::cs))=jL k (dM (bF n) d) cs:=by
 unfold unwM dM
 rw [if_neg (show ¬d.h.over=true by rw [ho];decide),if_pos ht]
 by_cases hc:d.h.caughtL d.c.pc d.c.m.hands<0
 ·rw [if_pos hc,if_pos hc]
  unfold jL
  have h1:d.h.leave.over=false:=ho
  have h2:0≤d.h.leave.thrown:=ht
  dsimp only
  rw [if_neg (by rw [h1];decide),if_pos h2]
 ·rw [if_neg hc,if_neg hc]
  have hst:({ d.h with thrown:=-1 }:Hp).stops=false:=by simp [Hp.stops,ho]
  by_cases hr:(aP [(⟨3,d.h.thrown⟩:Va)]:Int)≤d.c.m.stack
  ·rw [if_pos hr]
   rw [wh (h:={ d.h with thrown:=-1 }) (c:={ d.c with stk:=[] }) hr]
   have:=S { d.h with thrown:=-1 } { d.c with stk:=[⟨3,d.h.thrown⟩],pc:=d.h.caughtL d.c.pc d.c.m.hands } hst e k cs ek
   have e0:∀h cs,rB k (v7 h cs)=pY k h cs:=by
    intro h cs
    unfold rB v7
    rw [if_neg (by simp)]
   rw [e0]
   exact this
  ·rw [if_neg hr]
   rw [we (h:={ d.h with thrown:=-1 }) (c:={ d.c with stk:=[] }) hst hr]
   rw [Bk _ _ _ rfl,fC rfl,kG _ _ _ (by decide)]
   rfl
theorem sZ {n:Nat} (S:Qx n) (d:jx) (e:cq n d.h) (k:Nat) (cs:List aH) (ek:cq k d.h) (hf:d.h.over=true->d.h.sh.fin≠2) :
  rB k (po d cs)=jL k (dM (bF n) d) cs:=by
 unfold po
 by_cases ho:d.h.over=true
 ·rw [if_pos ho,kG _ _ _ (hf ho)]
  have:dM (bF n) d=(d.h.leave,ag):=by unfold dM;rw [if_pos ho]
  rw [this,fC ho]
  rfl
 ·rw [if_neg ho]
  have pQ:d.h.over=false:=by simpa using ho
  by_cases ht:0≤d.h.thrown
  ·rw [if_pos ht]
   exact qe S d pQ ht e k cs ek
  ·rw [if_neg ht]
   have:dM (bF n) d=bF n d.h { d.c with pc:=d.nx }:=by unfold dM;rw [if_neg ho,if_neg ht]
   rw [this]
   have hst:d.h.stops=false:=by simp [Hp.stops,pQ,ht]
   have:=S d.h { d.c with pc:=d.nx } hst e k cs ek
   have e0:∀h cs,rB k (v7 h cs)=pY k h cs:=by
    intro h cs
    unfold rB v7
    rw [if_neg (by simp)]
   rw [e0]
   exact this
theorem g7 {h:Hp} (hs:h.stops=false):h.over=false/\¬0≤h.thrown:=by
 unfold Hp.stops at hs
 rw [Bool.or_eq_false_iff] at hs
 exact ⟨hs.1,by simpa using hs.2⟩
theorem qf {k:Nat} {h:Hp} {v:Va} {cs:List aH} (hs:h.stops=false):jL k (h,v) cs=rB k (g6 h v cs):=by
 obtain ⟨h1,h2⟩:=g7 hs
 unfold jL
 dsimp only
 rw [if_neg (by rw [h1];decide),if_neg h2]
theorem Ir (h:Hp) (c:aH) (hs:h.stops=false) (k:Nat) (cs:List aH):rB k (ym h c cs)=jL k (ju h c) cs:=by
 obtain ⟨h1,h2⟩:=g7 hs
 unfold ym ju
 by_cases hr:c.m.ret.kind=0
 ·rw [if_pos hr,if_pos hr]
  exact (qf (h:=h.leave) hs).symm
 ·rw [if_neg hr,if_neg hr]
  cases hc:c.has 1 with
  | false =>
   rw [if_pos rfl]
   have e1:h.must false={ h with over:=true,sh:={ h.sh with fin:=6 } }:=by simp [Hp.must,Hp.fin,h1]
   dsimp only
   rw [e1]
   have e2:(({ h with over:=true,sh:={ h.sh with fin:=6 } }:Hp).must (!({ h with over:=true,sh:={ h.sh with fin:=6 } }:Hp).over&&({ h with over:=true,sh:={ h.sh with fin:=6 } }:Hp).of (nth ag (c.top 1) 0) c.m.ret))={ h with over:=true,sh:={ h.sh with fin:=6 } }:=by
    simp [Hp.must,Hp.fin]
   rw [e2,fC rfl,kG _ _ _ (by decide)]
   rfl
  | true =>
   rw [if_neg (by decide)]
   have e1:h.must true=h:=by simp [Hp.must]
   dsimp only
   rw [e1]
   cases ho:h.of (nth ag (c.top 1) 0) c.m.ret with
   | true =>
    rw [if_pos rfl]
    have e2:h.must (!h.over&&true)=h:=by simp [Hp.must,h1]
    rw [e2]
    exact (qf (h:=h.leave) hs).symm
   | false =>
    rw [if_neg (by decide)]
    have e2:h.must (!h.over&&false)={ h with over:=true,sh:={ h.sh with fin:=6 } }:=by simp [Hp.must,Hp.fin,h1]
    rw [e2,fC rfl,kG _ _ _ (by decide)]
    rfl
theorem ln {go:Hp->aH->Hp×Va} {d:jx} (ho:d.h.over=true) {k:Nat} {cs:List aH}:jL k (dM go d) cs=⟨d.h.sh.fin,0,0,d.h.sh.out,d.h.sh.used,d.h.sh.steps⟩:=by
 have:dM go d=(d.h.leave,ag):=by unfold dM;rw [if_pos ho]
 rw [this,fC ho]
 rfl
theorem D7 {n:Nat} (S:Qx n) (h:Hp) (c:aH) (i:In) (hs:h.stops=false) (e:cq n h) (k:Nat) (cs:List aH) (ek:cq k h) :
  rB k (sX h c cs i)=jL k (dM (bF n) (gu (bF n) h c i)) cs:=by
 obtain ⟨h1,h2⟩:=g7 hs
 have G:=nC n
 unfold sX gu
 dsimp only
 generalize hm:nth bM h.file.methods i.a.toNat=m
 cases hc:c.has m.params.length with
 | false =>
  rw [if_pos rfl]
  have e1:h.must false={ h with over:=true,sh:={ h.sh with fin:=6 } }:=by simp [Hp.must,Hp.fin,h1]
  rw [e1,if_pos rfl,ln rfl,kG _ _ _ (by decide)]
 | true =>
  rw [if_neg (by decide)]
  have e1:h.must true=h:=by simp [Hp.must]
  rw [e1,if_neg (show ¬h.over=true by rw [h1];decide)]
  cases hl:h.enterL (c.top m.params.length) m.params with
  | false =>
   rw [if_pos rfl]
   have e2:fY (bF n) h m (c.top m.params.length)=({ h with over:=true,sh:={ h.sh with fin:=6 } },ag):=by
    simp [fY,Hp.enterB,Hp.enterH,hl,Hp.fin,h1]
   rw [e2]
   dsimp only
   rw [if_neg (by simp [Hp.stops]),ln rfl,kG _ _ _ (by decide)]
  | true =>
   rw [if_neg (by decide)]
   cases hd:h.deep with
   | true =>
    rw [if_pos rfl]
    have e2:fY (bF n) h m (c.top m.params.length)=({ h with over:=true,sh:={ h.sh with fin:=5 } },ag):=by
     simp [fY,Hp.enterB,Hp.enterH,hl,hd,Hp.fin,h1]
    rw [e2]
    dsimp only
    rw [if_neg (by simp [Hp.stops]),ln rfl,kG _ _ _ (by decide)]
   | false =>
    rw [if_neg (by decide)]
    have e2:fY (bF n) h m (c.top m.params.length)=bF n { h with calls:=h.calls+1 } (bT m (c.top m.params.length)):=by
     simp [fY,Hp.enterB,Hp.enterH,hl,hd]
    rw [e2]
    have hst:({ h with calls:=h.calls+1 }:Hp).stops=false:=hs
    have IH:=S { h with calls:=h.calls+1 } (bT m (c.top m.params.length)) hst e k (c.cut m.params.length::cs) ek
    have e3:rB k (v7 { h with calls:=h.calls+1 } (bT m (c.top m.params.length)::c.cut m.params.length::cs))=pY k { h with calls:=h.calls+1 } (bT m (c.top m.params.length)::c.cut m.params.length::cs):=by
     unfold rB v7;rw [if_neg (by simp)]
    rw [e3,IH]
    clear e3 IH
    have Iv:=G.lf { h with calls:=h.calls+1 } (bT m (c.top m.params.length))
    have hkd:=G.kind { h with calls:=h.calls+1 } (bT m (c.top m.params.length)) e
    have Iw:Lf h (bF n { h with calls:=h.calls+1 } (bT m (c.top m.params.length))).1:=⟨Iv.fuel,Iv.steps⟩
    generalize bF n { h with calls:=h.calls+1 } (bT m (c.top m.params.length))=r at Iv hkd Iw
    obtain ⟨rh,rv⟩:=r
    dsimp only at Iv hkd Iw ⊢
    have er:=Iw.enough e
    have RB:=Iw.enough ek
    by_cases DJ:rh.over=true
    ·rw [fC DJ]
     rw [if_neg (by simp [Hp.stops,DJ])]
     rw [ln DJ]
    ·have OG:rh.over=false:=by simpa using DJ
     by_cases NR:0≤rh.thrown
     ·rw [if_neg (by simp [Hp.stops,NR])]
      rw [<-qe S ⟨rh,c.cut m.params.length,c.pc+1⟩ OG NR er k cs RB]
      unfold jL
      dsimp only
      rw [if_neg DJ,if_pos NR]
     ·have Qy:rh.stops=false:=by simp [Hp.stops,OG,NR]
      have hrk:rv.kind=m.ret.kind:=hkd Qy
      rw [qf Qy]
      have oU:(c.cut m.params.length).pc=c.pc:=(mw c _).2.1
      rw [g6]
      by_cases hv:rv.kind=0
      ·rw [if_pos hv,if_neg (by rw [<-hrk];simp [hv])]
       have:=sZ S ⟨rh,c.cut m.params.length,c.pc+1⟩ er k cs RB (fun q=>absurd q DJ)
       rw [<-this]
       unfold po
       dsimp only
       rw [if_neg DJ,if_neg NR,oU]
      ·rw [if_neg hv,if_pos (show rh.stops=false/\m.ret.kind≠0 from ⟨Qy,by rw [<-hrk];exact hv⟩)]
       by_cases nD:(aP ((c.cut m.params.length).stk++[rv]):Int)≤(c.cut m.params.length).m.stack
       ·rw [if_pos nD,wh nD]
        have:=sZ S ⟨rh,(c.cut m.params.length).put rv,c.pc+1⟩ er k cs RB (fun q=>absurd q DJ)
        rw [<-this]
        unfold po
        dsimp only
        rw [if_neg DJ,if_neg NR,oU]
       ·rw [if_neg nD,we Qy nD,ln rfl,kG _ _ _ (by decide)]
def D8 (h:Hp):Prop:=h.over=true->h.sh.fin≠2
theorem D9:Safe D8 :=
 ⟨fun h e he p=>by
   unfold Hp.fin;split
   ·exact p
   ·intro _;show e≠2;omega,
  fun h o p=>p,fun h t p=>p,fun h n p=>p,fun h p=>p⟩
theorem wi (h:Hp) (c:aH) (i:In) (hf:D8 h):D8 (aM h c i).h:=D9.does hf c i
theorem zK:∀n:Nat,Qx n
 | 0=>by
  intro h c hs e k cs ek
  have hb:=ll (k:=0) e
  obtain ⟨h1,h2⟩:=g7 hs
  have hf:h.fuel≤h.sh.steps:=by unfold cq at e;omega
  have es:h.step={ h with over:=true,sh:={ h.sh with fin:=0 } }:=by
   unfold Hp.step Hp.fin
   rw [if_neg (by rw [h1];decide),if_pos hf,if_neg (by rw [h1];decide)]
  have el:bF 0 h c=(h.step.leave,ag):=rfl
  rw [el,es,fC rfl]
  cases k with
  | zero=>rfl
  | succ k =>
   unfold pY
   rw [runM,if_pos hb]
   rfl
 | n+1=>by
  have S:=zK n
  intro h c hs e k cs ek
  obtain ⟨h1,h2⟩:=g7 hs
  cases hb:h.stepB with
  | false =>
   have hf:h.fuel≤h.sh.steps:=by
    unfold Hp.stepB at hb
    simp [h1] at hb
    exact hb
   have es:h.step={ h with over:=true,sh:={ h.sh with fin:=0 } }:=by
    unfold Hp.step Hp.fin
    rw [if_neg (by rw [h1];decide),if_pos hf,if_neg (by rw [h1];decide)]
   have el:bF (n+1) h c=(h.step.leave,ag):=by rw [bF,if_pos hb]
   rw [el,es,fC rfl]
   cases k with
   | zero=>rfl
   | succ k =>
    unfold pY
    rw [runM,if_pos hb]
    rfl
  | true =>
   have el:bF (n+1) h c=gw (bF n) h.step c:=by rw [bF,if_neg (by rw [hb];decide)]
   obtain ⟨k',hk⟩:∃k',k=k'+1:=by
    cases k with
    | zero=>rw [ll (k:=0) ek] at hb;exact absurd hb (by decide)
    | succ k=>exact ⟨k,rfl⟩
   subst hk
   rw [el,Md hb]
   have e1:=fp e hb
   have VT:=fp ek hb
   obtain ⟨-,-,s3,s4,-,-⟩:=fW hb
   have xS:h.step.stops=false:=by
    unfold Hp.stops
    rw [s3,s4]
    simpa using h2
   generalize h.step=hh at *
   have RC:cq (k'+1) hh:=by unfold cq at *;omega
   have up:∀(o:Mo),Lf hh o.h->rB k' o=rB (k'+1) o:=fun o l=>Bi (l.enough VT) (l.enough RC)
   rw [up _ (pE hh c cs)]
   unfold dT gw
   by_cases hp:c.pc<c.m.code.length
   ·rw [if_neg (by simpa using hp)]
    have ko:¬(hh.mustB (decide (c.pc<c.m.code.length))=false):=by simp [Hp.mustB,hp,s3]
    rw [if_neg ko]
    by_cases oV:(nth fX c.m.code c.pc.toNat).op=20
    ·rw [if_pos oV,if_pos oV]
     exact Ir hh c xS (k'+1) cs
    ·rw [if_neg oV,if_neg oV]
     by_cases pn:(nth fX c.m.code c.pc.toNat).op=19
     ·rw [if_pos pn,if_pos pn]
      exact D7 S hh c _ xS e1 (k'+1) cs RC
     ·rw [if_neg pn,if_neg pn]
      have hl:=(nA hh c (nth fX c.m.code c.pc.toNat)).lf
      exact sZ S _ (hl.enough e1) (k'+1) cs (hl.enough RC) (wi hh c _ (fun q=>by rw [s3] at q;exact absurd q (by decide)))
   ·rw [if_pos (by simpa using hp)]
    have ko:hh.mustB (decide (c.pc<c.m.code.length))=false:=by simp [Hp.mustB,hp]
    rw [if_pos ko]
    have e2:hh.must (decide (c.pc<c.m.code.length))={ hh with over:=true,sh:={ hh.sh with fin:=6 } }:=by simp [Hp.must,Hp.fin,hp,s3]
    rw [e2,fC rfl,kG _ _ _ (by decide)]
    rfl
theorem Gc.objs {h h':Hp} {c:aH} (g:Gc h c) (e1:h'.objs=h.objs) (e2:h'.file=h.file):Gc h' c :=
 ⟨fun v hv=>⟨fun e=>by rw [e1];exact (g.stk v hv).ref e,(g.stk v hv).num⟩,fun v hv=>⟨fun e=>by rw [e1];exact (g.locs v hv).ref e,(g.locs v hv).num⟩,g.ok,g.room,g.len,by rw [e2];exact g.me,g.mok⟩
def IC (h:Hp) (cs:List aH):Prop:=∀c∈cs,Gc h c/\0≤c.pc/\c.pc<c.m.code.length
theorem IC.objs {h h':Hp} {cs:List aH} (g:IC h cs) (e1:h'.objs=h.objs) (e2:h'.file=h.file):IC h' cs:=fun c hc=>⟨(g c hc).1.objs e1 e2,(g c hc).2⟩
theorem IC.le {h h':Hp} {cs:List aH} (g:IC h cs) (l:Le h h'):IC h' cs:=fun c hc=>⟨(g c hc).1.le l,(g c hc).2⟩
structure IM (f:Fi) (inp:List Int) (h:Hp) (cs:List aH):Prop where
 file:h.file=f
 input:h.input=inp
 may:pX f
 gh:Gh 0 h
 over:h.over=false
 thr:h.thrown=-1
 calls:h.calls=cs.length
 ex:∃c cs',cs=c::cs'/\Gc h c/\0≤c.pc/\c.pc≤c.m.code.length/\IC h cs'
theorem unw_inv (f:Fi) (inp:List Int) (hmay:pX f):∀(cs:List aH) (h:Hp),h.file=f->h.input=inp->Gh 0 h->h.over=false->0≤h.thrown->h.calls=cs.length->IC h cs->(unwM h cs).fin=false->IM f inp (unwM h cs).h (unwM h cs).cs/\(unwM h cs).h.sh=h.sh/\(unwM h cs).h.fuel=h.fuel
 | [],h,_,_,_,_,_,_,_,hfin=>by cases hfin
 | c::cs,h,hf,oQ,gh,ho,ht,hc,hI,hfin=>by
  have hg:=hI c List.mem_cons_self
  have hlen:h.calls=(cs.length:Int)+1:=by rw [hc];simp
  by_cases hcl:h.caughtL c.pc c.m.hands<0
  ·have e:unwM h (c::cs)=unwM h.leave cs:=if_pos hcl
   rw [e] at hfin ⊢
   have Ea:=gh.calls
   have gl:Gh 0 h.leave:=⟨fun o ho x hx=>⟨fun e=>(gh.held o ho x hx).ref e,(gh.held o ho x hx).num⟩,gh.thr,gh.used,gh.steps,gh.fuel,gh.out,gh.len,gh.inp,by show 0≤h.calls-1/\h.calls-1≤20;omega⟩
   exact unw_inv f inp hmay cs h.leave hf oQ gl ho ht (by show h.calls-1=_;omega) (IC.objs (fun x hx=>hI x (List.mem_cons_of_mem _ hx)) rfl rfl) hfin
  ·by_cases hr:(aP [(⟨3,h.thrown⟩:Va)]:Int)≤c.m.stack
   ·have e:unwM h (c::cs)=v7 { h with thrown:=-1 } ({ c with stk:=[⟨3,h.thrown⟩],pc:=h.caughtL c.pc c.m.hands }::cs):=by
     show (if _ then _ else _)=_
     rw [if_neg hcl,if_pos hr]
    rw [e]
    have gt:Gh 0 { h with thrown:=-1 }:=gh.same rfl rfl rfl rfl rfl rfl rfl ⟨by dsimp only;omega,by dsimp only;omega⟩
    have g1:=hg.1.objs (h':={ h with thrown:=-1 }) rfl rfl
    have h1:=lW (h:=h) (pc:=c.pc) (n:=c.m.code.length) (k:=h.file.classes.length) c.m.hands (jh hg.1.me).2.2.2.2.2.2.2.2.2.1
    refine ⟨⟨hf,oQ,hmay,gt,ho,rfl,by show h.calls=_;rw [hc];simp [v7],_,cs,rfl,⟨fun v hv=>?_,g1.locs,g1.ok,hr,g1.len,g1.me,g1.mok⟩,by show 0≤h.caughtL c.pc c.m.hands;omega,by show h.caughtL c.pc c.m.hands≤c.m.code.length;omega,IC.objs (fun x hx=>hI x (List.mem_cons_of_mem _ hx)) rfl rfl⟩,rfl,rfl⟩
    obtain rfl:v=⟨3,h.thrown⟩:=by simpa using hv
    exact ⟨fun _=>⟨by dsimp only;omega,gh.thr.2⟩,by have:=gh.thr;have:=gh.len;dsimp only;unfold cP;omega⟩
   ·have e:unwM h (c::cs)=gL 6 ag h:=by
     show (if _ then _ else _)=_
     rw [if_neg hcl,if_neg hr]
    rw [e] at hfin
    cases hfin
theorem wj {f:Fi} {inp:List Int} {h:Hp} {c:aH} {cs:List aH} (hf:h.file=f) (mc:h.input=inp) (hmay:pX f) (gh:Gh 1 h) (ho:h.over=false) (iV:h.thrown=-1) (hc:h.calls=(c::cs).length) (gc:Gc h c) (hp:0≤c.pc/\c.pc≤c.m.code.length) (hI:IC h cs) (hfin:(dT h c cs).fin=false) :
  IM f inp (dT h c cs).h (dT h c cs).cs:=by
 have hlen:h.calls=(cs.length:Int)+1:=by rw [hc];simp
 have Ea:=gh.calls
 unfold dT at hfin ⊢
 by_cases hlt:c.pc<c.m.code.length
 ·rw [if_neg (by simpa using hlt)] at hfin ⊢
  obtain ⟨ok,Bd⟩:=lX gc ⟨hp.1,hlt⟩
  generalize oQ:nth fX c.m.code c.pc.toNat=i at *
  by_cases oV:i.op=20
  ·rw [if_pos oV] at hfin ⊢
   have gl:Gh 0 h.leave:=⟨fun o ho x hx=>⟨fun e=>(gh.held o ho x hx).ref e,(gh.held o ho x hx).num⟩,gh.thr,gh.used,gh.steps,gh.fuel,by have:=gh.out;show (h.sh.out.length:Int)+((0:Nat):Int)≤h.sh.steps;omega,gh.len,gh.inp,by show 0≤h.calls-1/\h.calls-1≤20;omega⟩
   have KS:∀v,iJ h v->(g6 h.leave v cs).fin=false->IM f inp (g6 h.leave v cs).h (g6 h.leave v cs).cs:=fun v gv Di=>by
    cases cs with
    | nil=>cases Di
    | cons c2 Qz =>
     have h2:=hI c2 List.mem_cons_self
     have hr:IC h.leave Qz:=IC.objs (fun x hx=>hI x (List.mem_cons_of_mem _ hx)) rfl rfl
     have hcl:h.leave.calls=((c2::Qz).length:Int):=by show h.calls-1=_;omega
     unfold g6 at Di ⊢
     dsimp only at Di ⊢
     by_cases hv:v.kind=0
     ·rw [if_pos hv] at Di ⊢
      exact ⟨hf,mc,hmay,gl,ho,iV,hcl,_,Qz,rfl,(h2.1.objs (h':=h.leave) rfl rfl).pc _,by show 0≤c2.pc+1;have:=h2.2.1;omega,by show c2.pc+1≤c2.m.code.length;have:=h2.2.2;omega,hr⟩
     ·rw [if_neg hv] at Di ⊢
      by_cases hs:(aP (c2.stk++[v]):Int)≤c2.m.stack
      ·rw [if_pos hs] at Di ⊢
       exact ⟨hf,mc,hmay,gl,ho,iV,hcl,_,Qz,rfl,((h2.1.objs (h':=h.leave) rfl rfl).put ⟨fun e=>gv.ref e,gv.num⟩ hs).pc _,by show 0≤c2.pc+1;omega,by show c2.pc+1≤c2.m.code.length;have:=h2.2.2;omega,hr⟩
      ·rw [if_neg hs] at Di;cases Di
   unfold ym at hfin ⊢
   by_cases yo:c.m.ret.kind=0
   ·rw [if_pos yo] at hfin ⊢;exact KS _ (lg _) hfin
   ·rw [if_neg yo] at hfin ⊢
    by_cases hh:c.has 1=false
    ·rw [if_pos hh] at hfin;cases hfin
    ·rw [if_neg hh] at hfin ⊢
     by_cases jz:h.of (nth ag (c.top 1) 0) c.m.ret=true
     ·rw [if_pos jz] at hfin ⊢;exact KS _ (kE gc 1 0 (by decide)) hfin
     ·rw [if_neg jz] at hfin;cases hfin
  ·rw [if_neg oV] at hfin ⊢
   by_cases pn:i.op=19
   ·rw [if_pos pn] at hfin ⊢
    unfold sX at hfin ⊢
    dsimp only at hfin ⊢
    have pq:=ok.call pn
    have jy:=(hf▸hmay:pX h.file) _ (bE (d:=bM) (i:=i.a.toNat) (by omega:i.a.toNat<h.file.methods.length))
    generalize hM:nth bM h.file.methods i.a.toNat=m at *
    by_cases hh:c.has m.params.length=false
    ·rw [if_pos hh] at hfin;cases hfin
    rw [if_neg hh] at hfin ⊢
    by_cases he:h.enterL (c.top m.params.length) m.params=false
    ·rw [if_pos he] at hfin;cases hfin
    rw [if_neg he] at hfin ⊢
    by_cases hd:h.deep=true
    ·rw [if_pos hd] at hfin;cases hfin
    rw [if_neg hd] at hfin ⊢
    have KT:h.calls<20:=by unfold Hp.deep at hd;simp at hd;exact hd
    have g2:Gh 0 { h with calls:=h.calls+1 }:=⟨fun o ho x hx=>⟨fun e=>(gh.held o ho x hx).ref e,(gh.held o ho x hx).num⟩,gh.thr,gh.used,gh.steps,gh.fuel,by have:=gh.out;show (h.sh.out.length:Int)+((0:Nat):Int)≤h.sh.steps;omega,gh.len,gh.inp,by show 0≤h.calls+1/\h.calls+1≤20;omega⟩
    have gn:Gc h (bT m (c.top m.params.length)):=ny jy.1 jy.2 (aC c _) (fun v hv=>by
     have e:c.top m.params.length=c.stk.drop (c.stk.length-m.params.length):=by unfold aH.top;rw [if_pos (DZ (by simpa using hh))]
     rw [e] at hv
     exact gc.stk v (List.mem_of_mem_drop hv)) (by simpa using he)
    have cm:=mw c m.params.length
    refine ⟨hf,mc,hmay,g2,ho,iV,by show h.calls+1=_;rw [hc];simp [v7],_,c.cut m.params.length::cs,rfl,gn.objs rfl rfl,Int.le_refl _,by show (0:Int)≤m.code.length;omega,?_⟩
    intro x hx
    rcases List.mem_cons.1 hx with rfl|hx
    ·exact ⟨(gc.cut _).objs rfl rfl,by rw [cm.2.1];exact hp.1,by rw [cm.2.1,cm.1];exact hlt⟩
    ·exact (IC.objs (h':={ h with calls:=h.calls+1 }) hI rfl rfl) x hx
   ·rw [if_neg pn] at hfin ⊢
    have k:=j9 gh gc ho iV ok Bd ⟨hp.1,hlt⟩
    generalize aM h c i=d at *
    unfold po at hfin ⊢
    by_cases bq:d.h.over=true
    ·rw [if_pos bq] at hfin;cases hfin
    rw [if_neg bq] at hfin ⊢
    have nz:d.h.over=false:=by simpa using bq
    have gd:=k.gc nz
    have RD:d.h.calls=((d.c::cs).length:Int):=by rw [k.le.calls,hlen];simp
    by_cases yp:0≤d.h.thrown
    ·rw [if_pos yp] at hfin ⊢
     refine (unw_inv f inp hmay (d.c::cs) d.h (k.le.file.trans hf) (k.le.input.trans mc) k.gh nz yp RD ?_ hfin).1
     intro x hx
     rcases List.mem_cons.1 hx with rfl|hx
     ·exact ⟨gd,by rw [k.pc];exact hp.1,by rw [k.pc,k.m];exact hlt⟩
     ·exact hI.le k.le x hx
    ·rw [if_neg yp] at hfin ⊢
     have Ma:d.h.thrown=-1:=by have:=k.gh.thr;omega
     exact ⟨k.le.file.trans hf,k.le.input.trans mc,hmay,k.gh,nz,Ma,RD,_,cs,rfl,gd.pc _,k.nx.1,by show d.nx≤d.c.m.code.length;rw [k.m];exact k.nx.2,hI.le k.le⟩
 ·rw [if_pos hlt] at hfin
  cases hfin
def zL (h:Hp):Prop:=h.over=true->h.sh.fin≠2
theorem qg {h:Hp} (n:zL h) (c:aH) (i:In):zL (aM h c i).h:=wi h c i n
theorem Bm {h:Hp} (ht:h.thrown=-1) (c:aH) (i:In) (hx:0≤(aM h c i).h.thrown):(aM h c i).c.locs=c.locs:=by
 have cm:=fun k=>(mw c k).2.2
 unfold aM at hx ⊢
 split
 ·rfl
 split
 ·exact cm 1
 split
 ·exact cm 1
 split
 ·exact cm 1
 split
 ·unfold kQ;dsimp only;split<;>rfl
 split
 ·rename_i h1 h2 h3 h4 h5 h6
  rw [if_neg h1,if_neg h2,if_neg h3,if_neg h4,if_neg h5,if_pos h6] at hx
  unfold kB at hx
  dsimp only at hx
  rw [jK,jK,ht] at hx
  omega
 split
 ·exact cm 1
 split
 ·unfold pj;dsimp only;split
  ·exact cm 1
  ·exact cm 1
 split
 ·exact cm 1
 split
 ·exact cm 2
 ·unfold bZ;dsimp only;split
  ·exact cm _
  ·exact cm _
theorem unw_same {h:Hp} {c c':aH} {cs:List aH} (e1:c'.m=c.m) (e2:c'.pc=c.pc) (e3:c'.locs=c.locs):unwM h (c'::cs)=unwM h (c::cs):=by
 show (if _ then _ else _)=(if _ then _ else _)
 rw [e1,e2,e3]
theorem lY (h:Hp):∀(vs:List Va) (ts:List Ty),vs.length=ts.length->(h.enterL vs ts=true↔∀k,k<ts.length->h.of (nth ag vs k) (nth cL ts k)=true)
 | [],[],_=>⟨fun _ k hk=>absurd hk (Nat.not_lt_zero _),fun _=>rfl⟩
 | [],t::ts,e=>by simp at e
 | v::vs,[],e=>by simp at e
 | v::vs,t::ts,e=>by
  have ih:=lY h vs ts (by simpa using e)
  show (h.of v t&&h.enterL vs ts)=true↔_
  rw [Bool.and_eq_true,ih]
  constructor
  ·rintro ⟨a,b⟩ k hk
   cases k with
   | zero=>exact a
   | succ k=>exact b k (by simpa using hk)
  ·intro a
   exact ⟨a 0 (by simp),fun k hk=>a (k+1) (by simpa using hk)⟩
theorem yq {w:World} {B:Option Addr} {l:List Me} (h:eD w B l):∀m∈l,∀i∈m.code,i.ok:=by
 intro m hm i hi
 obtain ⟨j,hj,rfl⟩:=List.getElem_of_mem hm
 rcases h.2 with h0|⟨mb,mo,-,hcell⟩
 ·omega
 obtain ⟨P,C,J,p,c,k,-,-,-,-,-,-,-,-,hme⟩:=hcell j hj
 rw [bP hj] at hme
 obtain ⟨q,hq,rfl⟩:=List.getElem_of_mem hi
 rcases hme.2.1.2 with h0|⟨xb,xo,-,hc⟩
 ·omega
 ·have:=(hc q hq).2.2.2.2.2.1
  rw [bP hq] at this
  exact this
theorem pF {w:World} {I:Option Addr} {l:List Int} (h:cM w I l):∀n∈l,cP n:=by
 intro n hn
 obtain ⟨j,hj,rfl⟩:=List.getElem_of_mem hn
 rcases h.2 with h0|⟨b,off,-,hc⟩
 ·omega
 ·have:=(hc j hj).2
  rw [bP hj] at this
  exact this
structure Ed (f:Fi) (inp:List Int) (o:Mo):Prop where
 file:o.h.file=f
 input:o.h.input=inp
 len:o.h.objs.length≤100
 thr:o.how=2->o.v.kind=3/\0≤o.v.n/\o.v.n<o.h.objs.length
theorem ix {f:Fi} {inp:List Int} {h:Hp} (hf:h.file=f) (hi:h.input=inp) (hl:h.objs.length≤100) {how:Int} (hn:how≠2) (v:Va):Ed f inp (gL how v h):=⟨hf,hi,hl,fun e=>absurd e hn⟩
theorem unw_ed (f:Fi) (inp:List Int):∀(cs:List aH) (h:Hp),h.file=f->h.input=inp->h.objs.length≤100->0≤h.thrown/\h.thrown<h.objs.length->(unwM h cs).fin=true->Ed f inp (unwM h cs)
 | [],h,hf,hi,hl,ht,_=>⟨hf,hi,hl,fun _=>⟨rfl,ht.1,ht.2⟩⟩
 | c::cs,h,hf,hi,hl,ht,hfin=>by
  by_cases hcl:h.caughtL c.pc c.m.hands<0
  ·have e:unwM h (c::cs)=unwM h.leave cs:=if_pos hcl
   rw [e] at hfin ⊢
   exact unw_ed f inp cs h.leave hf hi hl ht hfin
  ·by_cases hr:(aP [(⟨3,h.thrown⟩:Va)]:Int)≤c.m.stack
   ·have e:unwM h (c::cs)=v7 { h with thrown:=-1 } ({ c with stk:=[⟨3,h.thrown⟩],pc:=h.caughtL c.pc c.m.hands }::cs):=by
     show (if _ then _ else _)=_
     rw [if_neg hcl,if_pos hr]
    rw [e] at hfin
    cases hfin
   ·have e:unwM h (c::cs)=gL 6 ag h:=by
     show (if _ then _ else _)=_
     rw [if_neg hcl,if_neg hr]
    rw [e]
    exact ix hf hi hl (by decide) _
section
variable {f:Fi} {inp:List Int}
theorem zM {h:Hp} (hf:h.file=f) (hi:h.input=inp) (hl:h.objs.length≤100) (v:Va) (cs:List aH) (hfin:(g6 h v cs).fin=true):Ed f inp (g6 h v cs):=by
 cases cs with
 | nil=>exact ix hf hi hl (by decide) _
 | cons c cs =>
  rw [g6] at hfin ⊢
  by_cases h1:v.kind=0
  ·rw [if_pos h1] at hfin;cases hfin
  ·rw [if_neg h1] at hfin ⊢
   by_cases h2:(aP (c.stk++[v]):Int)≤c.m.stack
   ·rw [if_pos h2] at hfin;cases hfin
   ·rw [if_neg h2];exact ix hf hi hl (by decide) _
theorem Ix {h:Hp} {c:aH} {cs:List aH} (hf:h.file=f) (mc:h.input=inp) (gh:Gh 1 h) (ho:h.over=false) (iV:h.thrown=-1) (gc:Gc h c) (hp:0≤c.pc/\c.pc≤c.m.code.length) (hfin:(dT h c cs).fin=true) :
  Ed f inp (dT h c cs):=by
 unfold dT at hfin ⊢
 by_cases hlt:c.pc<c.m.code.length
 ·rw [if_neg (by simpa using hlt)] at hfin ⊢
  obtain ⟨ok,Bd⟩:=lX gc ⟨hp.1,hlt⟩
  generalize oQ:nth fX c.m.code c.pc.toNat=i at *
  by_cases oV:i.op=20
  ·rw [if_pos oV] at hfin ⊢
   unfold ym at hfin ⊢
   by_cases yo:c.m.ret.kind=0
   ·rw [if_pos yo] at hfin ⊢;exact zM (h:=h.leave) hf mc gh.len _ _ hfin
   ·rw [if_neg yo] at hfin ⊢
    by_cases hh:c.has 1=false
    ·rw [if_pos hh];exact ix hf mc gh.len (by decide) _
    ·rw [if_neg hh] at hfin ⊢
     by_cases jz:h.of (nth ag (c.top 1) 0) c.m.ret=true
     ·rw [if_pos jz] at hfin ⊢;exact zM (h:=h.leave) hf mc gh.len _ _ hfin
     ·rw [if_neg jz];exact ix hf mc gh.len (by decide) _
  ·rw [if_neg oV] at hfin ⊢
   by_cases pn:i.op=19
   ·rw [if_pos pn] at hfin ⊢
    unfold sX at hfin ⊢
    dsimp only at hfin ⊢
    generalize hM:nth bM h.file.methods i.a.toNat=m at *
    by_cases hh:c.has m.params.length=false
    ·rw [if_pos hh];exact ix hf mc gh.len (by decide) _
    rw [if_neg hh] at hfin ⊢
    by_cases he:h.enterL (c.top m.params.length) m.params=false
    ·rw [if_pos he];exact ix hf mc gh.len (by decide) _
    rw [if_neg he] at hfin ⊢
    by_cases hd:h.deep=true
    ·rw [if_pos hd];exact ix hf mc gh.len (by decide) _
    rw [if_neg hd] at hfin
    cases hfin
   ·rw [if_neg pn] at hfin ⊢
    have k:=j9 gh gc ho iV ok Bd ⟨hp.1,hlt⟩
    have hnt:zL (aM h c i).h:=qg (fun e=>by rw [ho] at e;cases e) c i
    generalize aM h c i=d at *
    have hl:=k.gh.len
    unfold po at hfin ⊢
    by_cases bq:d.h.over=true
    ·rw [if_pos bq];exact ix (k.le.file.trans hf) (k.le.input.trans mc) hl (hnt bq) _
    rw [if_neg bq] at hfin ⊢
    by_cases yp:0≤d.h.thrown
    ·rw [if_pos yp] at hfin ⊢
     exact unw_ed f inp (d.c::cs) d.h (k.le.file.trans hf) (k.le.input.trans mc) hl ⟨yp,k.gh.thr.2⟩ hfin
    ·rw [if_neg yp] at hfin;cases hfin
 ·rw [if_pos (by simpa using hlt)];exact ix hf mc gh.len (by decide) _
theorem Eb:∀(n:Nat) (h:Hp) (cs:List aH),IM f inp h cs->Ed f inp (runM n h cs)/\(runM n h cs).fin=true
 | 0,h,cs,im=>⟨ix im.file im.input im.gh.len (by decide) _,rfl⟩
 | n+1,h,[],im=>by obtain ⟨c,cs,e,-⟩:=im.ex;cases e
 | n+1,h,c::cs,im=>by
  obtain ⟨c',cs',e,gc,Hy,vh,hI⟩:=im.ex
  simp only [List.cons.injEq] at e
  obtain ⟨rfl,rfl⟩:=e
  rw [runM]
  cases hb:h.stepB with
  | false=>rw [if_pos rfl];exact ⟨ix im.file im.input im.gh.len (by decide) _,rfl⟩
  | true =>
   rw [if_neg (by decide)]
   obtain ⟨q1,q2,q3,q4,q5,q6⟩:=fW hb
   have sl:=jH h
   have OH:=im.gh.step hb
   by_cases hfin:(dT h.step c cs).fin=true
   ·rw [if_pos hfin]
    exact ⟨Ix (q5.trans im.file) (sl.input.trans im.input) OH q3 (q4.trans im.thr) (gc.le sl) ⟨Hy,vh⟩ hfin,hfin⟩
   ·rw [if_neg hfin]
    exact Eb n _ _ (wj (q5.trans im.file) (sl.input.trans im.input) im.may OH q3 (q4.trans im.thr) (q6.trans im.calls) (gc.le sl) ⟨Hy,vh⟩ (hI.le sl) (by simpa using hfin))
end
def VZ (h:Hp):Prop:=h.sh.value=0/\h.sh.cls=0
theorem su:Safe VZ:=⟨fun h e _ p=>by unfold Hp.fin;split<;>exact p,fun h o p=>p,fun h t p=>p,fun h n p=>p,fun h p=>p⟩
theorem VZ.fin {h:Hp} (hf:VZ h) (e:Int):VZ (h.fin e):=by
 unfold Hp.fin
 split
 ·exact hf
 ·exact hf
theorem VZ.must {h:Hp} (hf:VZ h) (b:Bool):VZ (h.must b):=su.must hf b
theorem VZ.putH {h:Hp} (hf:VZ h) (c:aH) (v:Va):VZ (h.putH c v):=su.putH hf c v
theorem Iy (h:Hp) (c:aH) (i:In) (hf:VZ h):VZ (aM h c i).h:=su.does hf c i
def OI (go:Hp->aH->Hp×Va):Prop:=∀h c,VZ h->VZ (go h c).1
theorem VZ.enter {h:Hp} (hf:VZ h) (m:Me) (l:List Va):VZ (h.enterH m l):=by
 unfold Hp.enterH
 split
 ·exact hf.fin _
 ·split
  ·exact hf.fin _
  ·exact hf
section
variable {go:Hp->aH->Hp×Va}
theorem Ec (G:OI go) {h:Hp} (hf:VZ h) (m:Me) (l:List Va):VZ (fY go h m l).1:=by
 unfold fY
 split
 ·exact G _ _ (hf.enter m l)
 ·exact hf.enter m l
theorem Iz (G:OI go) {h:Hp} (hf:VZ h) (c:aH) (i:In):VZ (gu go h c i).h:=by
 unfold gu
 dsimp only
 split
 ·exact hf.must _
 ·split
  ·exact (Ec G (hf.must _) _ _).putH _ _
  ·exact Ec G (hf.must _) _ _
theorem IA (G:OI go) (d:jx) (hf:VZ d.h):VZ (dM go d).1:=by
 unfold dM
 split
 ·exact hf
 split
 ·split
  ·exact hf
  ·exact G _ _ (VZ.putH (h:={ d.h with thrown:=-1 }) hf _ _)
 ·exact G _ _ hf
end
theorem Mi {h:Hp} (hf:VZ h) (c:aH):VZ (ju h c).1:=by
 unfold ju
 split
 ·exact hf
 ·exact (hf.must _).must _
theorem Ee {go:Hp->aH->Hp×Va} (G:OI go) {h:Hp} (hf:VZ h) (c:aH):VZ (gw go h c).1:=by
 unfold gw
 split
 ·exact hf.must _
 split
 ·exact Mi hf c
 ·apply IA G
  split
  ·exact Iz G hf c _
  ·exact Iy h c _ hf
theorem VZ.step {h:Hp} (hf:VZ h):VZ h.step:=by
 unfold Hp.step
 split
 ·exact hf
 ·split
  ·exact hf.fin _
  ·exact hf
theorem zN:∀n:Nat,OI (bF n)
 | 0=>fun h c hf=>hf.step
 | n+1=>fun h c hf=>by
  unfold bF
  split
  ·exact hf.step
  ·exact Ee (zN n) hf.step c
def RE (n:Nat) (go:Hp->aH->Hp×Va):Prop:=∀h c,cq n h->(go h c).1.stops=false->(go h c).2.kind=0->(go h c).2.n=0
theorem Mj {n:Nat} {go:Hp->aH->Hp×Va} (G:RE n go) (d:jx) (e:cq n d.h) (hs:(dM go d).1.stops=false) (hk:(dM go d).2.kind=0):(dM go d).2.n=0:=by
 unfold dM at hs hk ⊢
 split
 ·rfl
 ·rename_i h1
  rw [if_neg h1] at hs hk
  split
  ·rename_i h2
   rw [if_pos h2] at hs hk
   split
   ·rfl
   ·rename_i h3
    rw [if_neg h3] at hs hk
    refine G _ _ ?_ hs hk
    refine Lf.enough ?_ e
    refine Lf.trans ?_ (dp _ _ _).lf
    exact ⟨rfl,Int.le_refl _⟩
  ·rename_i h2
   rw [if_neg h2] at hs hk
   exact G _ _ e hs hk
theorem OJ (h:Hp) (c:aH) (ho:h.over=false) (hs:(ju h c).1.stops=false) (hk:(ju h c).2.kind=0):(ju h c).2.n=0:=by
 have hrk:=wa h c ho hs
 unfold ju at hk hrk ⊢
 split
 ·rfl
 ·rename_i h1
  rw [if_neg h1] at hk hrk
  exact absurd (hrk.symm.trans hk) h1
theorem IB {n:Nat} {go:Hp->aH->Hp×Va} (K:KR n go) (G:RE n go) (h:Hp) (c:aH) (e:cq n h) (ho:h.over=false) (hs:(gw go h c).1.stops=false) (hk:(gw go h c).2.kind=0):(gw go h c).2.n=0:=by
 unfold gw at hs hk ⊢
 split
 ·rfl
 ·rename_i h1
  rw [if_neg h1] at hs hk
  split
  ·rename_i h2
   rw [if_pos h2] at hs hk
   exact OJ h c ho hs hk
  ·rename_i h2
   rw [if_neg h2] at hs hk
   refine Mj G _ ?_ hs hk
   split
   ·exact (sY K h c _).enough e
   ·exact (nA h c _).lf.enough e
theorem Ef:∀n:Nat,RE n (bF n)
 | 0=>fun h c _ _ _=>rfl
 | n+1=>fun h c e hs hk=>by
  unfold bF at hs hk ⊢
  split
  ·rfl
  ·rename_i h1
   rw [if_neg h1] at hs hk
   have hb:h.stepB=true:=by simpa using h1
   exact IB (nC n) (Ef n) _ _ (fp e hb) (fW hb).2.2.1 hs hk
def wm (h:Hp) (v:Va):Sh :=
 if h.over=true then h.sh
 else if 0≤h.thrown then { h.sh with fin:=2,cls:=(h.obj h.thrown).cls }
 else if v.kind=1∨v.kind=2 then { h.sh with fin:=1,value:=v.n } else { h.sh with fin:=1 }
theorem Ml (s:Sh):s=⟨s.fin,s.value,s.cls,s.out,s.used,s.steps⟩:=rfl
theorem Bn (k:Nat) (h:Hp) (v:Va) (z:VZ h) (hk:h.stops=false->(0≤v.kind/\v.kind≤3)/\(v.kind=0->v.n=0)):jL k (h,v) []=wm h v:=by
 obtain ⟨z1,z2⟩:=z
 unfold jL wm
 dsimp only
 split
 ·rw [Ml h.sh,z1,z2]
 ·rename_i h1
  split
  ·rename_i h2
   rw [z1]
   rfl
  ·rename_i h2
   obtain ⟨h3,h4⟩:=hk (by simp [Hp.stops,h1,h2])
   show (⟨1,if v.kind=3 then 0 else v.n,0,h.sh.out,h.sh.used,h.sh.steps⟩:Sh)=_
   by_cases h5:v.kind=1∨v.kind=2
   ·rw [if_pos h5,if_neg (by omega),z2]
   ·rw [if_neg h5,z1,z2]
    by_cases h6:v.kind=3
    ·rw [if_pos h6]
    ·rw [if_neg h6,h4 (by omega)]
theorem ID (n:Nat) (h:Hp) (m:Me) (l:List Va) (hs:h.stops=false) (e:cq n h) (z:VZ h) (hB:h.enterB m l=true) (hr:0≤m.ret.kind/\m.ret.kind≤3) :
  ob (runM n { h with calls:=h.calls+1 } [bT m l])=wm (fY (bF n) h m l).1 (fY (bF n) h m l).2:=by
 have hE:h.enterH m l={ h with calls:=h.calls+1 }:=by
  unfold Hp.enterB at hB
  rw [Bool.and_eq_true] at hB
  unfold Hp.enterH
  rw [if_neg (by rw [hB.1];decide),if_neg (by simpa using hB.2)]
 unfold fY
 rw [if_pos hB,hE]
 have OK:({ h with calls:=h.calls+1 }:Hp).stops=false:=hs
 have e':cq n ({ h with calls:=h.calls+1 }:Hp):=e
 have S:=zK n _ (bT m l) OK e' n [] e'
 unfold pY at S
 rw [S]
 have V:=zN n _ (bT m l) (show VZ { h with calls:=h.calls+1 } from z)
 have K:=(nC n).kind _ (bT m l) e'
 have Z:=Ef n _ (bT m l) e'
 generalize bF n { h with calls:=h.calls+1 } (bT m l)=r at V K Z ⊢
 refine Bn n r.1 r.2 V fun NS=>⟨?_,Z NS⟩
 rw [K NS]
 exact hr
def nE (w:World) (A:Option Addr) (l:List Int):Prop :=
 l.length≤maxLen/\(l.length=0∨∃b off,A=some ⟨b,off,none⟩/\∀i,i<l.length->w.cell? ⟨b,off+i,none⟩=some (int i64 (nth (0:Int) l i)))
theorem nE.bl {w w':World} {A:Option Addr} {l:List Int} (h:nE w A l) (hb:Bl w w'):nE w' A l:=by
 refine ⟨h.1,?_⟩
 rcases h.2 with h0|⟨b,off,e,hc⟩
 ·exact Or.inl h0
 ·exact Or.inr ⟨b,off,e,fun i hi=>hb.cell (hc i hi)⟩
theorem Eg {w:World} {base:Nat} {v:Value} {l:List Int} (h:w.ownsRow base 2 1 v l.length (l.map (Value.int .i64))):∃A cap,v=.slice A l.length cap/\nE w A l:=by
 rcases h.2 with ⟨h1,h0⟩|⟨gb,cap,cur,rfl,h2,h3,h4,h5,h6,h7⟩
 ·exact ⟨none,0,by rw [h1,h0],by unfold maxLen;omega,Or.inl h0⟩
 ·refine ⟨_,cap,rfl,by omega,Or.inr ⟨gb,0,rfl,fun i hi=>?_⟩⟩
  rw [aa h3]
  have h8:(cur.toList.take (l.length*1))[i]?=(l.map (Value.int .i64))[i]?:=by rw [h7]
  rw [List.getElem?_take,if_pos (by omega)] at h8
  rw [Nat.zero_add,<-Array.getElem?_toList,h8,List.getElem?_map,List.getElem?_eq_getElem hi,bP hi]
  rfl
theorem yr (A B:Option Addr) (a b:Nat) (l:List Int) (w:World) (hA:nE w A l) (hB:nE w B l) :
  Calls Tryz.prog 24 #[.slice A l.length a,.slice B l.length b] w fun e w'=>e=.returned (.bool true)/\Bl w w':=by
 have HA:=ab hA
 have HB:=ab hB
 have hm:=hA.1
 unfold maxLen at hm
 clear hA hB
 go_enter Tryz.func24,Tryz.ntmps24
 go_wp2
 go_loopw [5] (fun i wr=>∃q:Nat,q≤l.length/\i=int i64 q/\Hid (Bl w wr)) (fun i _=>l.length-(intOf i).toNat)
 case atStart=>exact ⟨0,Nat.zero_le _,rfl,Bl.refl _⟩
 case round =>
  obtain ⟨q,hq,rfl,hg⟩:=hrel
  by_cases eQ:q<l.length
  ·rcases (HA.out.bl hg.out).2 with z0|⟨b1,o1,rfl,c1⟩
   ·omega
   rcases (HB.out.bl hg.out).2 with z0|⟨b2,o2,rfl,c2⟩
   ·omega
   have x1:=c1 q eQ
   have x2:=c2 q eQ
   clear c1 c2
   go_wp2
   go_quiet (fail)
   go_wp2
   go_roundw
   case rel=>exact ⟨q+1,by omega,by go_num,aR hg.out _⟩
   case measure=>simp [intOf];omega
  ·obtain rfl:q=l.length:=by omega
   go_wp2
   go_ret
   exact ⟨rfl,hg.out⟩
theorem qh (p v c u s:Int) (A B:Option Addr) (a b:Nat) (l:List Int) (w:World) (hA:nE w A l) (hB:nE w B l) :
  Calls Tryz.prog 9 #[.agg #[int i64 p,int i64 v,int i64 c,.slice A l.length a,int i64 u,int i64 s],.agg #[int i64 p,int i64 v,int i64 c,.slice B l.length b,int i64 u,int i64 s]] w fun e w'=>e=.returned (.bool true)/\Bl w w':=by
 have HL:Hid (∀w',Bl w w'->Calls Tryz.prog 24 #[.slice A l.length a,.slice B l.length b] w' fun e w2=>e=.returned (.bool true)/\Bl w' w2):=fun w' hb=>yr A B a b l w' (hA.bl hb) (hB.bl hb)
 have HW:Hid (∀x y,Bl w ((w.alloc x).alloc y)):=fun _ _=>((Bl.refl w).alloc _).alloc _
 clear hA hB
 go_enter Tryz.func9,Tryz.ntmps9
 go_wp2_with (go_at_call 24;refine (HL.out _ (HW.out _ _)).mono ?_;rintro e w1 ⟨rfl,b1⟩;replace b1:=ab b1)
 go_ret
 exact ⟨rfl,(HW.out _ _).trans b1.out⟩
end Go.Proofs.YtimjmdfokicbkaaGreat
