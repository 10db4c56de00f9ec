import Derived.Test.YtgbebphpjnmafaaGreatRraf
namespace Go.Proofs.YtgbebphpjnmafaaGreat
set_option linter.all false
set_option maxHeartbeats 40000000
set_option maxRecDepth 100000
open Go.RowKit
open Tryz
structure Kept (h:Hp) (c:aL) (d:nd):Prop where
 le:Le h d.h
 gh:Gh 0 d.h
 kd:Kd d.h
 gc:d.h.over=false->Gc d.h d.c
 m:d.c.m=c.m
 pc:d.c.pc=c.pc
 nx:0<=d.nx/\d.nx<=c.m.code.length
theorem oI {h:Hp} {b:Bool} (ho:(h.must b).over=false):h.must b=h:=by
 have:=(iJ ho).1;unfold Hp.must;rw [if_pos this]
theorem dP (h:Hp) (c:aL) (a k:Int):Le h (h.rdH c a k):=dw h _
theorem Gh.rdH {s:Nat} {h:Hp} (g:Gh s h) (c:aL) (a k:Int):Gh s (h.rdH c a k):=g.must _
theorem Kd.rdH {h:Hp} (g:Kd h) (c:aL) (a k:Int):Kd (h.rdH c a k):=g.must _
theorem oJ {h:Hp} {c:aL} {a k:Int} (ho:(h.rdH c a k).over=false):(c.rd a).kind=k/\h.rdH c a k=h/\h.over=false :=
 ⟨of_decide_eq_true (iJ ho).1,oI ho,(iJ ho).2⟩
theorem ku (h:Hp) (c:aL) (a:Int) (v:Va):(mI h c a v).m=c.m/\(mI h c a v).pc=c.pc/\(mI h c a v).giv=c.giv/\(mI h c a v).cau=c.cau:=by unfold mI;split<;>exact ⟨rfl,rfl,rfl,rfl⟩
theorem j7 (h:Hp) (c:aL) (i:In):Le h (givesH h c i):=by
 unfold givesH
 split;exact Le.refl h
 split;exact dP ..
 split;exact wP ..
 split;exact wP ..
 split;exact dP ..
 split;exact dP ..
 split;exact (dP ..).trans (dP ..)
 split;exact yN ..
 split
 ·split
  ·exact dP ..
  ·exact (dP ..).trans (lA ..)
 split
 ·split
  ·exact dP ..
  ·exact (dP ..).trans (dw ..)
 exact wO h
theorem Gh.gives {s:Nat} {h:Hp} (g:Gh s h) (c:aL) (i:In):Gh s (givesH h c i):=by
 unfold givesH
 split;exact g
 split;exact g.rdH ..
 split;exact g.reckH ..
 split;exact g.reckH ..
 split;exact g.rdH ..
 split;exact g.rdH ..
 split;exact (g.rdH ..).rdH ..
 split;exact g.new _
 split
 ·split
  ·exact g.rdH ..
  ·exact (g.rdH ..).findH ..
 split
 ·split
  ·exact g.rdH ..
  ·exact (g.rdH ..).must _
 exact g.input
theorem Kd.gives {h:Hp} (g:Kd h) (c:aL) (i:In):Kd (givesH h c i):=by
 unfold givesH
 split;exact g
 split;exact g.rdH _ _ _
 split;exact g.reckH _ _ _ _
 split;exact g.reckH _ _ _ _
 split;exact g.rdH _ _ _
 split;exact g.rdH _ _ _
 split;exact (g.rdH _ _ _).rdH _ _ _
 split;exact g.new _
 split
 ·split
  ·exact g.rdH _ _ _
  ·exact (g.rdH _ _ _).findH _ _
 split
 ·split
  ·exact g.rdH _ _ _
  ·exact (g.rdH _ _ _).must _
 exact g.input
theorem qa {h:Hp} {a b:Va} {k op:Int} (hs:(h.reckH a b k op).stops=false) (ho:h.over=false) (iA:h.thrown=-1):(h.reckV a b k op).kind=k:=by
 unfold Hp.reckH at hs
 split at hs
 ·rename_i hm
  unfold Hp.reckV
  rw [if_pos hm]
 ·rename_i hm
  exfalso
  have hb:eU a b k=false:=by
   cases hx:eU a b k
   ·rfl
   ·exact absurd (by unfold Hp.mustB;rw [hx,ho];rfl) hm
  rw [hb] at hs
  simp [Hp.must,Hp.fin,ho,Hp.stops] at hs
def xr (cs:List Cl):Prop:=∀c k:Int,0<=c/\c<cs.length->0<=k/\k<(nth bL cs c.toNat).fields.length->(bI cs c k).kind≠9
theorem oK {s:Nat} {h:Hp} {c:aL} {i:In} {ms:List Me} {n:Nat} {rt:Int} (g:Gh s h) (kd:Kd h) (gc:Gc h c) (ho:h.over=false) (iA:h.thrown=-1) (mc:xr h.file.classes) (ok:pM h.file.classes ms n c.m.regs rt i) (iok:i.ok)
  (hop:i.op<=9∨i.op=13∨i.op=14∨i.op=17∨i.op=24) (hs:(givesH h c i).stops=false) :
  jq (givesH h c i) (aG h c i)/\(aG h c i).kind≠9/\((aG h c i).kind=2->i.a+1<c.m.regs):=by
 have hle:=j7 h c i
 have num:∀(k m:Int) (h':Hp),k≠3->cJ m->jq h' ⟨k,m⟩:=fun k m h' h1 h2=>⟨fun e=>absurd e h1,h2⟩
 have nK:(givesH h c i).over=false:=by
  unfold Hp.stops at hs;rw [Bool.or_eq_false_iff] at hs;exact hs.1
 have h1:=ok.op.1
 rcases (by omega:i.op=1∨i.op=2∨i.op=3∨i.op=4∨i.op=5∨i.op=6∨i.op=7∨i.op=8∨i.op=9∨i.op=13∨i.op=14∨i.op=17∨i.op=24) with e|e|e|e|e|e|e|e|e|e|e|e|e
 ·have eV:aG h c i=⟨1,i.n⟩:=by simp [aG,e]
  rw [eV]
  exact ⟨num _ _ _ (by omega) iok.2.2.2.2,(by show (1:Int)≠9;omega),fun x=>by have:(1:Int)=2:=x;omega⟩
 ·have eV:aG h c i=⟨2,i.n⟩:=by simp [aG,e]
  rw [eV]
  exact ⟨num _ _ _ (by omega) iok.2.2.2.2,(by show (2:Int)≠9;omega),fun x=>ok.two (by omega)⟩
 ·have eV:aG h c i=⟨3,-1⟩:=by simp [aG,e]
  rw [eV]
  exact ⟨⟨fun _=>⟨Int.le_refl _,by show (-1:Int)<_;omega⟩,by show cJ (-1);unfold cJ;omega⟩,(by decide),fun x=>absurd x (by decide)⟩
 ·have eV:aG h c i=c.rd i.b:=by simp [aG,e]
  have eH:givesH h c i=h.rdH c i.b i.c:=by simp [givesH,e]
  rw [eH] at nK hle
  have hk:=(oJ nK).1
  have hm:=ok.move e
  rw [eV,eH]
  exact ⟨(gc.rd (ok.b (by omega))).le hle,by omega,fun x=>ok.two (by omega)⟩
 ·have eV:aG h c i=h.reckV (c.rd i.b) (c.rd i.c) 1 i.n:=by simp [aG,e]
  have eH:givesH h c i=h.reckH (c.rd i.b) (c.rd i.c) 1 i.n:=by simp [givesH,e]
  rw [eH] at hs
  have hk:=qa hs ho iA
  rw [eV]
  exact ⟨wQ _ _ _ _ _ _ (by omega) (gc.rd (ok.b (by omega))).num,by omega,fun x=>by omega⟩
 ·have eV:aG h c i=h.reckV (c.rd i.b) (c.rd i.c) 2 i.n:=by simp [aG,e]
  have eH:givesH h c i=h.reckH (c.rd i.b) (c.rd i.c) 2 i.n:=by simp [givesH,e]
  rw [eH] at hs
  have hk:=qa hs ho iA
  rw [eV]
  exact ⟨wQ _ _ _ _ _ _ (by omega) (gc.rd (ok.b (by omega))).num,by omega,fun x=>ok.two (by omega)⟩
 ·have eV:aG h c i=⟨2,(c.rd i.b).n⟩:=by simp [aG,e]
  rw [eV]
  exact ⟨num _ _ _ (by omega) (gc.rd (ok.b (by omega))).num,(by show (2:Int)≠9;omega),fun x=>ok.two (by omega)⟩
 ·have eV:aG h c i=⟨1,wrap32 (c.rd i.b).n⟩:=by simp [aG,e]
  rw [eV]
  exact ⟨num _ _ _ (by omega) (pW _),(by show (1:Int)≠9;omega),fun x=>by have:(1:Int)=2:=x;omega⟩
 ·have eV:aG h c i=⟨1,kX (c.rd i.b).n (c.rd i.c).n⟩:=by simp [aG,e]
  rw [eV]
  exact ⟨num _ _ _ (by omega) (by unfold kX;split;(unfold cJ;omega);split<;>(unfold cJ;omega)),(by show (1:Int)≠9;omega),fun x=>by have:(1:Int)=2:=x;omega⟩
 ·have eV:aG h c i=h.newV:=by simp [aG,e]
  have eH:givesH h c i=h.new i.b:=by simp [givesH,e]
  rw [eV,eH]
  refine ⟨J9 h _,?_,?_⟩
  ·unfold Hp.newV;split
   ·decide
   ·show (3:Int)≠9;omega
  ·unfold Hp.newV;split
   ·intro x;exact absurd x (by decide)
   ·intro x;have:(3:Int)=2:=x;omega
 ·have eV:aG h c i=(if (h.rdH c i.b 3).over=true then aE else (h.rdH c i.b 3).getV (c.rd i.b) i.c i.n):=by simp [aG,e]
  have eH:givesH h c i=(if (h.rdH c i.b 3).over=true then h.rdH c i.b 3 else (h.rdH c i.b 3).findH (c.rd i.b) i.c):=by simp [givesH,e]
  rw [eV,eH]
  rw [eH] at hs nK
  split
  ·rename_i hx;rw [if_pos hx] at nK;rw [hx] at nK;cases nK
  ·rename_i hx
   rw [if_neg hx] at hs nK
   obtain ⟨k1,k2,k3⟩:=oJ (by simpa using hx)
   rw [k2] at hs nK ⊢
   have gr:=gc.rd (ok.b (by omega))
   refine ⟨(Ka g _ _ _ gr).le (lA _ _ _),?_,?_⟩
   all_goals
    by_cases hn:h.findN (c.rd i.b) i.c i.n<0
   ·unfold Hp.getV;rw [if_pos hn];decide
   ·rw [tl kd gr hn]
    have hf:=ok.fld (by omega)
    exact mc _ _ ⟨hf.1,hf.2.1⟩ ⟨hf.2.2.1,hf.2.2.2⟩
   ·unfold Hp.getV;rw [if_pos hn];intro x;exact absurd x (by decide)
   ·rw [tl kd gr hn]
    intro x
    exact ok.two (Or.inr (Or.inr (Or.inr (Or.inr (Or.inr (Or.inr ⟨e,x⟩))))))
 ·have eV:aG h c i=(if (h.rdH c i.b 3).over=true then aE else (h.rdH c i.b 3).isV (c.rd i.b) i.c):=by simp [aG,e]
  rw [eV]
  split
  ·exact ⟨jr _,by decide,fun x=>absurd x (by decide)⟩
  ·exact ⟨num _ _ _ (by omega) (by split<;>(unfold cJ;omega)),(by show (1:Int)≠9;omega),fun x=>by have:(1:Int)=2:=x;omega⟩
 ·have eV:aG h c i=h.inV:=by simp [aG,e]
  have eH:givesH h c i=h.input':=by simp [givesH,e]
  rw [eV,eH]
  refine ⟨(Nx g).le (wO h),?_,fun x=>ok.two (by omega)⟩
  unfold Hp.inV;split
  ·decide
  ·show (2:Int)≠9;omega
theorem j8 {h:Hp} {c:aL} {i:In} {ms:List Me} {rt:Int} (gh:Gh 1 h) (kd:Kd h) (gc:Gc h c) (ho:h.over=false) (iA:h.thrown=-1) (mc:xr h.file.classes) (ok:pM h.file.classes ms c.m.code.length c.m.regs rt i) (iok:i.ok) (hc:i.op≠18) (hr:i.op≠20) (hp:0<=c.pc/\c.pc<c.m.code.length):Kept h c (bV h c i):=by
 have hns:h.stops=false:=by unfold Hp.stops;rw [ho,iA];rfl
 have yA:0<=c.pc+1/\c.pc+1<=c.m.code.length:=by omega
 have gl:∀h',Le h h'->Gc h' c.clr:=fun h' l=>gc.clr.le l
 unfold bV
 split
 ·rename_i e
  exact ⟨Le.refl h,gh.less,kd,fun _=>gc.clr,rfl,rfl,by have:=ok.jump (Or.inl e);dsimp only;omega⟩
 split
 ·rename_i e
  have hj:=ok.jump (Or.inr (Or.inl e))
  unfold Tg
  exact ⟨dP ..,(gh.rdH ..).less,kd.rdH _ _ _,fun _=>gl _ (dP ..),rfl,rfl,by dsimp only;split<;>omega⟩
 split
 ·rename_i e
  have hj:=ok.jump (Or.inr (Or.inr e))
  unfold Nt
  exact ⟨dP ..,(gh.rdH ..).less,kd.rdH _ _ _,fun _=>gl _ (dP ..),rfl,rfl,by dsimp only;split<;>omega⟩
 split
 ·rename_i e
  unfold pL
  dsimp only
  generalize (bI h.file.classes i.c i.n).kind=q
  have l2:=(dP h c i.b 3).trans (dP (h.rdH c i.b 3) c i.a q)
  have g2:=(gh.rdH c i.b 3).rdH c i.a q
  have k2:=(kd.rdH c i.b 3).rdH c i.a q
  have gv:=(gc.rd (ok.a (by omega))).le l2
  generalize (h.rdH c i.b 3).rdH c i.a q=h2 at l2 g2 k2 gv
  split
  ·exact ⟨l2,g2.less,k2,fun _=>gl _ l2,rfl,rfl,yA⟩
  ·exact ⟨l2.trans (yO ..),(g2.put _ _ _ _ gv).less,k2.put _ _ _ _,fun _=>gl _ (l2.trans (yO ..)),rfl,rfl,yA⟩
 split
 ·rename_i e
  unfold wF
  have l2:=dP h c i.a 3
  have g2:=gh.rdH c i.a 3
  have k2:=kd.rdH c i.a 3
  generalize h.rdH c i.a 3=h2 at l2 g2 k2
  split
  ·exact ⟨l2,g2.less,k2,fun _=>gl _ l2,rfl,rfl,yA⟩
  ·exact ⟨l2.trans (tW ..),(g2.cast _ _).less,k2.cast _ _,fun _=>gl _ (l2.trans (tW ..)),rfl,rfl,yA⟩
 split
 ·rename_i e
  have hk:=ok.res e
  have ha:=ok.a (by omega)
  unfold wH
  refine ⟨dw ..,(gh.must _).less,kd.must _,fun cY=>?_,?_,?_,yA⟩
  ·dsimp only at cY ⊢
   have e1:=oI cY
   have e2:c.giv.kind=i.b:=of_decide_eq_true (iJ cY).1
   rw [e1,if_pos (by unfold Hp.mustB;rw [ho,e2];simp)]
   exact gc.clr.wr (fun _=>⟨gc.giv,by omega,fun x=>ok.two (by omega)⟩) ha.1
  ·dsimp only;split
   ·exact (ku ..).1
   ·rfl
  ·dsimp only;split
   ·exact (ku ..).2.1
   ·rfl
 split
 ·rename_i e
  unfold Fe
  have l2:=dP h c i.a 3
  have g2:=gh.rdH c i.a 3
  have k2:=kd.rdH c i.a 3
  have gv:=(gc.rd (ok.a (by omega))).le l2
  generalize h.rdH c i.a 3=h2 at l2 g2 k2 gv
  split
  ·exact ⟨l2,g2.less,k2,fun _=>gl _ l2,rfl,rfl,yA⟩
  ·exact ⟨l2.trans (qK ..),(g2.throw _ gv).less,k2.throw _,fun _=>gl _ (l2.trans (qK ..)),rfl,rfl,yA⟩
 split
 ·rename_i e
  have ha:=ok.a (by omega)
  unfold wI
  refine ⟨dw ..,(gh.must _).less,kd.must _,fun cY=>?_,?_,?_,yA⟩
  ·dsimp only at cY ⊢
   have e1:=oI cY
   have e2:c.cau.kind=3:=of_decide_eq_true (iJ cY).1
   rw [e1,if_pos (by unfold Hp.mustB isRef;rw [ho,e2];simp)]
   exact gc.clr.wr (fun _=>⟨gc.cau,by omega,fun x=>by omega⟩) ha.1
  ·dsimp only;split
   ·exact (ku ..).1
   ·rfl
  ·dsimp only;split
   ·exact (ku ..).2.1
   ·rfl
 split
 ·rename_i e
  unfold wG
  have l2:=dP h c i.a i.b
  have g2:=gh.rdH c i.a i.b
  have k2:=kd.rdH c i.a i.b
  generalize h.rdH c i.a i.b=h2 at l2 g2 k2
  split
  ·exact ⟨l2,g2.less,k2,fun _=>gl _ l2,rfl,rfl,yA⟩
  ·exact ⟨l2.trans (tX ..),g2.emit _ _,k2.emit _ _,fun _=>gl _ (l2.trans (tX ..)),rfl,rfl,yA⟩
 ·have hop:=ok.op
  have ha:=ok.a (by omega)
  unfold yJ
  refine ⟨j7 ..,(gh.gives ..).less,kd.gives _ _,fun _=>?_,(ku ..).1,(ku ..).2.1,yA⟩
  exact (gl _ (j7 ..)).wr (fun hs=>oK gh kd gc ho iA mc ok iok (by omega) hs) ha.1
theorem qd {h:Hp} {v:Va} {t:Ty} (ho:h.of v t=true):v.kind=t.kind:=by
 unfold Hp.of at ho
 rw [Bool.and_eq_true] at ho
 exact of_decide_eq_true ho.1
theorem vC {n:Nat} {t:Ty} (h:fP n t=true):1<=t.kind/\t.kind<=3:=by
 have:=of_decide_eq_true h
 omega
theorem ij (h:Hp) (n:Nat):∀(l:List Va) (k:List Ty),l.length=k.length->h.enterL l k=true->(∀t∈k,fP n t=true)->bN l=cj k/\∀v∈l,1<=v.kind/\v.kind<=3
 | [],[],_,_,_=>⟨rfl,fun v hv=>by simp at hv⟩
 | [],_::_,hl,_,_=>by simp at hl
 | _::_,[],hl,_,_=>by simp at hl
 | v::l,t::k,hl,he,ht=>by
  unfold Hp.enterL at he
  rw [Bool.and_eq_true] at he
  have ih:=ij h n l k (by simpa using hl) he.2 (fun x hx=>ht x (List.mem_cons_of_mem _ hx))
  have hk:=qd he.1
  have htk:=vC (ht t (List.mem_cons_self ..))
  refine ⟨?_,fun x hx=>?_⟩
  ·simp only [bN,cj,ih.1,hk]
  ·rw [List.mem_cons] at hx
   rcases hx with rfl|hx
   ·omega
   ·exact ih.2 x hx
theorem kE (v:Va):bN [v]=if v.kind=2 then 2 else 1:=by simp [bN]
theorem oL (h:Hp):∀(l:List Va) (l0:List Va) (fE:Nat),iE l0->(∀x∈l0,jq h x)->(∀x∈l,jq h x)->(∀v∈l,1<=v.kind/\v.kind<=3)->fE+bN l<=l0.length ->
  iE (dT l0 fE l)/\(∀x∈dT l0 fE l,jq h x)/\(dT l0 fE l).length=l0.length
 | [],l0,fE,h1,h2,_,_,_=>⟨h1,h2,rfl⟩
 | v::l,l0,fE,h1,h2,h3,h4,h5=>by
  have hv:=h3 v (List.mem_cons_self ..)
  have hk:=h4 v (List.mem_cons_self ..)
  have es:bN (v::l)=(if v.kind=2 then 2 else 1)+bN l:=rfl
  have ih:=oL h l (eL l0 fE v) (fE+bN [v]) (Fw h1 fE v (by omega) (fun e=>by rw [es,if_pos e] at h5;omega)) (Fx h2 hv fE) (fun x hx=>h3 x (List.mem_cons_of_mem _ hx)) (fun x hx=>h4 x (List.mem_cons_of_mem _ hx)) (by rw [fR,kE];rw [es] at h5;omega)
  refine ⟨ih.1,ih.2.1,?_⟩
  show (dT (eL l0 fE v) (fE+bN [v]) l).length=_
  rw [ih.2.2,fR]
theorem Gl (n:Nat):iE (List.replicate n aE):=by
 have key:∀i,nth aE (List.replicate n aE) i=aE:=fun i=>by simp [nth,List.getD,List.getElem?_replicate];split<;>rfl
 exact ⟨fun i _ hk=>by rw [key] at hk;exact absurd hk (by decide),fun i _ hk=>by rw [key] at hk;exact absurd hk (by decide)⟩
theorem nL {h:Hp} {m:Me} {l:List Va} (hm:fG h.file.classes h.file.methods m=true) (hok:∀i∈m.code,i.ok) (hl:l.length=m.params.length) (hg:∀v∈l,jq h v) (he:h.enterL l m.params=true):Gc h (cv m l):=by
 obtain ⟨p1,p2,p3,p5,p6,p7,p8,p9,NT,PG⟩:=jW hm
 obtain ⟨s1,s2⟩:=ij h h.file.classes.length l m.params hl he p9
 obtain ⟨k1,k2,k3⟩:=oL h l (List.replicate m.regs.toNat aE) 0 (Gl _) (fun x hx=>by rw [List.eq_of_mem_replicate hx];exact jr h) hg s2 (by rw [List.length_replicate];omega)
 refine ⟨jr h,jr h,k2,k1,?_,hm,hok⟩
 show ((dT (List.replicate m.regs.toNat aE) 0 l).length:Int)=m.regs
 rw [k3,List.length_replicate];omega
structure iH (h:Hp) (r:Hp×Va) (d:Int):Prop where
 file:r.1.file=h.file
 input:r.1.input=h.input
 fuel:r.1.fuel=h.fuel
 objs:h.objs.length<=r.1.objs.length
 steps:h.sh.steps<=r.1.sh.steps
 calls:r.1.calls=h.calls-d
 gh:Gh 0 r.1
 kd:Kd r.1
 gv:jq r.1 r.2
theorem fN {h h1:Hp} {v:Va} (l:Le h h1) (g:Gh 0 h1) (kd:Kd h1) (hc:1<=h.calls) (gv:jq h1 v):iH h (h1.leave,v) 1:=by
 have hcc:=l.calls
 have:=g.calls
 refine ⟨l.file,l.input,l.fuel,l.objs,l.steps,?_,?_,kd.same rfl rfl,⟨gv.ref,gv.num⟩⟩
 ·show h1.calls-1=_;omega
 ·exact ⟨fun o ho x hx=>⟨(g.held o ho x hx).ref,(g.held o ho x hx).num⟩,g.thr,g.used,g.steps,g.fuel,g.o,g.len,g.inp,by show 0<=h1.calls-1/\h1.calls-1<=20;omega⟩
theorem iH.from {h h1:Hp} {r:Hp×Va} {d:Int} (l:Le h h1) (k:iH h1 r d):iH h r d :=
 ⟨k.file.trans l.file,k.input.trans l.input,k.fuel.trans l.fuel,Nat.le_trans l.objs k.objs,Int.le_trans l.steps k.steps,by rw [k.calls,l.calls],k.gh,k.kd,k.gv⟩
theorem iH.le {h:Hp} {r:Hp×Va} (k:iH h r 0):Le h r.1:=⟨k.file,k.input,k.fuel,k.objs,k.steps,by rw [k.calls];omega⟩
def Inv (h:Hp) (c:aL):Prop:=h.over=false->h.thrown=-1/\Gc h c/\0<=c.pc/\c.pc<=c.m.code.length
def Gm (f:Fi) (go:Hp->aL->Hp×Va):Prop:=∀h c,h.file=f->Gh 0 h->Kd h->1<=h.calls->Inv h c->iH h (go h c) 1
def nM (f:Fi):Prop:=xr f.classes/\∀m∈f.methods,fG f.classes f.methods m=true/\∀i∈m.code,i.ok
theorem xv {f:Fi} {go:Hp->aL->Hp×Va} (G:Gm f go) {h:Hp} {m:Me} {l:List Va} (hf:h.file=f) (gh:Gh 0 h) (kd:Kd h) (ho:h.over=false) (iA:h.thrown=-1) (hm:fG h.file.classes h.file.methods m=true) (hok:∀i∈m.code,i.ok) (hl:l.length=m.params.length) (hg:∀v∈l,jq h v):iH h (iZ go h m l) 0:=by
 unfold iZ
 split
 ·rename_i hb
  unfold Hp.enterB at hb
  rw [Bool.and_eq_true] at hb
  have hd:h.deep=false:=by simpa using hb.2
  have he:h.enterH m l={ h with calls:=h.calls+1 }:=by unfold Hp.enterH;rw [if_neg (by rw [hb.1];decide),if_neg (by rw [hd];decide)]
  rw [he]
  have hc:h.calls<20:=by unfold Hp.deep at hd;simpa using hd
  have hcc:=gh.calls
  have g1:Gh 0 { h with calls:=h.calls+1 }:=⟨fun o ho x hx=>⟨(gh.held o ho x hx).ref,(gh.held o ho x hx).num⟩,gh.thr,gh.used,gh.steps,gh.fuel,gh.o,gh.len,gh.inp,by dsimp only;omega⟩
  have gc:=nL hm hok hl hg hb.1
  have NU:Gc { h with calls:=h.calls+1 } (cv m l):=⟨⟨gc.giv.ref,gc.giv.num⟩,⟨gc.cau.ref,gc.cau.num⟩,fun v hv=>⟨(gc.locs v hv).ref,(gc.locs v hv).num⟩,gc.ok,gc.len,gc.me,gc.mok⟩
  have r:=G { h with calls:=h.calls+1 } (cv m l) hf g1 (kd.same rfl rfl) (by dsimp only;omega) (fun _=>⟨iA,NU,Int.le_refl _,by show (0:Int)<=_;omega⟩)
  exact ⟨r.file,r.input,r.fuel,r.objs,r.steps,by rw [r.calls];dsimp only;omega,r.gh,r.kd,r.gv⟩
 ·have le:Le h (h.enterH m l)/\Gh 0 (h.enterH m l)/\Kd (h.enterH m l):=by
   rename_i hb
   unfold Hp.enterB at hb
   unfold Hp.enterH
   split
   ·exact ⟨gN h 6,gh.fin 6,kd.fin 6⟩
   ·rename_i h1
    split
    ·exact ⟨gN h 5,gh.fin 5,kd.fin 5⟩
    ·rename_i h2
     exfalso;apply hb
     rw [Bool.and_eq_true]
     refine ⟨?_,?_⟩
     ·cases hx:h.enterL l m.params
      ·exact absurd hx h1
      ·rfl
     ·cases hx:h.deep
      ·rfl
      ·exact absurd hx h2
  exact ⟨le.1.file,le.1.input,le.1.fuel,le.1.objs,le.1.steps,by rw [le.1.calls];omega,le.2.1,le.2.2,jr _⟩
theorem dG (c:aL):∀(l:List Int) (k:List Ty),l.length=k.length->(c.rds l k).length=k.length
 | [],[],_=>rfl
 | [],_::_,h=>by simp at h
 | _::_,[],h=>by simp at h
 | a::l,t::k,h=>by
  show (c.rds l k).length+1=k.length+1
  rw [dG c l k (by simpa using h)]
theorem vD {h:Hp} {c:aL} (g:Gc h c):∀(l:List Int) (k:List Ty),(∀j,j<l.length->0<=nth (0:Int) l j/\nth (0:Int) l j<c.m.regs)->∀v∈c.rds l k,jq h v
 | [],_,_,v,hv=>by simp [aL.rds] at hv
 | _::_,[],_,v,hv=>by simp [aL.rds] at hv
 | a::l,t::k,hl,v,hv=>by
  unfold aL.rds at hv
  rw [List.mem_cons] at hv
  rcases hv with rfl|hv
  ·exact g.rd (hl 0 (by simp))
  ·exact vD g l k (fun j hj=>hl (j+1) (by simp;omega)) v hv
theorem nN (c:aL):∀(l:List Int) (k:List Ty) (h:Hp),Le h (h.rdsH c l k)
 | [],_,h=>Le.refl h
 | _::_,[],h=>Le.refl h
 | a::l,t::k,h=>(dP h c a t.kind).trans (nN c l k _)
theorem Gh.rdsH {s:Nat} (c:aL):∀(l:List Int) (k:List Ty) {h:Hp},Gh s h->Gh s (h.rdsH c l k)
 | [],_,h,g=>g
 | _::_,[],h,g=>g
 | a::l,t::k,h,g=>Gh.rdsH c l k (g.rdH c a t.kind)
theorem Kd.rdsH (c:aL):∀(l:List Int) (k:List Ty) {h:Hp},Kd h->Kd (h.rdsH c l k)
 | [],_,h,g=>g
 | _::_,[],h,g=>g
 | a::l,t::k,h,g=>Kd.rdsH c l k (g.rdH c a t.kind)
theorem qe (c:aL):∀(l:List Int) (k:List Ty) {h:Hp},(h.rdsH c l k).over=false->h.rdsH c l k=h
 | [],_,h,_=>rfl
 | _::_,[],h,_=>rfl
 | a::l,t::k,h,ho=>by
  have e:=qe c l k (h:=h.rdH c a t.kind) ho
  have og:(h.rdH c a t.kind).over=false:=by rw [<-e];exact ho
  show (h.rdH c a t.kind).rdsH c l k=h
  rw [e];exact (oJ og).2.1
theorem tB {f:Fi} {go:Hp->aL->Hp×Va} (G:Gm f go) {h:Hp} {c:aL} {i:In} {n:Nat} {rt:Int} (hf:h.file=f) (gh:Gh 0 h) (kd:Kd h) (gc:Gc h c) (ho:h.over=false) (iA:h.thrown=-1) (dL:nM h.file) (ok:pM h.file.classes h.file.methods n c.m.regs rt i) (e:i.op=18) (hp:0<=c.pc/\c.pc<c.m.code.length):Kept h c (jw go h c i):=by
 have yA:0<=c.pc+1/\c.pc+1<=c.m.code.length:=by omega
 obtain ⟨c1,c2,c3⟩:=ok.call e
 have iG:=dL.2 _ (bE (d:=bT) (i:=i.a.toNat) (by omega:i.a.toNat<h.file.methods.length))
 unfold jw
 dsimp only
 generalize hM:nth bT h.file.methods i.a.toNat=m at *
 have l1:=nN c i.args m.params h
 have g1:=Gh.rdsH c i.args m.params gh
 have k1:=Kd.rdsH c i.args m.params kd
 split
 ·exact ⟨l1,g1,k1,fun _=>gc.clr.le l1,rfl,rfl,yA⟩
 ·rename_i cY
  have e1:=qe c i.args m.params (h:=h) (by simpa using cY)
  rw [e1] at *
  have r:=xv G hf gh kd ho iA iG.1 iG.2 (dG c _ _ c3) (vD gc _ _ (ok.args e))
  have gl:=gc.clr.le r.le
  exact ⟨r.le,r.gh,r.kd,fun _=>⟨r.gv,gl.cau,gl.locs,gl.ok,gl.len,gl.me,gl.mok⟩,rfl,rfl,yA⟩
theorem l3 {h:Hp} {pc:Int} {n k:Nat}:∀l:List Hd,(∀x∈l,mZ k n x=true)->h.caughtL pc l=-1∨(0<=h.caughtL pc l/\h.caughtL pc l<n)
 | [],_=>Or.inl rfl
 | x::l,hx=>by
  unfold Hp.caughtL;split
  ·have:=of_decide_eq_true (hx x (List.mem_cons_self ..));right;omega
  ·exact l3 l (fun y hy=>hx y (List.mem_cons_of_mem _ hy))
theorem C9 {f:Fi} {go:Hp->aL->Hp×Va} (G:Gm f go) {h:Hp} {c:aL} {d:nd} (hf:h.file=f) (k:Kept h c d) (hc:1<=h.calls):iH h (dM go d) 1:=by
 unfold dM
 split
 ·exact fN k.le k.gh k.kd hc (jr _)
 ·rename_i cY
  have sT:d.h.over=false:=by simpa using cY
  have gc:=k.gc sT
  have hcc:=k.le.calls
  split
  ·rename_i ht
   split
   ·exact fN k.le k.gh k.kd hc (jr _)
   ·rename_i hn
    have gt:Gh 0 { d.h with thrown:=-1 }:=k.gh.same rfl rfl rfl rfl rfl rfl rfl ⟨by dsimp only;omega,by dsimp only;omega⟩
    have lt:Le d.h { d.h with thrown:=-1 }:=⟨rfl,rfl,rfl,Nat.le_refl _,Int.le_refl _,rfl⟩
    have gv:jq { d.h with thrown:=-1 } ⟨3,d.h.thrown⟩:=⟨fun _=>⟨by dsimp only;omega,k.gh.thr.2⟩,by have:=k.gh.thr;have:=k.gh.len;dsimp only;unfold cJ;omega⟩
    have gl:=gc.le lt
    refine iH.from (k.le.trans lt) (G _ _ (k.le.file.trans hf) gt (k.kd.same rfl rfl) (by show 1<=d.h.calls;omega) ?_)
    intro _
    refine ⟨rfl,⟨gl.giv,gv,gl.locs,gl.ok,gl.len,gl.me,gl.mok⟩,by show 0<=d.h.caughtL d.c.pc d.c.m.hands;omega,?_⟩
    have h1:=l3 (h:=d.h) (pc:=d.c.pc) (n:=d.c.m.code.length) (k:=d.h.file.classes.length) d.c.m.hands (jW gc.me).2.2.2.2.2.2.2.2.1
    show d.h.caughtL d.c.pc d.c.m.hands<=d.c.m.code.length
    omega
  ·rename_i ht
   have Sq:d.h.thrown=-1:=by have:=k.gh.thr;omega
   refine iH.from k.le (G _ _ (k.le.file.trans hf) k.gh k.kd (by omega) fun _=>⟨Sq,gc.pc _,k.nx.1,?_⟩)
   show d.nx<=d.c.m.code.length
   rw [k.m];exact k.nx.2
theorem Gn {h:Hp} {c:aL} {i:In} {cs:List Cl} {ms:List Me} {n:Nat} (gh:Gh 0 h) (kd:Kd h) (hc:1<=h.calls) (gc:Gc h c) (ok:pM cs ms n c.m.regs c.m.ret.kind i) (e:i.op=20):iH h (lx h c i) 1:=by
 unfold lx;split
 ·exact fN (Le.refl h) gh kd hc (jr _)
 ·rename_i hr
  dsimp only
  have l1:=dP h c i.a c.m.ret.kind
  have g1:=gh.rdH c i.a c.m.ret.kind
  have k1:=kd.rdH c i.a c.m.ret.kind
  generalize h.rdH c i.a c.m.ret.kind=h1 at l1 g1 k1
  have l2:=l1.trans (dw h1 (!h1.over&&h1.of (c.rd i.a) c.m.ret))
  exact fN l2 (g1.must _) (k1.must _) hc ((gc.rd (ok.ret e hr)).le l2)
theorem nO {h:Hp} {c:aL} (gc:Gc h c) (hp:0<=c.pc/\c.pc<c.m.code.length):pM h.file.classes h.file.methods c.m.code.length c.m.regs c.m.ret.kind (nth eR c.m.code c.pc.toNat)/\(nth eR c.m.code c.pc.toNat).ok:=by
 have hlt:c.pc.toNat<c.m.code.length:=by omega
 have h8:=(jW gc.me).2.2.2.2.2.2.1 _ (bE (d:=eR) hlt)
 exact ⟨Nw h8,gc.mok _ (bE hlt)⟩
theorem Da {f:Fi} {go:Hp->aL->Hp×Va} (G:Gm f go) {h:Hp} {c:aL} (hf:h.file=f) (dL:nM f) (gh:Gh 1 h) (kd:Kd h) (hc:1<=h.calls) (ho:h.over=false) (iA:h.thrown=-1) (gc:Gc h c) (hp:0<=c.pc/\c.pc<=c.m.code.length):iH h (gw go h c) 1:=by
 unfold gw;split
 ·exact fN (dw _ _) (gh.must _).less (kd.must _) hc (jr _)
 ·rename_i hm
  have YI:h.mustB (decide (c.pc<c.m.code.length))=true:=by simpa using hm
  have hlt:c.pc<c.m.code.length:=of_decide_eq_true (dE YI).1
  obtain ⟨ok,iok⟩:=nO gc ⟨hp.1,hlt⟩
  split
  ·rename_i e
   exact Gn gh.less kd hc gc ok e
  ·rename_i er
   refine C9 G hf (c:=c) ?_ hc
   split
   ·rename_i e
    exact tB G hf gh.less kd gc ho iA (hf▸dL) ok e ⟨hp.1,hlt⟩
   ·rename_i e
    exact j8 gh kd gc ho iA (hf▸dL).1 ok iok e er ⟨hp.1,hlt⟩
theorem tC (f:Fi) (dL:nM f):∀n:Nat,Gm f (cn n):=by
 intro n
 induction n with
 | zero =>
  intro h c hf gh kd hc hi
  show iH h (h.step.leave,aE) 1
  refine fN (jx h) ?_ kd.step hc (jr _)
  cases hb:h.stepB
  ·exact gh.step0 hb
  ·exact (gh.step hb).less
 | succ n ih =>
  intro h c hf gh kd hc hi
  unfold cn
  split
  ·rename_i hb
   exact fN (jx h) (gh.step0 hb) kd.step hc (jr _)
  ·rename_i hb
   have ze:h.stepB=true:=by simpa using hb
   have ho:h.over=false:=by unfold Hp.stepB at ze;simp at ze;exact ze.1
   obtain ⟨iA,gc,hp⟩:=hi ho
   have hs:h.step={ h with sh:={ h.sh with steps:=h.sh.steps+1 } }:=by
    unfold Hp.stepB at ze;simp at ze
    unfold Hp.step;rw [if_neg (by rw [ho];decide),if_neg (by omega)]
   have l:=jx h
   refine iH.from l (Da ih (l.file.trans hf) dL (gh.step ze) kd.step (by rw [l.calls];exact hc) ?_ ?_ (gc.le l) hp)
   ·rw [hs];exact ho
   ·rw [hs];exact iA
structure Mo where
 fin:Bool
 how:Int
 v:Va
 h:Hp
 cs:List aL
def zg (h:Hp) (cs:List aL):Mo:=⟨false,0,aE,h,cs⟩
def kF (how:Int) (v:Va) (h:Hp):Mo:=⟨true,how,v,h,[]⟩
def unwM (h:Hp):List aL->Mo
 | []=>kF 2 ⟨3,h.thrown⟩ h
 | c::cs=>if h.caughtL c.pc c.m.hands<0 then unwM h.leave cs
  else zg { h with thrown:=-1 } ({ c with giv:=aE,cau:=⟨3,h.thrown⟩,pc:=h.caughtL c.pc c.m.hands }::cs)
def kP (h:Hp) (v:Va):List aL->Mo
 | []=>kF 1 v h
 | c::cs=>zg h ({ c with giv:=v,cau:=aE,pc:=c.pc+1 }::cs)
def zh (h:Hp) (c:aL) (cs:List aL) (i:In):Mo :=
 if c.m.ret.kind=0 then kP h.leave aE cs
 else if h.of (c.rd i.a) c.m.ret=true then kP h.leave (c.rd i.a) cs
 else kF 6 aE h
def vE (h:Hp) (c:aL) (cs:List aL) (i:In):Mo :=
 let m:=nth bT h.file.methods i.a.toNat
 if h.enterL (c.rds i.args m.params) m.params=false then kF 6 aE h
 else if h.deep=true then kF 5 aE h
 else zg { h with calls:=h.calls+1 } (cv m (c.rds i.args m.params)::c::cs)
def rj (d:nd) (cs:List aL):Mo :=
 if d.h.over=true then kF d.h.sh.fin aE d.h
 else if 0<=d.h.thrown then unwM d.h (d.c::cs)
 else zg d.h ({ d.c with pc:=d.nx }::cs)
def dV (h:Hp) (c:aL) (cs:List aL):Mo :=
 if ¬c.pc<c.m.code.length then kF 6 aE h
 else if (nth eR c.m.code c.pc.toNat).op=20 then zh h c cs (nth eR c.m.code c.pc.toNat)
 else if (nth eR c.m.code c.pc.toNat).op=18 then vE h c cs (nth eR c.m.code c.pc.toNat)
 else rj (bV h c (nth eR c.m.code c.pc.toNat)) cs
def runM:Nat->Hp->List aL->Mo
 | 0,h,cs=>kF 0 aE h
 | n+1,h,[]=>kF 0 aE h
 | n+1,h,c::cs=>if h.stepB=false then kF 0 aE h
  else if (dV h.step c cs).fin=true then dV h.step c cs
  else runM n (dV h.step c cs).h (dV h.step c cs).cs
def oM (o:Mo):Sh :=
 if o.how=2 then ⟨2,0,(o.h.obj o.v.n).cls,o.h.sh.o,o.h.sh.used,o.h.sh.steps⟩
 else ⟨o.how,if o.v.kind=3 then 0 else o.v.n,0,o.h.sh.o,o.h.sh.used,o.h.sh.steps⟩
def rp (n:Nat) (h:Hp) (cs:List aL):Sh:=oM (runM n h cs)
def rq (k:Nat) (o:Mo):Sh:=if o.fin=true then oM o else rp k o.h o.cs
def jf (k:Nat) (r:Hp×Va) (cs:List aL):Sh :=
 if r.1.over=true then ⟨r.1.sh.fin,0,0,r.1.sh.o,r.1.sh.used,r.1.sh.steps⟩
 else if 0<=r.1.thrown then rq k (unwM r.1 cs)
 else rq k (kP r.1 r.2 cs)
def cG (k:Nat) (h:Hp):Prop:=h.fuel-h.sh.steps<=k
theorem qg (h:Hp) (c:aL) (i:In):Le h (bV h c i).h:=by
 have m:=fun b=>dw h b
 unfold bV
 split
 ·exact Le.refl h
 split
 ·exact m _
 split
 ·exact m _
 split
 ·unfold pL;dsimp only;split
  ·exact (m _).trans (dw _ _)
  ·exact ((m _).trans (dw _ _)).trans (yO _ _ _ _ _)
 split
 ·unfold wF;dsimp only;split
  ·exact m _
  ·exact (m _).trans (tW _ _ _)
 split
 ·exact m _
 split
 ·unfold Fe;dsimp only;split
  ·exact m _
  ·exact (m _).trans (qK _ _)
 split
 ·exact m _
 split
 ·unfold wG;dsimp only;split
  ·exact m _
  ·exact (m _).trans (tX _ _ _)
 ·exact j7 h c i
theorem zi (h:Hp) (c:aL) (i:In):(bV h c i).c.m=c.m/\(bV h c i).c.pc=c.pc/\(bV h c i).c.giv=aE:=by
 unfold bV
 split
 ·exact ⟨rfl,rfl,rfl⟩
 split
 ·exact ⟨rfl,rfl,rfl⟩
 split
 ·exact ⟨rfl,rfl,rfl⟩
 split
 ·exact ⟨rfl,rfl,rfl⟩
 split
 ·exact ⟨rfl,rfl,rfl⟩
 split
 ·unfold wH;dsimp only;split
  ·exact ⟨(ku ..).1,(ku ..).2.1,(ku ..).2.2.1⟩
  ·exact ⟨rfl,rfl,rfl⟩
 split
 ·exact ⟨rfl,rfl,rfl⟩
 split
 ·unfold wI;dsimp only;split
  ·exact ⟨(ku ..).1,(ku ..).2.1,(ku ..).2.2.1⟩
  ·exact ⟨rfl,rfl,rfl⟩
 split
 ·exact ⟨rfl,rfl,rfl⟩
 ·exact ⟨(ku ..).1,(ku ..).2.1,(ku ..).2.2.1⟩
structure Lf (h h':Hp):Prop where
 fuel:h'.fuel=h.fuel
 steps:h.sh.steps<=h'.sh.steps
theorem Lf.refl (h:Hp):Lf h h:=⟨rfl,Int.le_refl _⟩
theorem Lf.trans {a b c:Hp} (h:Lf a b) (k:Lf b c):Lf a c:=⟨k.fuel.trans h.fuel,Int.le_trans h.steps k.steps⟩
theorem Le.lf {h h':Hp} (l:Le h h'):Lf h h':=⟨l.fuel,l.steps⟩
theorem Lf.enough {h h':Hp} (l:Lf h h') {k:Nat} (e:cG k h):cG k h':=by
 have:=l.fuel;have:=l.steps;unfold cG at *;omega
theorem fL (h:Hp):Lf h h.leave:=⟨rfl,Int.le_refl _⟩
theorem unw_lf:∀(cs:List aL) (h:Hp),Lf h (unwM h cs).h
 | [],h=>Lf.refl h
 | c::cs,h=>by
  unfold unwM
  split
  ·exact (fL h).trans (unw_lf cs h.leave)
  ·exact ⟨rfl,Int.le_refl _⟩
theorem Bo (h:Hp) (v:Va) (cs:List aL):Lf h (kP h v cs).h:=by
 cases cs with
 | nil=>exact Lf.refl h
 | cons c cs =>
  exact Lf.refl h
theorem qh (h:Hp) (c:aL) (cs:List aL):Lf h (dV h c cs).h:=by
 unfold dV
 split
 ·exact Lf.refl h
 split
 ·unfold zh
  split
  ·exact (fL h).trans (Bo _ _ _)
  split
  ·exact (fL h).trans (Bo _ _ _)
  ·exact Lf.refl h
 split
 ·unfold vE
  dsimp only
  split
  ·exact Lf.refl h
  split
  ·exact Lf.refl h
  ·exact ⟨rfl,Int.le_refl _⟩
 ·unfold rj
  have hl:=(qg h c (nth eR c.m.code c.pc.toNat)).lf
  split
  ·exact hl
  split
  ·exact hl.trans (unw_lf _ _)
  ·exact hl
theorem fW {h:Hp} (hb:h.stepB=true):h.step.sh.steps=h.sh.steps+1/\h.step.fuel=h.fuel/\h.step.over=false/\h.step.thrown=h.thrown/\h.step.file=h.file/\h.step.calls=h.calls:=by
 unfold Hp.stepB at hb
 simp at hb
 have e:h.step={ h with sh:={ h.sh with steps:=h.sh.steps+1 } }:=by
  unfold Hp.step
  rw [if_neg (by rw [hb.1];decide),if_neg (by omega)]
 rw [e]
 exact ⟨rfl,rfl,hb.1,rfl,rfl,rfl⟩
theorem lF {k:Nat} {h:Hp} (e:cG 0 h):h.stepB=false:=by
 unfold cG at e
 unfold Hp.stepB
 have:¬h.sh.steps<h.fuel:=by omega
 simp [this]
theorem fX {k:Nat} {h:Hp} (e:cG (k+1) h) (hb:h.stepB=true):cG k h.step:=by
 obtain ⟨h1,h2,-⟩:=fW hb
 unfold cG at *
 omega
theorem rr:∀(k k':Nat) (h:Hp) (cs:List aL),cG k h->cG k' h->runM k h cs=runM k' h cs
 | 0,0,h,cs,_,_=>rfl
 | 0,k'+1,h,[],_,_=>rfl
 | 0,k'+1,h,c::cs,e,_=>by
  unfold runM
  rw [if_pos (lF (k:=0) e)]
 | k+1,0,h,[],_,_=>rfl
 | k+1,0,h,c::cs,_,e=>by
  unfold runM
  rw [if_pos (lF (k:=0) e)]
 | k+1,k'+1,h,[],_,_=>rfl
 | k+1,k'+1,h,c::cs,e,e'=>by
  rw [runM,runM]
  by_cases hb:h.stepB=false
  ·rw [if_pos hb,if_pos hb]
  ·have ze:h.stepB=true:=by simpa using hb
   rw [if_neg hb,if_neg hb]
   by_cases hf:(dV h.step c cs).fin=true
   ·rw [if_pos hf,if_pos hf]
   ·rw [if_neg hf,if_neg hf]
    exact rr k k' _ _ ((qh h.step c cs).enough (fX e ze)) ((qh h.step c cs).enough (fX e' ze))
theorem Db {k k':Nat} {o:Mo} (e:cG k o.h) (e':cG k' o.h):rq k o=rq k' o:=by
 unfold rq rp
 rw [rr k k' o.h o.cs e e']
theorem NV {k:Nat} {h:Hp} {c:aL} {cs:List aL} (hb:h.stepB=true):rp (k+1) h (c::cs)=rq k (dV h.step c cs):=by
 unfold rp rq
 rw [runM,if_neg (by rw [hb];decide)]
 split<;>rfl
structure MQ (go:Hp->aL->Hp×Va):Prop where
 lf:∀h c,Lf h (go h c).1
 none:∀h c,h.stops=false->0<=(go h c).1.thrown->(go h c).2=aE
theorem xw (h:Hp) (m:Me) (l:List Va):Lf h (h.enterH m l):=by
 unfold Hp.enterH
 split
 ·exact (gN h 6).lf
 ·split
  ·exact (gN h 5).lf
  ·exact ⟨rfl,Int.le_refl _⟩
section
variable {go:Hp->aL->Hp×Va}
theorem NW (G:MQ go) (h:Hp) (m:Me) (l:List Va):Lf h (iZ go h m l).1:=by
 unfold iZ
 split
 ·exact (xw h m l).trans (G.lf _ _)
 ·exact xw h m l
theorem Bp (G:MQ go) (h:Hp) (c:aL) (i:In):Lf h (jw go h c i).h:=by
 unfold jw
 dsimp only
 split
 ·exact (nN c _ _ h).lf
 ·exact (nN c _ _ h).lf.trans (NW G _ _ _)
theorem Ky (G:MQ go) (d:nd):Lf d.h (dM go d).1:=by
 unfold dM
 split
 ·exact fL _
 split
 ·split
  ·exact fL _
  ·refine Lf.trans ?_ (G.lf _ _)
   exact ⟨rfl,Int.le_refl _⟩
 ·exact G.lf _ _
end
theorem NY (h:Hp) (c:aL) (i:In):Lf h (lx h c i).1:=by
 unfold lx
 split
 ·exact fL h
 ·exact ((dP h _ _ _).trans (dw _ _)).lf.trans (fL _)
section
variable {go:Hp->aL->Hp×Va}
theorem Gp (G:MQ go) (h:Hp) (c:aL):Lf h (gw go h c).1:=by
 unfold gw
 split
 ·exact (dw h _).lf.trans (fL _)
 split
 ·exact NY h c _
 ·refine Lf.trans ?_ (Ky G _)
  split
  ·exact Bp G h c _
  ·exact (qg h c _).lf
theorem Dc (G:MQ go) (d:nd) (ht:0<=(dM go d).1.thrown):(dM go d).2=aE:=by
 unfold dM at ht ⊢
 split
 ·rfl
 ·rename_i h1
  rw [if_neg h1] at ht
  split
  ·rename_i h2
   rw [if_pos h2] at ht
   split
   ·rfl
   ·rename_i h3
    rw [if_neg h3] at ht
    exact G.none _ _ (by simp [Hp.stops];simpa using h1) ht
  ·rename_i h2
   rw [if_neg h2] at ht
   exact G.none _ _ (by unfold Hp.stops;simp;exact ⟨by simpa using h1,by omega⟩) ht
theorem zj (G:MQ go) (h:Hp) (c:aL) (hs:h.stops=false) (ht:0<=(gw go h c).1.thrown):(gw go h c).2=aE:=by
 have hn:¬0<=h.thrown:=by
  unfold Hp.stops at hs
  rw [Bool.or_eq_false_iff] at hs
  simpa using hs.2
 unfold gw at ht ⊢
 split
 ·rfl
 ·rename_i h1
  rw [if_neg h1] at ht
  split
  ·rename_i h2
   rw [if_pos h2] at ht
   unfold lx at ht ⊢
   split
   ·rfl
   ·rename_i h3
    exfalso
    rw [if_neg h3] at ht
    dsimp only [Hp.leave] at ht
    rw [jz] at ht
    unfold Hp.rdH at ht
    rw [jz] at ht
    exact hn ht
  ·rename_i h2
   rw [if_neg h2] at ht
   exact Dc G _ ht
end
theorem rA (h:Hp):Lf h h.step:=(jx h).lf
theorem rB:∀n:Nat,MQ (cn n)
 | 0=>⟨fun h c=>(rA h).trans (fL _),fun h c _ _=>rfl⟩
 | n+1=>by
  have G:=rB n
  refine ⟨fun h c=>?_,fun h c e ht=>?_⟩
  ·unfold cn
   split
   ·exact (rA h).trans (fL _)
   ·exact (rA h).trans (Gp G _ _)
  ·unfold cn at ht ⊢
   split
   ·rfl
   ·rename_i h1
    rw [if_neg h1] at ht
    have hb:h.stepB=true:=by simpa using h1
    obtain ⟨-,-,s3,s4,-,-⟩:=fW hb
    refine zj G _ _ ?_ ht
    unfold Hp.stops at e ⊢
    rw [Bool.or_eq_false_iff] at e
    rw [s3,s4,e.2]
    rfl
theorem gS {k:Nat} {r:Hp×Va} {cs:List aL} (h:r.1.over=true):jf k r cs=⟨r.1.sh.fin,0,0,r.1.sh.o,r.1.sh.used,r.1.sh.steps⟩:=by unfold jf;rw [if_pos h]
theorem oO (k:Nat) (how:Int) (h:Hp) (hn:how≠2):rq k (kF how aE h)=⟨how,0,0,h.sh.o,h.sh.used,h.sh.steps⟩:=by
 unfold rq kF oM
 dsimp only
 rw [if_pos rfl,if_neg hn]
 rfl
def Sr (n:Nat):Prop:=∀(h:Hp) (c:aL),h.stops=false->cG n h->∀(k:Nat) (cs:List aL),cG k h->rp k h (c::cs)=jf k (cn n h c) cs
theorem zl {n:Nat} (S:Sr n) (d:nd) (hg:d.c.giv=aE) (ho:d.h.over=false) (ht:0<=d.h.thrown) (e:cG n d.h) (k:Nat) (cs:List aL) (ek:cG k d.h) :
  rq k (unwM d.h (d.c::cs))=jf k (dM (cn n) d) cs:=by
 unfold unwM dM
 rw [if_neg (show ¬d.h.over=true by rw [ho];decide),if_pos ht]
 by_cases hc:d.h.caughtL d.c.pc d.c.m.hands<0
 ·rw [if_pos hc,if_pos hc]
  unfold jf
  have h1:d.h.leave.over=false:=ho
  have h2:0<=d.h.leave.thrown:=ht
  dsimp only
  rw [if_neg (by rw [h1];decide),if_pos h2]
 ·rw [if_neg hc,if_neg hc]
  have hst:({ d.h with thrown:=-1 }:Hp).stops=false:=by simp [Hp.stops,ho]
  have:=S { d.h with thrown:=-1 } { d.c with cau:=⟨3,d.h.thrown⟩,pc:=d.h.caughtL d.c.pc d.c.m.hands } hst e k cs ek
  have e0:∀h cs,rq k (zg h cs)=rp k h cs:=by
   intro h cs
   unfold rq zg
   rw [if_neg (by simp)]
  rw [e0,<-hg]
  exact this
theorem Bq {n:Nat} (S:Sr n) (d:nd) (hg:d.h.over=false->0<=d.h.thrown->d.c.giv=aE) (e:cG n d.h) (k:Nat) (cs:List aL) (ek:cG k d.h) (hf:d.h.over=true->d.h.sh.fin≠2) :
  rq k (rj d cs)=jf k (dM (cn n) d) cs:=by
 unfold rj
 by_cases ho:d.h.over=true
 ·rw [if_pos ho,oO _ _ _ (hf ho)]
  have:dM (cn n) d=(d.h.leave,aE):=by unfold dM;rw [if_pos ho]
  rw [this,gS ho]
  rfl
 ·rw [if_neg ho]
  have og:d.h.over=false:=by simpa using ho
  by_cases ht:0<=d.h.thrown
  ·rw [if_pos ht]
   exact zl S d (hg og ht) og ht e k cs ek
  ·rw [if_neg ht]
   have:dM (cn n) d=cn n d.h { d.c with pc:=d.nx }:=by unfold dM;rw [if_neg ho,if_neg ht]
   rw [this]
   have hst:d.h.stops=false:=by simp [Hp.stops,og,ht]
   have:=S d.h { d.c with pc:=d.nx } hst e k cs ek
   have e0:∀h cs,rq k (zg h cs)=rp k h cs:=by
    intro h cs
    unfold rq zg
    rw [if_neg (by simp)]
   rw [e0]
   exact this
theorem il {h:Hp} (hs:h.stops=false):h.over=false/\¬0<=h.thrown:=by
 unfold Hp.stops at hs
 rw [Bool.or_eq_false_iff] at hs
 exact ⟨hs.1,by simpa using hs.2⟩
theorem xy {k:Nat} {h:Hp} {v:Va} {cs:List aL} (hs:h.stops=false):jf k (h,v) cs=rq k (kP h v cs):=by
 obtain ⟨h1,h2⟩:=il hs
 unfold jf
 dsimp only
 rw [if_neg (by rw [h1];decide),if_neg h2]
theorem Br {h:Hp} (h1:h.over=false) (k:Nat) (cs:List aL) (v:Va):rq k (kF 6 aE h)=jf k ((h.must false).leave,v) cs:=by
 have e1:h.must false={ h with over:=true,sh:={ h.sh with fin:=6 } }:=by simp [Hp.must,Hp.fin,h1]
 rw [e1,gS rfl,oO _ _ _ (by decide)]
 rfl
theorem Kz (h:Hp) (c:aL) (i:In) (hs:h.stops=false) (k:Nat) (cs:List aL):rq k (zh h c cs i)=jf k (lx h c i) cs:=by
 obtain ⟨h1,h2⟩:=il hs
 unfold zh lx
 by_cases hr:c.m.ret.kind=0
 ·rw [if_pos hr,if_pos hr]
  exact (xy (h:=h.leave) hs).symm
 ·rw [if_neg hr,if_neg hr]
  dsimp only
  cases ho:h.of (c.rd i.a) c.m.ret with
  | true =>
   have hk:=qd ho
   have e1:h.rdH c i.a c.m.ret.kind=h:=by unfold Hp.rdH Hp.must;rw [if_pos (decide_eq_true hk)]
   rw [if_pos rfl,e1,ho]
   have e2:h.must (!h.over&&true)=h:=by simp [Hp.must,h1]
   rw [e2]
   exact (xy (h:=h.leave) hs).symm
  | false =>
   rw [if_neg (by decide)]
   by_cases hk:(c.rd i.a).kind=c.m.ret.kind
   ·have e1:h.rdH c i.a c.m.ret.kind=h:=by unfold Hp.rdH Hp.must;rw [if_pos (decide_eq_true hk)]
    rw [e1,ho,Bool.and_false]
    exact Br h1 k cs _
   ·have e1:h.rdH c i.a c.m.ret.kind=h.must false:=by unfold Hp.rdH;rw [decide_eq_false hk]
    have e2:∀b,(h.must false).must (!(h.must false).over&&b)=h.must false:=by
     intro b
     have:(h.must false).over=true:=by simp [Hp.must,Hp.fin,h1]
     rw [this]
     simp [Hp.must,Hp.fin,h1]
    rw [e1,e2]
    exact Br h1 k cs _
theorem tD {h:Hp} {c:aL}:∀(l:List Int) (k:List Ty),h.over=false->(h.rdsH c l k).over=true->h.enterL (c.rds l k) k=false/\h.rdsH c l k=h.must false
 | [],_,h1,h2=>by unfold Hp.rdsH at h2;rw [h1] at h2;cases h2
 | _::_,[],h1,h2=>by unfold Hp.rdsH at h2;rw [h1] at h2;cases h2
 | a::l,t::k,h1,h2=>by
  unfold Hp.rdsH at h2 ⊢
  unfold aL.rds Hp.enterL
  by_cases hk:(c.rd a).kind=t.kind
  ·have e1:h.rdH c a t.kind=h:=by unfold Hp.rdH Hp.must;rw [if_pos (decide_eq_true hk)]
   rw [e1] at h2 ⊢
   obtain ⟨r1,r2⟩:=tD l k h1 h2
   rw [r1,r2]
   exact ⟨Bool.and_false _,rfl⟩
  ·have e1:h.rdH c a t.kind=h.must false:=by unfold Hp.rdH;rw [decide_eq_false hk]
   have eo:h.of (c.rd a) t=false:=by
    cases hx:h.of (c.rd a) t
    ·rfl
    ·exact absurd (qd hx) hk
   refine ⟨by rw [eo];rfl,?_⟩
   rw [e1]
   have cY:(h.must false).over=true:=by simp [Hp.must,Hp.fin,h1]
   have key:∀(l:List Int) (k:List Ty),(h.must false).rdsH c l k=h.must false:=by
    intro l
    induction l with
    | nil=>intro k;rfl
    | cons b l ih =>
     intro k
     cases k with
     | nil=>rfl
     | cons t k =>
      show ((h.must false).rdH c b t.kind).rdsH c l k=_
      have:(h.must false).rdH c b t.kind=h.must false:=by
       unfold Hp.rdH
       generalize decide ((c.rd b).kind=t.kind)=q
       cases q
       ·rw [show (h.must false).must false=(h.must false).fin 6 from rfl,Hp.fin,if_pos cY]
       ·rfl
      rw [this];exact ih k
   exact key l k
theorem nP {go:Hp->aL->Hp×Va} {d:nd} (ho:d.h.over=true) {k:Nat} {cs:List aL}:jf k (dM go d) cs=⟨d.h.sh.fin,0,0,d.h.sh.o,d.h.sh.used,d.h.sh.steps⟩:=by
 have:dM go d=(d.h.leave,aE):=by unfold dM;rw [if_pos ho]
 rw [this,gS ho]
 rfl
theorem Gq {n:Nat} (S:Sr n) (h:Hp) (c:aL) (i:In) (hs:h.stops=false) (e:cG n h) (k:Nat) (cs:List aL) (ek:cG k h) :
  rq k (vE h c cs i)=jf k (dM (cn n) (jw (cn n) h c i)) cs:=by
 obtain ⟨h1,h2⟩:=il hs
 have G:=rB n
 unfold vE jw
 dsimp only
 generalize hm:nth bT h.file.methods i.a.toNat=m
 cases hv:(h.rdsH c i.args m.params).over with
 | true =>
  obtain ⟨r1,r2⟩:=tD i.args m.params h1 hv
  rw [if_pos r1,if_pos rfl,r2]
  have e1:h.must false={ h with over:=true,sh:={ h.sh with fin:=6 } }:=by simp [Hp.must,Hp.fin,h1]
  rw [e1,nP rfl,oO _ _ _ (by decide)]
 | false =>
  rw [qe c i.args m.params hv,if_neg (show ¬(false=true) by decide)]
  cases hl:h.enterL (c.rds i.args m.params) m.params with
  | false =>
   rw [if_pos rfl]
   have e2:iZ (cn n) h m (c.rds i.args m.params)=({ h with over:=true,sh:={ h.sh with fin:=6 } },aE):=by
    simp [iZ,Hp.enterB,Hp.enterH,hl,Hp.fin,h1]
   rw [e2,nP rfl,oO _ _ _ (by decide)]
  | true =>
   rw [if_neg (by decide)]
   cases hd:h.deep with
   | true =>
    rw [if_pos rfl]
    have e2:iZ (cn n) h m (c.rds i.args m.params)=({ h with over:=true,sh:={ h.sh with fin:=5 } },aE):=by
     simp [iZ,Hp.enterB,Hp.enterH,hl,hd,Hp.fin,h1]
    rw [e2,nP rfl,oO _ _ _ (by decide)]
   | false =>
    rw [if_neg (by decide)]
    have e2:iZ (cn n) h m (c.rds i.args m.params)=cn n { h with calls:=h.calls+1 } (cv m (c.rds i.args m.params)):=by
     simp [iZ,Hp.enterB,Hp.enterH,hl,hd]
    rw [e2]
    have hst:({ h with calls:=h.calls+1 }:Hp).stops=false:=hs
    have IH:=S { h with calls:=h.calls+1 } (cv m (c.rds i.args m.params)) hst e k (c::cs) ek
    have e3:rq k (zg { h with calls:=h.calls+1 } (cv m (c.rds i.args m.params)::c::cs))=rp k { h with calls:=h.calls+1 } (cv m (c.rds i.args m.params)::c::cs):=by
     unfold rq zg;rw [if_neg (by simp)]
    rw [e3,IH]
    clear e3 IH
    have KB:=G.lf { h with calls:=h.calls+1 } (cv m (c.rds i.args m.params))
    have KC:=G.none { h with calls:=h.calls+1 } (cv m (c.rds i.args m.params)) hst
    have KE:Lf h (cn n { h with calls:=h.calls+1 } (cv m (c.rds i.args m.params))).1:=⟨KB.fuel,KB.steps⟩
    generalize cn n { h with calls:=h.calls+1 } (cv m (c.rds i.args m.params))=r at KB KC KE
    obtain ⟨rh,rv⟩:=r
    dsimp only at KB KC KE ⊢
    have er:=KE.enough e
    have YJ:=KE.enough ek
    by_cases Mz:rh.over=true
    ·rw [gS Mz,nP Mz]
    ·have YK:rh.over=false:=by simpa using Mz
     have:=Bq S ⟨rh,{ c.clr with giv:=rv },c.pc+1⟩ (fun _ ht=>KC ht) er k cs YJ (fun q=>absurd q Mz)
     rw [<-this]
     unfold jf rj
     dsimp only
     rw [if_neg Mz,if_neg Mz]
     by_cases Qt:0<=rh.thrown
     ·rw [if_pos Qt,if_pos Qt,KC Qt]
      rfl
     ·rw [if_neg Qt,if_neg Qt]
      rfl
def Gr (h:Hp):Prop:=h.over=true->h.sh.fin≠2
theorem Gs:Safe Gr :=
 ⟨fun h e he p=>by
   unfold Hp.fin;split
   ·exact p
   ·intro _;show e≠2;omega,
  fun h o p=>p,fun h t p=>p,fun h n p=>p,fun h p=>p⟩
theorem xz (h:Hp) (c:aL) (i:In) (hf:Gr h):Gr (bV h c i).h:=Gs.does hf c i
theorem Bt:∀n:Nat,Sr n
 | 0=>by
  intro h c hs e k cs ek
  have hb:=lF (k:=0) e
  obtain ⟨h1,h2⟩:=il hs
  have hf:h.fuel<=h.sh.steps:=by unfold cG at e;omega
  have es:h.step={ h with over:=true,sh:={ h.sh with fin:=0 } }:=by
   unfold Hp.step Hp.fin
   rw [if_neg (by rw [h1];decide),if_pos hf,if_neg (by rw [h1];decide)]
  have el:cn 0 h c=(h.step.leave,aE):=rfl
  rw [el,es,gS rfl]
  cases k with
  | zero=>rfl
  | succ k =>
   unfold rp
   rw [runM,if_pos hb]
   rfl
 | n+1=>by
  have S:=Bt n
  intro h c hs e k cs ek
  obtain ⟨h1,h2⟩:=il hs
  cases hb:h.stepB with
  | false =>
   have hf:h.fuel<=h.sh.steps:=by
    unfold Hp.stepB at hb
    simp [h1] at hb
    exact hb
   have es:h.step={ h with over:=true,sh:={ h.sh with fin:=0 } }:=by
    unfold Hp.step Hp.fin
    rw [if_neg (by rw [h1];decide),if_pos hf,if_neg (by rw [h1];decide)]
   have el:cn (n+1) h c=(h.step.leave,aE):=by rw [cn,if_pos hb]
   rw [el,es,gS rfl]
   cases k with
   | zero=>rfl
   | succ k =>
    unfold rp
    rw [runM,if_pos hb]
    rfl
  | true =>
   have el:cn (n+1) h c=gw (cn n) h.step c:=by rw [cn,if_neg (by rw [hb];decide)]
   obtain ⟨k',hk⟩:∃k',k=k'+1:=by
    cases k with
    | zero=>rw [lF (k:=0) ek] at hb;exact absurd hb (by decide)
    | succ k=>exact ⟨k,rfl⟩
   subst hk
   rw [el,NV hb]
   have e1:=fX e hb
   have YL:=fX ek hb
   obtain ⟨-,-,s3,s4,-,-⟩:=fW hb
   have C4:h.step.stops=false:=by
    unfold Hp.stops
    rw [s3,s4]
    simpa using h2
   generalize h.step=hh at *
   have TR:cG (k'+1) hh:=by unfold cG at *;omega
   have up:∀(o:Mo),Lf hh o.h->rq k' o=rq (k'+1) o:=fun o l=>Db (l.enough YL) (l.enough TR)
   rw [up _ (qh hh c cs)]
   unfold dV gw
   by_cases hp:c.pc<c.m.code.length
   ·rw [if_neg (by simpa using hp)]
    have MK:¬(hh.mustB (decide (c.pc<c.m.code.length))=false):=by simp [Hp.mustB,hp,s3]
    rw [if_neg MK]
    by_cases kQ:(nth eR c.m.code c.pc.toNat).op=20
    ·rw [if_pos kQ,if_pos kQ]
     exact Kz hh c _ C4 (k'+1) cs
    ·rw [if_neg kQ,if_neg kQ]
     by_cases oP:(nth eR c.m.code c.pc.toNat).op=18
     ·rw [if_pos oP,if_pos oP]
      exact Gq S hh c _ C4 e1 (k'+1) cs TR
     ·rw [if_neg oP,if_neg oP]
      have hl:=(qg hh c (nth eR c.m.code c.pc.toNat)).lf
      exact Bq S _ (fun _ _=>(zi hh c _).2.2) (hl.enough e1) (k'+1) cs (hl.enough TR) (xz hh c _ (fun q=>by rw [s3] at q;exact absurd q (by decide)))
   ·rw [if_pos (by simpa using hp)]
    have MK:hh.mustB (decide (c.pc<c.m.code.length))=false:=by simp [Hp.mustB,hp]
    rw [if_pos MK]
    have e2:hh.must (decide (c.pc<c.m.code.length))={ hh with over:=true,sh:={ hh.sh with fin:=6 } }:=by simp [Hp.must,Hp.fin,hp,s3]
    rw [e2,gS rfl,oO _ _ _ (by decide)]
    rfl
theorem Gc.objs {h h':Hp} {c:aL} (g:Gc h c) (e1:h'.objs=h.objs) (e2:h'.file=h.file):Gc h' c :=
 ⟨⟨fun e=>by rw [e1];exact g.giv.ref e,g.giv.num⟩,⟨fun e=>by rw [e1];exact g.cau.ref e,g.cau.num⟩,fun v hv=>⟨fun e=>by rw [e1];exact (g.locs v hv).ref e,(g.locs v hv).num⟩,g.ok,g.len,by rw [e2];exact g.me,g.mok⟩
def IC (h:Hp) (cs:List aL):Prop:=∀c∈cs,Gc h c/\0<=c.pc/\c.pc<c.m.code.length
theorem IC.objs {h h':Hp} {cs:List aL} (g:IC h cs) (e1:h'.objs=h.objs) (e2:h'.file=h.file):IC h' cs:=fun c hc=>⟨(g c hc).1.objs e1 e2,(g c hc).2⟩
theorem IC.le {h h':Hp} {cs:List aL} (g:IC h cs) (l:Le h h'):IC h' cs:=fun c hc=>⟨(g c hc).1.le l,(g c hc).2⟩
structure IM (f:Fi) (inp:List Int) (h:Hp) (cs:List aL):Prop where
 file:h.file=f
 input:h.input=inp
 may:nM f
 gh:Gh 0 h
 kd:Kd h
 over:h.over=false
 thr:h.thrown=-1
 calls:h.calls=cs.length
 ex:∃c cs',cs=c::cs'/\Gc h c/\0<=c.pc/\c.pc<=c.m.code.length/\IC h cs'
theorem unw_inv (f:Fi) (inp:List Int) (dL:nM f):∀(cs:List aL) (h:Hp),h.file=f->h.input=inp->Gh 0 h->Kd h->h.over=false->0<=h.thrown->h.calls=cs.length->IC h cs->(unwM h cs).fin=false->IM f inp (unwM h cs).h (unwM h cs).cs/\(unwM h cs).h.sh=h.sh/\(unwM h cs).h.fuel=h.fuel
 | [],h,_,_,_,_,_,_,_,_,hfin=>by cases hfin
 | c::cs,h,hf,sE,gh,kd,ho,ht,hc,hI,hfin=>by
  have hg:=hI c List.mem_cons_self
  have hlen:h.calls=(cs.length:Int)+1:=by rw [hc];simp
  by_cases hcl:h.caughtL c.pc c.m.hands<0
  ·have e:unwM h (c::cs)=unwM h.leave cs:=if_pos hcl
   rw [e] at hfin ⊢
   have yB:=gh.calls
   have gl:Gh 0 h.leave:=⟨fun o ho x hx=>⟨fun e=>(gh.held o ho x hx).ref e,(gh.held o ho x hx).num⟩,gh.thr,gh.used,gh.steps,gh.fuel,gh.o,gh.len,gh.inp,by show 0<=h.calls-1/\h.calls-1<=20;omega⟩
   exact unw_inv f inp dL cs h.leave hf sE gl (kd.same rfl rfl) ho ht (by show h.calls-1=_;omega) (IC.objs (fun x hx=>hI x (List.mem_cons_of_mem _ hx)) rfl rfl) hfin
  ·have e:unwM h (c::cs)=zg { h with thrown:=-1 } ({ c with giv:=aE,cau:=⟨3,h.thrown⟩,pc:=h.caughtL c.pc c.m.hands }::cs):=by
    show (if _ then _ else _)=_
    rw [if_neg hcl]
   rw [e]
   have gt:Gh 0 { h with thrown:=-1 }:=gh.same rfl rfl rfl rfl rfl rfl rfl ⟨by dsimp only;omega,by dsimp only;omega⟩
   have g1:=hg.1.objs (h':={ h with thrown:=-1 }) rfl rfl
   have h1:=l3 (h:=h) (pc:=c.pc) (n:=c.m.code.length) (k:=h.file.classes.length) c.m.hands (jW hg.1.me).2.2.2.2.2.2.2.2.1
   refine ⟨⟨hf,sE,dL,gt,kd.same rfl rfl,ho,rfl,by show h.calls=_;rw [hc];simp [zg],_,cs,rfl,⟨jr _,?_,g1.locs,g1.ok,g1.len,g1.me,g1.mok⟩,by show 0<=h.caughtL c.pc c.m.hands;omega,by show h.caughtL c.pc c.m.hands<=c.m.code.length;omega,IC.objs (fun x hx=>hI x (List.mem_cons_of_mem _ hx)) rfl rfl⟩,rfl,rfl⟩
   exact ⟨fun _=>⟨by dsimp only;omega,gh.thr.2⟩,by have:=gh.thr;have:=gh.len;dsimp only;unfold cJ;omega⟩
theorem xA {f:Fi} {inp:List Int} {h:Hp} {c:aL} {cs:List aL} (hf:h.file=f) (oQ:h.input=inp) (dL:nM f) (gh:Gh 1 h) (kd:Kd h) (ho:h.over=false) (iA:h.thrown=-1) (hc:h.calls=(c::cs).length) (gc:Gc h c) (hp:0<=c.pc/\c.pc<=c.m.code.length) (hI:IC h cs) (hfin:(dV h c cs).fin=false) :
  IM f inp (dV h c cs).h (dV h c cs).cs:=by
 have hlen:h.calls=(cs.length:Int)+1:=by rw [hc];simp
 have yB:=gh.calls
 unfold dV at hfin ⊢
 by_cases hlt:c.pc<c.m.code.length
 ·rw [if_neg (by simpa using hlt)] at hfin ⊢
  obtain ⟨ok,iok⟩:=nO gc ⟨hp.1,hlt⟩
  generalize sE:nth eR c.m.code c.pc.toNat=i at *
  by_cases kQ:i.op=20
  ·rw [if_pos kQ] at hfin ⊢
   have gl:Gh 0 h.leave:=⟨fun o ho x hx=>⟨fun e=>(gh.held o ho x hx).ref e,(gh.held o ho x hx).num⟩,gh.thr,gh.used,gh.steps,gh.fuel,by have:=gh.o;show (h.sh.o.length:Int)+((0:Nat):Int)<=h.sh.steps;omega,gh.len,gh.inp,by show 0<=h.calls-1/\h.calls-1<=20;omega⟩
   have MR:∀v,jq h v->(kP h.leave v cs).fin=false->IM f inp (kP h.leave v cs).h (kP h.leave v cs).cs:=fun v gv TS=>by
    cases cs with
    | nil=>cases TS
    | cons c2 TU =>
     have h2:=hI c2 List.mem_cons_self
     have hr:IC h.leave TU:=IC.objs (fun x hx=>hI x (List.mem_cons_of_mem _ hx)) rfl rfl
     have hcl:h.leave.calls=((c2::TU).length:Int):=by show h.calls-1=_;omega
     have h3:=h2.1.objs (h':=h.leave) rfl rfl
     exact ⟨hf,oQ,dL,gl,kd.same rfl rfl,ho,iA,hcl,_,TU,rfl,⟨⟨fun e=>gv.ref e,gv.num⟩,jr _,h3.locs,h3.ok,h3.len,h3.me,h3.mok⟩,by show 0<=c2.pc+1;have:=h2.2.1;omega,by show c2.pc+1<=c2.m.code.length;have:=h2.2.2;omega,hr⟩
   unfold zh at hfin ⊢
   by_cases wA:c.m.ret.kind=0
   ·rw [if_pos wA] at hfin ⊢;exact MR _ (jr _) hfin
   ·rw [if_neg wA] at hfin ⊢
    by_cases l4:h.of (c.rd i.a) c.m.ret=true
    ·rw [if_pos l4] at hfin ⊢;exact MR _ (gc.rd (ok.ret kQ wA)) hfin
    ·rw [if_neg l4] at hfin;cases hfin
  ·rw [if_neg kQ] at hfin ⊢
   by_cases oP:i.op=18
   ·rw [if_pos oP] at hfin ⊢
    unfold vE at hfin ⊢
    dsimp only at hfin ⊢
    obtain ⟨c1,c2,c3⟩:=ok.call oP
    have iG:=(hf▸dL:nM h.file).2 _ (bE (d:=bT) (i:=i.a.toNat) (by omega:i.a.toNat<h.file.methods.length))
    generalize hM:nth bT h.file.methods i.a.toNat=m at *
    by_cases he:h.enterL (c.rds i.args m.params) m.params=false
    ·rw [if_pos he] at hfin;cases hfin
    rw [if_neg he] at hfin ⊢
    by_cases hd:h.deep=true
    ·rw [if_pos hd] at hfin;cases hfin
    rw [if_neg hd] at hfin ⊢
    have PH:h.calls<20:=by unfold Hp.deep at hd;simp at hd;exact hd
    have g2:Gh 0 { h with calls:=h.calls+1 }:=⟨fun o ho x hx=>⟨fun e=>(gh.held o ho x hx).ref e,(gh.held o ho x hx).num⟩,gh.thr,gh.used,gh.steps,gh.fuel,by have:=gh.o;show (h.sh.o.length:Int)+((0:Nat):Int)<=h.sh.steps;omega,gh.len,gh.inp,by show 0<=h.calls+1/\h.calls+1<=20;omega⟩
    have gn:Gc h (cv m (c.rds i.args m.params)):=nL iG.1 iG.2 (dG c _ _ c3) (vD gc _ _ (ok.args oP)) (by simpa using he)
    refine ⟨hf,oQ,dL,g2,kd.same rfl rfl,ho,iA,by show h.calls+1=_;rw [hc];simp [zg],_,c::cs,rfl,gn.objs rfl rfl,Int.le_refl _,by show (0:Int)<=m.code.length;omega,?_⟩
    intro x hx
    rcases List.mem_cons.1 hx with rfl|hx
    ·exact ⟨gc.objs rfl rfl,hp.1,hlt⟩
    ·exact (IC.objs (h':={ h with calls:=h.calls+1 }) hI rfl rfl) x hx
   ·rw [if_neg oP] at hfin ⊢
    have k:=j8 gh kd gc ho iA (hf▸dL:nM h.file).1 ok iok oP kQ ⟨hp.1,hlt⟩
    generalize bV h c i=d at *
    unfold rj at hfin ⊢
    by_cases cY:d.h.over=true
    ·rw [if_pos cY] at hfin;cases hfin
    rw [if_neg cY] at hfin ⊢
    have sT:d.h.over=false:=by simpa using cY
    have gd:=k.gc sT
    have Qv:d.h.calls=((d.c::cs).length:Int):=by rw [k.le.calls,hlen];simp
    by_cases zq:0<=d.h.thrown
    ·rw [if_pos zq] at hfin ⊢
     refine (unw_inv f inp dL (d.c::cs) d.h (k.le.file.trans hf) (k.le.input.trans oQ) k.gh k.kd sT zq Qv ?_ hfin).1
     intro x hx
     rcases List.mem_cons.1 hx with rfl|hx
     ·exact ⟨gd,by rw [k.pc];exact hp.1,by rw [k.pc,k.m];exact hlt⟩
     ·exact hI.le k.le x hx
    ·rw [if_neg zq] at hfin ⊢
     have Sq:d.h.thrown=-1:=by have:=k.gh.thr;omega
     exact ⟨k.le.file.trans hf,k.le.input.trans oQ,dL,k.gh,k.kd,sT,Sq,Qv,_,cs,rfl,gd.pc _,k.nx.1,by show d.nx<=d.c.m.code.length;rw [k.m];exact k.nx.2,hI.le k.le⟩
 ·rw [if_pos hlt] at hfin
  cases hfin
def Bv (h:Hp):Prop:=h.over=true->h.sh.fin≠2
theorem rC {h:Hp} (n:Bv h) (c:aL) (i:In):Bv (bV h c i).h:=xz h c i n
theorem Dd {h:Hp} (ht:h.thrown=-1) (c:aL) (i:In) (hx:0<=(bV h c i).h.thrown):(bV h c i).c.locs=c.locs:=by
 unfold bV at hx ⊢
 split
 ·rfl
 split
 ·rfl
 split
 ·rfl
 split
 ·rfl
 split
 ·rfl
 split
 ·rename_i h1 h2 h3 h4 h5 h6
  rw [if_neg h1,if_neg h2,if_neg h3,if_neg h4,if_neg h5,if_pos h6] at hx
  unfold wH at hx
  dsimp only at hx
  rw [jz,ht] at hx
  omega
 split
 ·rfl
 split
 ·rename_i h1 h2 h3 h4 h5 h6 h7 h8
  rw [if_neg h1,if_neg h2,if_neg h3,if_neg h4,if_neg h5,if_neg h6,if_neg h7,if_pos h8] at hx
  unfold wI at hx
  dsimp only at hx
  rw [jz,ht] at hx
  omega
 split
 ·rfl
 ·rename_i h1 h2 h3 h4 h5 h6 h7 h8 h9
  rw [if_neg h1,if_neg h2,if_neg h3,if_neg h4,if_neg h5,if_neg h6,if_neg h7,if_neg h8,if_neg h9] at hx
  unfold yJ at hx ⊢
  dsimp only at hx ⊢
  unfold mI
  rw [if_pos (by unfold Hp.stops;simp [hx])]
  rfl
theorem unw_same {h:Hp} {c c':aL} {cs:List aL} (e1:c'.m=c.m) (e2:c'.pc=c.pc) (e3:c'.locs=c.locs):unwM h (c'::cs)=unwM h (c::cs):=by
 show (if _ then _ else _)=(if _ then _ else _)
 rw [e1,e2,e3]
theorem l5 (h:Hp):∀(vs:List Va) (ts:List Ty),vs.length=ts.length->(h.enterL vs ts=true↔∀k,k<ts.length->h.of (nth aE vs k) (nth bS ts k)=true)
 | [],[],_=>⟨fun _ k hk=>absurd hk (Nat.not_lt_zero _),fun _=>rfl⟩
 | [],t::ts,e=>by simp at e
 | v::vs,[],e=>by simp at e
 | v::vs,t::ts,e=>by
  have ih:=l5 h vs ts (by simpa using e)
  show (h.of v t&&h.enterL vs ts)=true↔_
  rw [Bool.and_eq_true,ih]
  constructor
  ·rintro ⟨a,b⟩ k hk
   cases k with
   | zero=>exact a
   | succ k=>exact b k (by simpa using hk)
  ·intro a
   exact ⟨a 0 (by simp),fun k hk=>a (k+1) (by simpa using hk)⟩
structure Ed (f:Fi) (inp:List Int) (o:Mo):Prop where
 file:o.h.file=f
 input:o.h.input=inp
 len:o.h.objs.length<=100
 thr:o.how=2->o.v.kind=3/\0<=o.v.n/\o.v.n<o.h.objs.length
theorem lG {f:Fi} {inp:List Int} {h:Hp} (hf:h.file=f) (hi:h.input=inp) (hl:h.objs.length<=100) {how:Int} (hn:how≠2) (v:Va):Ed f inp (kF how v h):=⟨hf,hi,hl,fun e=>absurd e hn⟩
theorem unw_ed (f:Fi) (inp:List Int):∀(cs:List aL) (h:Hp),h.file=f->h.input=inp->h.objs.length<=100->0<=h.thrown/\h.thrown<h.objs.length->(unwM h cs).fin=true->Ed f inp (unwM h cs)
 | [],h,hf,hi,hl,ht,_=>⟨hf,hi,hl,fun _=>⟨rfl,ht.1,ht.2⟩⟩
 | c::cs,h,hf,hi,hl,ht,hfin=>by
  by_cases hcl:h.caughtL c.pc c.m.hands<0
  ·have e:unwM h (c::cs)=unwM h.leave cs:=if_pos hcl
   rw [e] at hfin ⊢
   exact unw_ed f inp cs h.leave hf hi hl ht hfin
  ·have e:unwM h (c::cs)=zg { h with thrown:=-1 } ({ c with giv:=aE,cau:=⟨3,h.thrown⟩,pc:=h.caughtL c.pc c.m.hands }::cs):=by
    show (if _ then _ else _)=_
    rw [if_neg hcl]
   rw [e] at hfin
   cases hfin
section
variable {f:Fi} {inp:List Int}
theorem Bw {h:Hp} (hf:h.file=f) (hi:h.input=inp) (hl:h.objs.length<=100) (v:Va) (cs:List aL) (hfin:(kP h v cs).fin=true):Ed f inp (kP h v cs):=by
 cases cs with
 | nil=>exact lG hf hi hl (by decide) _
 | cons c cs =>
  cases hfin
theorem KF {h:Hp} {c:aL} {cs:List aL} (hf:h.file=f) (oQ:h.input=inp) (gh:Gh 1 h) (kd:Kd h) (mc:xr h.file.classes) (ho:h.over=false) (iA:h.thrown=-1) (gc:Gc h c) (hp:0<=c.pc/\c.pc<=c.m.code.length) (hfin:(dV h c cs).fin=true) :
  Ed f inp (dV h c cs):=by
 unfold dV at hfin ⊢
 by_cases hlt:c.pc<c.m.code.length
 ·rw [if_neg (by simpa using hlt)] at hfin ⊢
  obtain ⟨ok,iok⟩:=nO gc ⟨hp.1,hlt⟩
  generalize sE:nth eR c.m.code c.pc.toNat=i at *
  by_cases kQ:i.op=20
  ·rw [if_pos kQ] at hfin ⊢
   unfold zh at hfin ⊢
   by_cases wA:c.m.ret.kind=0
   ·rw [if_pos wA] at hfin ⊢;exact Bw (h:=h.leave) hf oQ gh.len _ _ hfin
   ·rw [if_neg wA] at hfin ⊢
    by_cases l4:h.of (c.rd i.a) c.m.ret=true
    ·rw [if_pos l4] at hfin ⊢;exact Bw (h:=h.leave) hf oQ gh.len _ _ hfin
    ·rw [if_neg l4];exact lG hf oQ gh.len (by decide) _
  ·rw [if_neg kQ] at hfin ⊢
   by_cases oP:i.op=18
   ·rw [if_pos oP] at hfin ⊢
    unfold vE at hfin ⊢
    dsimp only at hfin ⊢
    generalize hM:nth bT h.file.methods i.a.toNat=m at *
    by_cases he:h.enterL (c.rds i.args m.params) m.params=false
    ·rw [if_pos he];exact lG hf oQ gh.len (by decide) _
    rw [if_neg he] at hfin ⊢
    by_cases hd:h.deep=true
    ·rw [if_pos hd];exact lG hf oQ gh.len (by decide) _
    rw [if_neg hd] at hfin
    cases hfin
   ·rw [if_neg oP] at hfin ⊢
    have k:=j8 gh kd gc ho iA mc ok iok oP kQ ⟨hp.1,hlt⟩
    have hnt:Bv (bV h c i).h:=rC (fun e=>by rw [ho] at e;cases e) c i
    generalize bV h c i=d at *
    have hl:=k.gh.len
    unfold rj at hfin ⊢
    by_cases cY:d.h.over=true
    ·rw [if_pos cY];exact lG (k.le.file.trans hf) (k.le.input.trans oQ) hl (hnt cY) _
    rw [if_neg cY] at hfin ⊢
    by_cases zq:0<=d.h.thrown
    ·rw [if_pos zq] at hfin ⊢
     exact unw_ed f inp (d.c::cs) d.h (k.le.file.trans hf) (k.le.input.trans oQ) hl ⟨zq,k.gh.thr.2⟩ hfin
    ·rw [if_neg zq] at hfin;cases hfin
 ·rw [if_pos (by simpa using hlt)];exact lG hf oQ gh.len (by decide) _
theorem Gt:∀(n:Nat) (h:Hp) (cs:List aL),IM f inp h cs->Ed f inp (runM n h cs)/\(runM n h cs).fin=true
 | 0,h,cs,im=>⟨lG im.file im.input im.gh.len (by decide) _,rfl⟩
 | n+1,h,[],im=>by obtain ⟨c,cs,e,-⟩:=im.ex;cases e
 | n+1,h,c::cs,im=>by
  obtain ⟨c',cs',e,gc,J0,pK,hI⟩:=im.ex
  simp only [List.cons.injEq] at e
  obtain ⟨rfl,rfl⟩:=e
  rw [runM]
  cases hb:h.stepB with
  | false=>rw [if_pos rfl];exact ⟨lG im.file im.input im.gh.len (by decide) _,rfl⟩
  | true =>
   rw [if_neg (by decide)]
   obtain ⟨q1,q2,q3,q4,q5,q6⟩:=fW hb
   have sl:=jx h
   have Qw:=im.gh.step hb
   by_cases hfin:(dV h.step c cs).fin=true
   ·rw [if_pos hfin]
    exact ⟨KF (q5.trans im.file) (sl.input.trans im.input) Qw im.kd.step (by rw [q5,im.file];exact im.may.1) q3 (q4.trans im.thr) (gc.le sl) ⟨J0,pK⟩ hfin,hfin⟩
   ·rw [if_neg hfin]
    exact Gt n _ _ (xA (q5.trans im.file) (sl.input.trans im.input) im.may Qw im.kd.step q3 (q4.trans im.thr) (q6.trans im.calls) (gc.le sl) ⟨J0,pK⟩ (hI.le sl) (by simpa using hfin))
end
def VZ (h:Hp):Prop:=h.sh.value=0/\h.sh.cls=0
theorem Bz:Safe VZ:=⟨fun h e _ p=>by unfold Hp.fin;split<;>exact p,fun h o p=>p,fun h t p=>p,fun h n p=>p,fun h p=>p⟩
theorem VZ.fin {h:Hp} (hf:VZ h) (e:Int):VZ (h.fin e):=by
 unfold Hp.fin
 split
 ·exact hf
 ·exact hf
theorem VZ.must {h:Hp} (hf:VZ h) (b:Bool):VZ (h.must b):=Bz.must hf b
theorem KG (h:Hp) (c:aL) (i:In) (hf:VZ h):VZ (bV h c i).h:=Bz.does hf c i
def Qx (go:Hp->aL->Hp×Va):Prop:=∀h c,VZ h->VZ (go h c).1
theorem VZ.enter {h:Hp} (hf:VZ h) (m:Me) (l:List Va):VZ (h.enterH m l):=by
 unfold Hp.enterH
 split
 ·exact hf.fin _
 ·split
  ·exact hf.fin _
  ·exact hf
theorem NZ {go:Hp->aL->Hp×Va} (G:Qx go) {h:Hp} (hf:VZ h) (m:Me) (l:List Va):VZ (iZ go h m l).1:=by
 unfold iZ
 split
 ·exact G _ _ (hf.enter m l)
 ·exact hf.enter m l
theorem zt (c:aL):∀(l:List Int) (k:List Ty) {h:Hp},VZ h->VZ (h.rdsH c l k)
 | [],_,h,g=>g
 | _::_,[],h,g=>g
 | a::l,t::k,h,g=>zt c l k (VZ.must g _)
theorem KH {go:Hp->aL->Hp×Va} (G:Qx go) {h:Hp} (hf:VZ h) (c:aL) (i:In):VZ (jw go h c i).h:=by
 unfold jw
 dsimp only
 split
 ·exact zt c _ _ hf
 ·exact NZ G (zt c _ _ hf) _ _
theorem KI {go:Hp->aL->Hp×Va} (G:Qx go) (d:nd) (hf:VZ d.h):VZ (dM go d).1:=by
 unfold dM
 split
 ·exact hf
 split
 ·split
  ·exact hf
  ·exact G _ _ (show VZ { d.h with thrown:=-1 } from hf)
 ·exact G _ _ hf
theorem Nu {h:Hp} (hf:VZ h) (c:aL) (i:In):VZ (lx h c i).1:=by
 unfold lx
 split
 ·exact hf
 ·exact (hf.must _).must _
theorem Gv {go:Hp->aL->Hp×Va} (G:Qx go) {h:Hp} (hf:VZ h) (c:aL):VZ (gw go h c).1:=by
 unfold gw
 split
 ·exact hf.must _
 split
 ·exact Nu hf c _
 ·apply KI G
  split
  ·exact KH G hf c _
  ·exact KG h c _ hf
theorem VZ.step {h:Hp} (hf:VZ h):VZ h.step:=by
 unfold Hp.step
 split
 ·exact hf
 ·split
  ·exact hf.fin _
  ·exact hf
theorem BA:∀n:Nat,Qx (cn n)
 | 0=>fun h c hf=>hf.step
 | n+1=>fun h c hf=>by
  unfold cn
  split
  ·exact hf.step
  ·exact Gv (BA n) hf.step c
def TV (n:Nat) (go:Hp->aL->Hp×Va):Prop:=∀h c,cG n h->(go h c).1.stops=false->(go h c).2.kind=c.m.ret.kind/\(c.m.ret.kind=0->(go h c).2.n=0)
theorem zv {h:Hp} {b:Bool} (ho:(h.must b).leave.stops=false) (hb:h.over=false):b=true:=by
 cases b with
 | true=>rfl
 | false=>simp [Hp.must,Hp.fin,hb,Hp.stops,Hp.leave] at ho
theorem N0 {n:Nat} {go:Hp->aL->Hp×Va} (G:TV n go) (d:nd) (e:cG n d.h) (hs:(dM go d).1.stops=false):(dM go d).2.kind=d.c.m.ret.kind/\(d.c.m.ret.kind=0->(dM go d).2.n=0):=by
 unfold dM at hs ⊢
 split
 ·rename_i h1
  rw [if_pos h1] at hs
  simp [Hp.stops,Hp.leave,h1] at hs
 ·rename_i h1
  rw [if_neg h1] at hs
  split
  ·rename_i h2
   rw [if_pos h2] at hs
   split
   ·rename_i h3
    rw [if_pos h3] at hs
    have:(d.h.leave,aE).1.stops=true:=by simp [Hp.stops,Hp.leave,h2]
    rw [this] at hs
    exact absurd hs (by decide)
   ·rename_i h3
    rw [if_neg h3] at hs
    exact G _ _ e hs
  ·rename_i h2
   rw [if_neg h2] at hs
   exact G _ _ e hs
theorem Qy (h:Hp) (c:aL) (i:In) (ho:h.over=false) (hs:(lx h c i).1.stops=false):(lx h c i).2.kind=c.m.ret.kind/\(c.m.ret.kind=0->(lx h c i).2.n=0):=by
 unfold lx at hs ⊢
 split
 ·rename_i h1;exact ⟨h1.symm,fun _=>rfl⟩
 ·rename_i h1
  rw [if_neg h1] at hs
  dsimp only at hs ⊢
  have Sn:(h.rdH c i.a c.m.ret.kind).over=false:=by
   cases hx:(h.rdH c i.a c.m.ret.kind).over with
   | false=>rfl
   | true =>
    exfalso
    rw [hx] at hs
    simp [Hp.must,Hp.fin,hx,Hp.stops,Hp.leave] at hs
  exact ⟨(oJ Sn).1,fun e=>absurd e h1⟩
theorem N3 (go:Hp->aL->Hp×Va) (h:Hp) (c:aL) (i:In):(jw go h c i).c.m=c.m:=by
 unfold jw
 dsimp only
 split<;>rfl
theorem KJ {n:Nat} {go:Hp->aL->Hp×Va} (K:MQ go) (G:TV n go) (h:Hp) (c:aL) (e:cG n h) (ho:h.over=false) (hs:(gw go h c).1.stops=false):(gw go h c).2.kind=c.m.ret.kind/\(c.m.ret.kind=0->(gw go h c).2.n=0):=by
 unfold gw at hs ⊢
 split
 ·rename_i h1
  rw [if_pos h1] at hs
  have:=zv hs ho
  unfold Hp.mustB at h1
  rw [this,ho] at h1
  simp at h1
 ·rename_i h1
  rw [if_neg h1] at hs
  split
  ·rename_i h2
   rw [if_pos h2] at hs
   exact Qy h c _ ho hs
  ·rename_i h2
   rw [if_neg h2] at hs
   have em:(if (nth eR c.m.code c.pc.toNat).op=18 then jw go h c (nth eR c.m.code c.pc.toNat) else bV h c (nth eR c.m.code c.pc.toNat)).c.m=c.m:=by
    split
    ·exact N3 go h c _
    ·exact (zi h c _).1
   have:=N0 G _ (by
    split
    ·exact (Bp K h c _).enough e
    ·exact (qg h c _).lf.enough e) hs
   rw [em] at this
   exact this
theorem rD {h:Hp} (hb:h.stepB=false):h.step.over=true:=by
 unfold Hp.stepB at hb
 unfold Hp.step
 by_cases ho:h.over=true
 ·rw [if_pos ho];exact ho
 ·rw [if_neg ho]
  simp [ho] at hb
  rw [if_pos hb]
  simp [Hp.fin,ho]
theorem Gw:∀n:Nat,TV n (cn n)
 | 0=>fun h c e hs=>by
  exfalso
  have:=rD (lF (k:=0) e)
  simp [cn,Hp.stops,Hp.leave,this] at hs
 | n+1=>fun h c e hs=>by
  unfold cn at hs ⊢
  split
  ·rename_i h1
   rw [if_pos h1] at hs
   have:=rD h1
   simp [Hp.stops,Hp.leave,this] at hs
  ·rename_i h1
   rw [if_neg h1] at hs
   have hb:h.stepB=true:=by simpa using h1
   exact KJ (rB n) (Gw n) _ _ (fX e hb) (fW hb).2.2.1 hs
def xB (h:Hp) (v:Va):Sh :=
 if h.over=true then h.sh
 else if 0<=h.thrown then { h.sh with fin:=2,cls:=(h.obj h.thrown).cls }
 else if v.kind=1∨v.kind=2 then { h.sh with fin:=1,value:=v.n } else { h.sh with fin:=1 }
theorem N4 (s:Sh):s=⟨s.fin,s.value,s.cls,s.o,s.used,s.steps⟩:=rfl
theorem De (k:Nat) (h:Hp) (v:Va) (z:VZ h) (hk:h.stops=false->(0<=v.kind/\v.kind<=3)/\(v.kind=0->v.n=0)):jf k (h,v) []=xB h v:=by
 obtain ⟨z1,z2⟩:=z
 unfold jf xB
 dsimp only
 split
 ·rw [N4 h.sh,z1,z2]
 ·rename_i h1
  split
  ·rename_i h2
   rw [z1]
   rfl
  ·rename_i h2
   obtain ⟨h3,h4⟩:=hk (by simp [Hp.stops,h1,h2])
   show (⟨1,if v.kind=3 then 0 else v.n,0,h.sh.o,h.sh.used,h.sh.steps⟩:Sh)=_
   by_cases h5:v.kind=1∨v.kind=2
   ·rw [if_pos h5,if_neg (by omega),z2]
   ·rw [if_neg h5,z1,z2]
    by_cases h6:v.kind=3
    ·rw [if_pos h6]
    ·rw [if_neg h6,h4 (by omega)]
theorem KK (n:Nat) (h:Hp) (m:Me) (l:List Va) (hs:h.stops=false) (e:cG n h) (z:VZ h) (hB:h.enterB m l=true) (hr:0<=m.ret.kind/\m.ret.kind<=3) :
  oM (runM n { h with calls:=h.calls+1 } [cv m l])=xB (iZ (cn n) h m l).1 (iZ (cn n) h m l).2:=by
 have hE:h.enterH m l={ h with calls:=h.calls+1 }:=by
  unfold Hp.enterB at hB
  rw [Bool.and_eq_true] at hB
  unfold Hp.enterH
  rw [if_neg (by rw [hB.1];decide),if_neg (by simpa using hB.2)]
 unfold iZ
 rw [if_pos hB,hE]
 have Qz:({ h with calls:=h.calls+1 }:Hp).stops=false:=hs
 have e':cG n ({ h with calls:=h.calls+1 }:Hp):=e
 have S:=Bt n _ (cv m l) Qz e' n [] e'
 unfold rp at S
 rw [S]
 have V:=BA n _ (cv m l) (show VZ { h with calls:=h.calls+1 } from z)
 have Z:=Gw n _ (cv m l) e'
 generalize cn n { h with calls:=h.calls+1 } (cv m l)=r at V Z ⊢
 refine De n r.1 r.2 V fun QA=>⟨?_,fun h0=>(Z QA).2 ((Z QA).1.symm.trans h0)⟩
 rw [(Z QA).1]
 exact hr
structure Ca where
 q:Nat
 lb:Nat
 lc:Nat
 P:Option Addr
 C:Option Addr
 K:Option Addr
 p:Nat
 c:Nat
 k:Nat
def lH (a:Ca) (c:aL):Array Value :=
 #[.slice a.P c.m.params.length a.p,ι c.m.ret.kind,ι c.m.ret.cls,ι c.m.stack,ι c.m.locs,ι c.m.regs,.slice a.C c.m.code.length a.c,.slice a.K c.m.hands.length a.k,
  .slice (some ⟨a.lb,0,none⟩) c.locs.length a.lc,ι c.giv.kind,ι c.giv.n,ι c.cau.kind,ι c.cau.n,ι c.pc]
structure aK (w0 w:World) (a:Ca) (c:aL):Prop where
 own:w0.heap.size<=a.q
 ownl:w0.heap.size<=a.lb
 blk:w.heap[a.q]?=some (.cells (lH a c) 148 (0,0))
 loc:cL w a.lb c.locs
 me:kV w0 c.m a.P a.C a.K
structure Cq (w0:World) (g:Ad) (h:Hp):Prop where
 cw:Cw w0 g h
 t:g.T=75
section
variable {w0:World} {g:Ad} {h:Hp}
theorem Cq.k (C:Cq w0 g h):Tk g.T:=C.cw.k
theorem Cq.n7 (C:Cq w0 g h):¬gI g.T 148:=by
 rw [C.t];rintro (h|h|h|h)<;>exact absurd h (by decide)
end
structure Fq (B:Nat) (T:TypeId) (a:Ca) (w w':World):Prop where
 bl:Below B w w'
 keep:∀(b:Nat) (cs:Array Value) (t:TypeId) (f:Nat×Nat),w.heap[b]?=some (.cells cs t f)->¬gI T t->b≠a.q->b≠a.lb->w'.heap[b]?=some (.cells cs t f)
theorem Fr.fq {B:Nat} {T:TypeId} {a:Ca} {w w':World} (h:Fr B T w w'):Fq B T a w w':=⟨h.bl,fun b cs t f e n _ _=>h.keep b cs t f e n⟩
theorem Fq.refl (B:Nat) (T:TypeId) (a:Ca) (w:World):Fq B T a w w:=(Fr.refl B T w).fq
section
variable {B:Nat} {T:TypeId}
theorem Fq.trans {a:Ca} {x y z:World} (h:Fq B T a x y) (k:Fq B T a y z):Fq B T a x z :=
 ⟨h.bl.trans k.bl,fun b cs t f e n n1 n2=>k.keep b cs t f (h.keep b cs t f e n n1 n2) n n1 n2⟩
theorem Fq.fr {a:Ca} {x y z:World} (h:Fr B T x y) (k:Fq B T a y z) (hq:x.heap.size<=a.q) (hl:x.heap.size<=a.lb):Fr B T x z :=
 ⟨h.bl.trans k.bl,fun b cs t f e n=>k.keep b cs t f (h.keep b cs t f e n) n (by have:=af e;omega) (by have:=af e;omega)⟩
theorem cL.frr {w w':World} {b:Nat} {l:List Va} (h:cL w b l) (k:Tk T) (f:Fr B T w w'):cL w' b l:=⟨f.keep _ _ _ _ h.blk k.nv,h.len⟩
theorem aK.fr {w0 w w':World} {a:Ca} {c:aL} (h:aK w0 w a c) (k:Tk T) (n7:¬gI T 148) (f:Fr B T w w'):aK w0 w' a c :=
 ⟨h.own,h.ownl,f.keep _ _ _ _ h.blk n7,h.loc.frr k f,h.me⟩
end
structure Gx (w:World) (a:Ca) (c:aL):Prop where
 c0:w.cell? ⟨a.q,0,none⟩=some (.slice a.P c.m.params.length a.p)
 c1:w.cell? ⟨a.q,1,none⟩=some (ι c.m.ret.kind)
 c2:w.cell? ⟨a.q,2,none⟩=some (ι c.m.ret.cls)
 c6:w.cell? ⟨a.q,6,none⟩=some (.slice a.C c.m.code.length a.c)
 c7:w.cell? ⟨a.q,7,none⟩=some (.slice a.K c.m.hands.length a.k)
 c8:w.cell? ⟨a.q,8,none⟩=some (.slice (some ⟨a.lb,0,none⟩) c.locs.length a.lc)
 c9:w.cell? ⟨a.q,9,none⟩=some (ι c.giv.kind)
 c10:w.cell? ⟨a.q,10,none⟩=some (ι c.giv.n)
 c11:w.cell? ⟨a.q,11,none⟩=some (ι c.cau.kind)
 c12:w.cell? ⟨a.q,12,none⟩=some (ι c.cau.n)
 c13:w.cell? ⟨a.q,13,none⟩=some (ι c.pc)
section
variable {w0 w:World} {a:Ca} {c:aL}
theorem aK.cells (H:aK w0 w a c):Gx w a c:=by
 constructor<;>(rw [ab H.blk];rfl)
theorem aK.free (H:aK w0 w a c) (i:Nat):w.frozen? ⟨a.q,i,none⟩=false:=aA H.blk i
theorem aK.apart (H:aK w0 w a c):a.lb≠a.q:=by
 intro h
 have h1:=H.loc.blk
 rw [h,H.blk] at h1
 simp at h1
theorem aK.setC {c':aL} (H:aK w0 w a c) {i:Nat} {v:Value} (hr:(lH a c).setIfInBounds i v=lH a c') (hl:c'.locs=c.locs) (hm:c'.m=c.m):aK w0 (w.setCell ⟨a.q,i,none⟩ v) a c':=by
 refine ⟨H.own,H.ownl,by rw [ay H.blk,hr],⟨?_,by rw [hl];exact H.loc.len⟩,by rw [hm];exact H.me⟩
 rw [ak H.apart,hl];exact H.loc.blk
theorem aK.fq (H:aK w0 w a c) (T:TypeId) (i:Nat) (v:Value):Fq w0.heap.size T a w (w.setCell ⟨a.q,i,none⟩ v) :=
 ⟨(Below.refl _ w).setCell H.own v,fun b cs t f e n n1 n2=>by rw [ak n1];exact e⟩
end
theorem aK.cf {T:TypeId} {w0 w:World} {a:Ca} {c:aL} (H:aK w0 w a c) (n7:¬gI T 148) (i:Nat) (v:Value):Cf w0.heap.size T w (w.setCell ⟨a.q,i,none⟩ v) :=
 (Cf.refl _ _ w).set H.blk n7 H.own v
section
variable {w0 w w':World}
theorem dU.cf {T:TypeId} {b:Nat} {l:List Va} (h:dU b w w') (k:Tk T) (hL:cL w b l) (hb:w0.heap.size<=b) (hs:w0.heap.size<=w.heap.size):Cf w0.heap.size T w w' :=
 ⟨⟨h.os,h.tape,h.output,h.size,fun i hi=>h.block i (by omega) (by omega)⟩,fun i cs t f e n=>by
  have hi:=af e
  rw [h.block i hi]
  ·exact e
  ·rintro rfl;rw [hL.blk] at e;simp at e;exact k.nv (e.2.1▸n)⟩
theorem dU.fq {a:Ca} {T:TypeId} (h:dU a.lb w w') (hb:w0.heap.size<=a.lb) (hs:w0.heap.size<=w.heap.size):Fq w0.heap.size T a w w' :=
 ⟨⟨h.os,h.tape,h.output,h.size,fun i hi=>h.block i (by omega) (by omega)⟩,fun i cs t f e n n1 n2=>by rw [h.block i (af e) n2];exact e⟩
theorem aK.setLoc {a:Ca} {c:aL} (H:aK w0 w a c) (h:dU a.lb w w') {l:List Va} (hl:cL w' a.lb l) (hn:l.length=c.locs.length):aK w0 w' a { c with locs:=l }:=by
 refine ⟨H.own,H.ownl,?_,hl,H.me⟩
 rw [h.block _ (af H.blk) (Ne.symm H.apart),H.blk]
 simp only [lH,hn]
end
section
variable (w0:World) (g:Ad) (p:Nat) (h:Hp) (a:Ca) (c:aL) (n:Int)
theorem bQ (k:Int) (w:World) (hH:Hs w0 g w p h) (hC:aK w0 w a c) (C:Cq w0 g h) (hn:0<=n/\n<c.locs.length) :
  χ 74 #[π p 0,π a.q 0,ι n,ι k] w fun e w'=>e=.returned (jc (c.rd n))/\Hs w0 g w' p (h.rdH c n k)/\Fr w0.heap.size g.T w w':=by
 obtain ⟨m,rfl⟩:∃m:Nat,n=m:=⟨n.toNat,by omega⟩
 have er:c.rd (m:Int)=nth aE c.locs m:=by unfold aL.rd;rw [Int.toNat_natCast]
 unfold Hp.rdH
 rw [er]
 have hm:m<c.locs.length:=by omega
 have z8:=hC.cells.c8
 have l0:=hC.loc.c0 hm
 have l1:=hC.loc.c1 hm
 have hlen:=hC.loc.len
 generalize nth aE c.locs m=v at *
 have hb:=hH.base
 have hq:a.q<w.heap.size:=af hC.blk
 have hl:a.lb<w.heap.size:=af hC.loc.blk
 have HF:Θ (Fr w0.heap.size g.T w ((w.alloc eI).alloc (bD v))):=((Fr.refl _ _ w).alloc hb _).alloc (by simp;omega) _
 have HH:Θ (Hs w0 g ((w.alloc eI).alloc (bD v)) p h):=hH.cf (((Cf.refl _ _ w).alloc hb _).alloc (by simp;omega) _)
 have HC:=ae C
 have Ss:Θ (aC ((w.alloc eI).alloc (bD v)) w.heap.size aE):=⟨(Below.heap_alloc _ _ _ (by simp)).trans (aC.new w aE).blk⟩
 have EZ:Θ (aC ((w.alloc eI).alloc (bD v)) (w.heap.size+1) v):=by have:=aC.new (w.alloc eI) v;rwa [World.size_alloc] at this
 have z0:=ae EZ.o.c0
 clear hH hC C er
 go_enter func74,ntmps74
 go_wp2
 refine wp_region_held_drew (S:=fun w'=>κ w' (w.heap.size+1) 0 (ι v.kind)) (by kernel_rfl) ?_ (fun aa=>?_)
 ·exact z0.o
 iterate 7 (refine tn rfl (by kernel_rfl) (fun _ _ _ h=>h) (by intro _ h;go_split_ands;go_simp<;>with_reducible rfl) aa ?_;try simp only [aZ])
 refine aY (i:=7) (by kernel_rfl) rfl fun K hK=>?_
 go_simp
 go_at_call 56
 refine (bZ w0 g HC.o.k p h _ _ (HH.o.drewN 1)).mono ?_
 rintro e w1 ⟨rfl,H1,F1⟩
 have R1:=ae ((Ss.o.drewN 1).keep HC.o.k F1)
 have V1:=ae ((EZ.o.drewN 1).keep HC.o.k F1)
 have d0:=ae V1.o.c0
 have H1:=ae H1
 have F1:=ae F1
 go_wp2_with fail
 refine hK.out _ _ (d0.o) (fun ah=>?_)
 try simp only [aZ]
 refine wpAnyH_done (by kernel_rfl) ?_ _
 have e0:=V1.o.c0
 have e1:=V1.o.c1
 have r0:=R1.o.c0
 have r1:=R1.o.c1
 have fz:=R1.o.fr
 go_wp2
 refine bodyPost_ret (results_cell_row rfl _ _ w.heap.size _ _ _ _ rfl (R1.o.set v).blk underlying62 rfl bC) rfl ?_
 exact ⟨rfl,H1.o.cf (R1.o.cf HC.o.k hb _ _),((HF.o.drewN 1).trans F1.o).new (Nat.le_refl _) hb _ |>.new (Nat.le_refl _) hb _⟩
theorem mO (v:Va) (w:World) (hH:Hs w0 g w p h) (hC:aK w0 w a c) (C:Cq w0 g h) (hn:0<=n/\n<c.locs.length) (hw:h.stops=false->iE c.locs/\(v.kind=2->n+1<c.locs.length)) :
  χ 75 #[π p 0,π a.q 0,ι n,jc v] w fun e w'=>e=.returned (.tuple #[])/\Hs w0 g w' p h/\aK w0 w' a (mI h c n v)/\Fq w0.heap.size g.T a w w':=by
 obtain ⟨m,rfl⟩:∃m:Nat,n=m:=⟨n.toNat,by omega⟩
 have hm:m<c.locs.length:=by omega
 have hb:=hH.base
 have hq:a.q<w.heap.size:=af hC.blk
 have hl:a.lb<w.heap.size:=af hC.loc.blk
 have F0:Fr w0.heap.size g.T w (w.alloc (bD v)):=(Fr.refl _ _ w).alloc hb _
 have HF:=ae F0
 have HH:Θ (Hs w0 g (w.alloc (bD v)) p h):=hH.cf ((Cf.refl _ _ w).alloc hb _)
 have HA:Θ (aK w0 (w.alloc (bD v)) a c):=hC.fr C.k C.n7 F0
 have HC:=ae C
 have EZ:Θ (aC (w.alloc (bD v)) w.heap.size v):=aC.new w v
 have z0:=ae (And.intro HA.o.cells.c8 (And.intro EZ.o.c0 EZ.o.c1))
 have dX:w0.heap.size<=(w.alloc (bD v)).heap.size:=by simp;omega
 have Wh:=ae dX
 cases hs:h.stops with
 | true =>
  have ew:mI h c (m:Int) v=c:=by unfold mI;rw [if_pos hs]
  rw [ew]
  have HS:=ae hs
  clear hH hC C hs hw F0 ew dX
  go_enter func75,ntmps75
  go_wp2_with (go_at_call 112;refine (tq w0 g p h _ HH.o).mono ?_;rintro e w1 ⟨he,hw1⟩;rw [HS.o] at he;subst he;rw [hw1];clear hw1 w1)
  go_end0
  exact ⟨rfl,HH.o,HA.o,HF.o.fq⟩
 | false =>
  obtain ⟨hok,h2⟩:=hw hs
  have ew:mI h c (m:Int) v={ c with locs:=eL c.locs m v }:=by unfold mI;rw [if_neg (by rw [hs];decide),Int.toNat_natCast]
  rw [ew]
  have HS:=ae hs
  have ES:Θ (∀w',cL w' a.lb c.locs->χ 53 #[.slice (some ⟨a.lb,0,none⟩) c.locs.length a.lc,ι (m:Int),jc v] w' fun e w2=>e=.returned (.tuple #[])/\cL w2 a.lb (eL c.locs m v)/\dU a.lb w' w2):=fun w' hL=>tz a.lb c.locs m a.lc v w' hL hok hm (fun x=>by have:=h2 x;omega)
  clear hH hC C hs hw F0 ew hok h2 dX
  go_enter func75,ntmps75
  go_wp2_with (go_at_call 112;refine (tq w0 g p h _ HH.o).mono ?_;rintro e w1 ⟨he,hw1⟩;rw [HS.o] at he;subst he;rw [hw1];clear hw1 w1)
  refine wp_region_held_drew (S:=fun w'=>κ w' a.q 8 (.slice (some ⟨a.lb,0,none⟩) c.locs.length a.lc)/\κ w' w.heap.size 0 (ι v.kind)/\κ w' w.heap.size 1 (ι v.n)) (by kernel_rfl) ?_ (fun aa=>?_)
  ·exact z0.o
  iterate 6 (refine tn rfl (by kernel_rfl) (fun _ _ _ h=>h) (by intro _ h;go_split_ands;go_simp<;>with_reducible rfl) aa ?_;try simp only [aZ])
  refine aY (i:=6) (by kernel_rfl) rfl fun K hK=>?_
  go_simp
  go_at_call 53
  refine (ES.o ((w.alloc (bD v)).drew) ⟨HA.o.loc.blk,HA.o.loc.len⟩).mono ?_
  rintro e w1 ⟨rfl,L1,O1⟩
  have A1:=ae (HA.o.setLoc (w':=w1) ⟨O1.os,O1.tape,O1.output,O1.size,O1.block⟩ L1 (fR _ _ _))
  have V1:=ae (dU.box (w:=(w.alloc (bD v))) ⟨O1.os,O1.tape,O1.output,O1.size,O1.block⟩ EZ.o (by omega))
  have k8:w1.cell? ⟨a.q,8,none⟩=some (.slice (some ⟨a.lb,0,none⟩) c.locs.length a.lc):=by have:=A1.o.cells.c8;dsimp only at this;rw [fR] at this;exact this
  have d0:=ae (And.intro k8 (And.intro V1.o.c0 V1.o.c1))
  have O1:Θ (dU a.lb (w.alloc (bD v)) w1):=⟨O1.os,O1.tape,O1.output,O1.size,O1.block⟩
  go_wp2_with fail
  refine hK.out _ _ (d0.o) (fun ah=>?_)
  try simp only [aZ]
  refine wpAnyH_done (by kernel_rfl) ?_ _
  go_wp2
  go_end0
  exact ⟨rfl,HH.o.cf (dU.cf O1.o HC.o.k HA.o.loc HA.o.ownl Wh.o),A1.o,HF.o.fq.trans (dU.fq O1.o HA.o.ownl Wh.o)⟩
end
structure cP (w:World) (b:Nat) (k ia ib ic ii:Int) (Q:Option Addr) (nl q:Nat):Prop where
 blk:w.heap[b]?=some (.cells #[ι k,ι ia,ι ib,ι ic,ι ii,.slice Q nl q] 55 (0,0))
theorem cP.cs {w:World} {b:Nat} {k ia ib ic ii:Int} {Q:Option Addr} {nl q:Nat} (h:cP w b k ia ib ic ii Q nl q):w.cell? ⟨b,0,none⟩=some (ι k)/\w.cell? ⟨b,1,none⟩=some (ι ia)/\w.cell? ⟨b,2,none⟩=some (ι ib)/\w.cell? ⟨b,3,none⟩=some (ι ic)/\w.cell? ⟨b,4,none⟩=some (ι ii)/\w.cell? ⟨b,5,none⟩=some (.slice Q nl q):=by
 refine ⟨?_,?_,?_,?_,?_,?_⟩<;>(rw [ab h.blk];rfl)
theorem cP.keep {B:Nat} {T:TypeId} {w w':World} {b:Nat} {k ia ib ic ii:Int} {Q:Option Addr} {nl q:Nat} (h:cP w b k ia ib ic ii Q nl q) (t:Tk T) (f:Fr B T w w'):cP w' b k ia ib ic ii Q nl q :=
 ⟨f.keep _ _ _ _ h.blk (by rintro (h|h|h|h)<;>first|exact t.n h.symm|exact absurd h (by decide))⟩
theorem Cq.same {w0:World} {g:Ad} {h h':Hp} (C:Cq w0 g h) (e:h'.file=h.file):Cq w0 g h':=by
 obtain ⟨⟨c1,c2,c3,c4,c5,c6⟩,t⟩:=C
 exact ⟨⟨c1,by rw [e];exact c2,by rw [e];exact c3,by rw [e];exact c4,by rw [e];exact c5,by rw [e];exact c6⟩,t⟩
theorem dW (h:Hp) (c:aL) (n k:Int):(h.rdH c n k).file=h.file:=by unfold Hp.rdH Hp.must;split;rfl;unfold Hp.fin;split<;>rfl
section
variable {w0:World} {g:Ad} {p:Nat} {h:Hp}
theorem Gy {w:World} (k ia ib ic ii:Int) (Q:Option Addr) (nl q:Nat) (u:Va) (hH:Hs w0 g w p h) :
  Fr w0.heap.size g.T w (((w.alloc (.cells #[ι k,ι ia,ι ib,ι ic,ι ii,.slice Q nl q] 55)).alloc (bD u)).alloc eI)/\Hs w0 g (((w.alloc (.cells #[ι k,ι ia,ι ib,ι ic,ι ii,.slice Q nl q] 55)).alloc (bD u)).alloc eI) p h/\aC (((w.alloc (.cells #[ι k,ι ia,ι ib,ι ic,ι ii,.slice Q nl q] 55)).alloc (bD u)).alloc eI) (w.heap.size+1) u:=by
 have hb:=hH.base
 have s1:(w.alloc (.cells #[ι k,ι ia,ι ib,ι ic,ι ii,.slice Q nl q] 55)).heap.size=w.heap.size+1:=by simp
 have s2:((w.alloc (.cells #[ι k,ι ia,ι ib,ι ic,ι ii,.slice Q nl q] 55)).alloc (bD u)).heap.size=w.heap.size+1+1:=by simp
 refine ⟨(((Fr.refl _ _ w).alloc hb _).alloc (by simp;omega) _).alloc (by simp;omega) _,hH.cf ((((Cf.refl _ _ w).alloc hb _).alloc (by simp;omega) _).alloc (by simp;omega) _),⟨?_⟩⟩
 rw [Below.heap_alloc _ _ _ (by omega),<-s1];exact aB _ _ _
theorem mP {a:Ca} {c:aL} {w:World} (k ia ib ic ii:Int) (Q:Option Addr) (nl q:Nat) (hH:Hs w0 g w p h) (hC:aK w0 w a c) (C:Cq w0 g h) :
  Θ (Fr w0.heap.size g.T w (((w.alloc (.cells #[ι k,ι ia,ι ib,ι ic,ι ii,.slice Q nl q] 55)).alloc eI).alloc eI))/\Θ (Hs w0 g (((w.alloc (.cells #[ι k,ι ia,ι ib,ι ic,ι ii,.slice Q nl q] 55)).alloc eI).alloc eI) p h)/\Θ (aK w0 (((w.alloc (.cells #[ι k,ι ia,ι ib,ι ic,ι ii,.slice Q nl q] 55)).alloc eI).alloc eI) a c)/\Θ (cP (((w.alloc (.cells #[ι k,ι ia,ι ib,ι ic,ι ii,.slice Q nl q] 55)).alloc eI).alloc eI) w.heap.size k ia ib ic ii Q nl q)/\Θ (aC (((w.alloc (.cells #[ι k,ι ia,ι ib,ι ic,ι ii,.slice Q nl q] 55)).alloc eI).alloc eI) (w.heap.size+1) aE)/\Θ (aC (((w.alloc (.cells #[ι k,ι ia,ι ib,ι ic,ι ii,.slice Q nl q] 55)).alloc eI).alloc eI) (w.heap.size+1+1) aE)/\Θ (Cq w0 g h)/\w0.heap.size<=w.heap.size/\a.q<w.heap.size/\a.lb<w.heap.size:=by
 have hb:=hH.base
 have F0:Fr w0.heap.size g.T w (((w.alloc (.cells #[ι k,ι ia,ι ib,ι ic,ι ii,.slice Q nl q] 55)).alloc eI).alloc eI):=(((Fr.refl _ _ w).alloc hb _).alloc (by simp;omega) _).alloc (by simp;omega) _
 have s1:(w.alloc (.cells #[ι k,ι ia,ι ib,ι ic,ι ii,.slice Q nl q] 55)).heap.size=w.heap.size+1:=by simp
 have s2:((w.alloc (.cells #[ι k,ι ia,ι ib,ι ic,ι ii,.slice Q nl q] 55)).alloc eI).heap.size=w.heap.size+1+1:=by simp
 refine ⟨F0,hH.cf ((((Cf.refl _ _ w).alloc hb _).alloc (by simp;omega) _).alloc (by simp;omega) _),hC.fr C.k C.n7 F0,⟨?_⟩,⟨?_⟩,⟨?_⟩,C,hb,af hC.blk,af hC.loc.blk⟩
 ·rw [Below.heap_alloc _ _ _ (by omega),Below.heap_alloc _ _ _ (by omega)];exact aB _ _ _
 ·rw [Below.heap_alloc _ _ _ (by omega),<-s1];exact aB _ _ _
 ·rw [<-s2];exact aB _ _ _
end
section
variable (w0:World) (g:Ad) (p:Nat) (h:Hp) (a:Ca) (c:aL) (ia ib ic ii:Int) (args:List Int) (Q:Option Addr) (nl q:Nat) (w:World)
theorem zw (hH:Hs w0 g w p h) (hC:aK w0 w a c) (C:Cq w0 g h) :
  χ 137 #[π p 0,π a.q 0,.agg #[ι 1,ι ia,ι ib,ι ic,ι ii,.slice Q nl q]] w fun e w'=>e=.returned (jc (aG h c ⟨1,ia,ib,ic,ii,args⟩))/\Hs w0 g w' p (givesH h c ⟨1,ia,ib,ic,ii,args⟩)/\Fr w0.heap.size g.T w w':=by
 have HP:=ae (Gy 1 ia ib ic ii Q nl q ⟨1,ii⟩ hH)
 obtain ⟨HF,HH,HA,HI,HR,HN,HC,hb,hq,hl⟩:=mP 1 ia ib ic ii Q nl q hH hC C
 clear hH hC C
 have eH:givesH h c ⟨1,ia,ib,ic,ii,args⟩=h:=by simp [givesH]
 have eV:aG h c ⟨1,ia,ib,ic,ii,args⟩=⟨1,ii⟩:=by simp [aG]
 rw [eH,eV]
 clear eH eV
 go_enter func137,ntmps137
 go_wp2
 refine bodyPost_ret (results_cell_row rfl _ _ (w.heap.size+1) _ _ _ _ rfl HP.o.2.2.blk underlying62 rfl bC) rfl ?_
 exact ⟨rfl,HP.o.2.1,HP.o.1⟩
theorem zx (hH:Hs w0 g w p h) (hC:aK w0 w a c) (C:Cq w0 g h) :
  χ 137 #[π p 0,π a.q 0,.agg #[ι 2,ι ia,ι ib,ι ic,ι ii,.slice Q nl q]] w fun e w'=>e=.returned (jc (aG h c ⟨2,ia,ib,ic,ii,args⟩))/\Hs w0 g w' p (givesH h c ⟨2,ia,ib,ic,ii,args⟩)/\Fr w0.heap.size g.T w w':=by
 have HP:=ae (Gy 2 ia ib ic ii Q nl q ⟨2,ii⟩ hH)
 obtain ⟨HF,HH,HA,HI,HR,HN,HC,hb,hq,hl⟩:=mP 2 ia ib ic ii Q nl q hH hC C
 clear hH hC C
 have eH:givesH h c ⟨2,ia,ib,ic,ii,args⟩=h:=by simp [givesH]
 have eV:aG h c ⟨2,ia,ib,ic,ii,args⟩=⟨2,ii⟩:=by simp [aG]
 rw [eH,eV]
 clear eH eV
 go_enter func137,ntmps137
 go_wp2
 refine bodyPost_ret (results_cell_row rfl _ _ (w.heap.size+1) _ _ _ _ rfl HP.o.2.2.blk underlying62 rfl bC) rfl ?_
 exact ⟨rfl,HP.o.2.1,HP.o.1⟩
theorem zy (hH:Hs w0 g w p h) (hC:aK w0 w a c) (C:Cq w0 g h) :
  χ 137 #[π p 0,π a.q 0,.agg #[ι 3,ι ia,ι ib,ι ic,ι ii,.slice Q nl q]] w fun e w'=>e=.returned (jc (aG h c ⟨3,ia,ib,ic,ii,args⟩))/\Hs w0 g w' p (givesH h c ⟨3,ia,ib,ic,ii,args⟩)/\Fr w0.heap.size g.T w w':=by
 have HP:=ae (Gy 3 ia ib ic ii Q nl q ⟨3,-1⟩ hH)
 obtain ⟨HF,HH,HA,HI,HR,HN,HC,hb,hq,hl⟩:=mP 3 ia ib ic ii Q nl q hH hC C
 clear hH hC C
 have eH:givesH h c ⟨3,ia,ib,ic,ii,args⟩=h:=by simp [givesH]
 have eV:aG h c ⟨3,ia,ib,ic,ii,args⟩=⟨3,-1⟩:=by simp [aG]
 rw [eH,eV]
 clear eH eV
 go_enter func137,ntmps137
 go_wp2
 refine bodyPost_ret (results_cell_row rfl _ _ (w.heap.size+1) _ _ _ _ rfl HP.o.2.2.blk underlying62 rfl bC) rfl ?_
 exact ⟨rfl,HP.o.2.1,HP.o.1⟩
theorem zz (hH:Hs w0 g w p h) (hC:aK w0 w a c) (C:Cq w0 g h) (pN:0<=ib/\ib<c.locs.length) :
  χ 137 #[π p 0,π a.q 0,.agg #[ι 4,ι ia,ι ib,ι ic,ι ii,.slice Q nl q]] w fun e w'=>e=.returned (jc (aG h c ⟨4,ia,ib,ic,ii,args⟩))/\Hs w0 g w' p (givesH h c ⟨4,ia,ib,ic,ii,args⟩)/\Fr w0.heap.size g.T w w':=by
 obtain ⟨HF,HH,HA,HI,HR,HN,HC,hb,hq,hl⟩:=mP 4 ia ib ic ii Q nl q hH hC C
 clear hH hC C
 have eH:givesH h c ⟨4,ia,ib,ic,ii,args⟩=h.rdH c ib ic:=by simp [givesH]
 have eV:aG h c ⟨4,ia,ib,ic,ii,args⟩=c.rd ib:=by simp [aG]
 rw [eH,eV]
 clear eH eV
 go_enter func137,ntmps137
 go_wp2_with (go_at_call 74;refine (bQ w0 g p h a c ib ic _ HH.o HA.o HC.o pN).mono ?_;rintro e w1 ⟨rfl,H1,F1⟩;have R:=ae (HR.o.keep HC.o.k F1);have r0:=R.o.c0;have r1:=R.o.c1;have fz:=R.o.fr;have I1:=HI.o.keep HC.o.k F1;obtain ⟨i0,i1,i2,i3,i4,i5⟩:=I1.cs;replace I1:=ae I1;have N1:=HN.o.keep HC.o.k F1;have n0:=N1.c0;have n1:=N1.c1;replace N1:=ae N1;have hw1:=af I1.o.blk;have bX:=af N1.o.blk;have mK:w1.heap.size≠w.heap.size+1:=(by omega);have pO:w.heap.size+1≠w1.heap.size:=(by omega);have N5:∀o,(w1.alloc o).cell? ⟨w.heap.size+1,0,none⟩=some (ι 0):=(fun o=>((Bl.refl w1).alloc o).cell r0);have N6:∀o,(w1.alloc o).cell? ⟨w.heap.size+1,1,none⟩=some (ι 0):=(fun o=>((Bl.refl w1).alloc o).cell r1);have R2:Θ (aC (w1.alloc (bD (c.rd ib))) (w.heap.size+1) aE):=⟨(Below.heap_alloc _ _ _ (af R.o.blk)).trans R.o.blk⟩;have N7:∀i,(w1.alloc (bD (c.rd ib))).frozen? ⟨w.heap.size+1,i,none⟩=false:=(fun i=>R2.o.fr i);have N8:=R2.o.c0;have N9:=R2.o.c1;replace H1:=ae H1;replace F1:=ae (HF.o.trans F1))
 refine bodyPost_ret (results_cell_row rfl _ _ (w.heap.size+1) _ _ _ _ rfl (R.o.set (c.rd ib)).blk underlying62 rfl bC) rfl ?_
 exact ⟨rfl,H1.o.cf (R.o.cf HC.o.k (by omega) _ _),(F1.o.new (Nat.le_succ _) (by omega) _).new (Nat.le_succ _) (by omega) _⟩
theorem zA (hH:Hs w0 g w p h) (hC:aK w0 w a c) (C:Cq w0 g h) (pN:0<=ib/\ib<c.locs.length) :
  χ 137 #[π p 0,π a.q 0,.agg #[ι 7,ι ia,ι ib,ι ic,ι ii,.slice Q nl q]] w fun e w'=>e=.returned (jc (aG h c ⟨7,ia,ib,ic,ii,args⟩))/\Hs w0 g w' p (givesH h c ⟨7,ia,ib,ic,ii,args⟩)/\Fr w0.heap.size g.T w w':=by
 obtain ⟨HF,HH,HA,HI,HR,HN,HC,hb,hq,hl⟩:=mP 7 ia ib ic ii Q nl q hH hC C
 clear hH hC C
 have eH:givesH h c ⟨7,ia,ib,ic,ii,args⟩=h.rdH c ib 1:=by simp [givesH]
 have eV:aG h c ⟨7,ia,ib,ic,ii,args⟩=⟨2,(c.rd ib).n⟩:=by simp [aG]
 rw [eH,eV]
 clear eH eV
 go_enter func137,ntmps137
 go_wp2_with (go_at_call 74;refine (bQ w0 g p h a c ib 1 _ HH.o HA.o HC.o pN).mono ?_;rintro e w1 ⟨rfl,H1,F1⟩;have R:=ae (HR.o.keep HC.o.k F1);have r0:=R.o.c0;have r1:=R.o.c1;have fz:=R.o.fr;have I1:=HI.o.keep HC.o.k F1;obtain ⟨i0,i1,i2,i3,i4,i5⟩:=I1.cs;replace I1:=ae I1;have N1:=HN.o.keep HC.o.k F1;have n0:=N1.c0;have n1:=N1.c1;replace N1:=ae N1;have hw1:=af I1.o.blk;have bX:=af N1.o.blk;have mK:w1.heap.size≠w.heap.size+1:=(by omega);have pO:w.heap.size+1≠w1.heap.size:=(by omega);have N5:∀o,(w1.alloc o).cell? ⟨w.heap.size+1,0,none⟩=some (ι 0):=(fun o=>((Bl.refl w1).alloc o).cell r0);have N6:∀o,(w1.alloc o).cell? ⟨w.heap.size+1,1,none⟩=some (ι 0):=(fun o=>((Bl.refl w1).alloc o).cell r1);have R2:Θ (aC (w1.alloc (bD (c.rd ib))) (w.heap.size+1) aE):=⟨(Below.heap_alloc _ _ _ (af R.o.blk)).trans R.o.blk⟩;have N7:∀i,(w1.alloc (bD (c.rd ib))).frozen? ⟨w.heap.size+1,i,none⟩=false:=(fun i=>R2.o.fr i);have N8:=R2.o.c0;have N9:=R2.o.c1;replace H1:=ae H1;replace F1:=ae (HF.o.trans F1))
 first
  | (refine bodyPost_ret (results_cell_row rfl _ _ (w.heap.size+1) _ _ _ _ rfl (R2.o.set ⟨2,(c.rd ib).n⟩).blk underlying62 rfl bC) rfl ?_;exact ⟨rfl,(H1.o.cf ((Cf.refl _ _ _).alloc (by omega) _)).cf (R2.o.cf HC.o.k (by omega) _ _),((F1.o.alloc (by omega) _).new (Nat.le_succ _) (by omega) _).new (Nat.le_succ _) (by omega) _⟩)
  | (refine bodyPost_ret (results_cell_row rfl _ _ (w.heap.size+1) _ _ _ _ rfl ((Below.heap_alloc _ _ _ (by simp;exact af R.o.blk)).trans (R.o.set ⟨2,(c.rd ib).n⟩).blk) underlying62 rfl bC) rfl ?_;exact ⟨rfl,(H1.o.cf (R.o.cf HC.o.k (by omega) _ _)).cf ((Cf.refl _ _ _).alloc (by simp;omega) _),((F1.o.new (Nat.le_succ _) (by omega) _).new (Nat.le_succ _) (by omega) _).alloc (by simp;omega) _⟩)
theorem zB (hH:Hs w0 g w p h) (hC:aK w0 w a c) (C:Cq w0 g h) (pN:0<=ib/\ib<c.locs.length) :
  χ 137 #[π p 0,π a.q 0,.agg #[ι 8,ι ia,ι ib,ι ic,ι ii,.slice Q nl q]] w fun e w'=>e=.returned (jc (aG h c ⟨8,ia,ib,ic,ii,args⟩))/\Hs w0 g w' p (givesH h c ⟨8,ia,ib,ic,ii,args⟩)/\Fr w0.heap.size g.T w w':=by
 obtain ⟨HF,HH,HA,HI,HR,HN,HC,hb,hq,hl⟩:=mP 8 ia ib ic ii Q nl q hH hC C
 clear hH hC C
 have eH:givesH h c ⟨8,ia,ib,ic,ii,args⟩=h.rdH c ib 2:=by simp [givesH]
 have eV:aG h c ⟨8,ia,ib,ic,ii,args⟩=⟨1,wrap32 (c.rd ib).n⟩:=by simp [aG]
 rw [eH,eV]
 clear eH eV
 go_enter func137,ntmps137
 go_wp2_with (first
  | (go_at_call 74;refine (bQ w0 g p h a c ib 2 _ HH.o HA.o HC.o pN).mono ?_;rintro e w1 ⟨rfl,H1,F1⟩;have R:=ae (HR.o.keep HC.o.k F1);have r0:=R.o.c0;have r1:=R.o.c1;have fz:=R.o.fr;have I1:=HI.o.keep HC.o.k F1;obtain ⟨i0,i1,i2,i3,i4,i5⟩:=I1.cs;replace I1:=ae I1;have N1:=HN.o.keep HC.o.k F1;have n0:=N1.c0;have n1:=N1.c1;replace N1:=ae N1;have hw1:=af I1.o.blk;have bX:=af N1.o.blk;have mK:w1.heap.size≠w.heap.size+1:=(by omega);have pO:w.heap.size+1≠w1.heap.size:=(by omega);have N5:∀o,(w1.alloc o).cell? ⟨w.heap.size+1,0,none⟩=some (ι 0):=(fun o=>((Bl.refl w1).alloc o).cell r0);have N6:∀o,(w1.alloc o).cell? ⟨w.heap.size+1,1,none⟩=some (ι 0):=(fun o=>((Bl.refl w1).alloc o).cell r1);have R2:Θ (aC (w1.alloc (bD (c.rd ib))) (w.heap.size+1) aE):=⟨(Below.heap_alloc _ _ _ (af R.o.blk)).trans R.o.blk⟩;have N7:∀i,(w1.alloc (bD (c.rd ib))).frozen? ⟨w.heap.size+1,i,none⟩=false:=(fun i=>R2.o.fr i);have N8:=R2.o.c0;have N9:=R2.o.c1;replace H1:=ae H1;replace F1:=ae (HF.o.trans F1))
  | (go_at_call 51;refine (lz (c.rd ib).n _).mono ?_;rintro e w2 ⟨rfl,hw⟩;rw [hw];clear hw w2))
 first
  | (refine bodyPost_ret (results_cell_row rfl _ _ (w.heap.size+1) _ _ _ _ rfl (R2.o.set ⟨1,wrap32 (c.rd ib).n⟩).blk underlying62 rfl bC) rfl ?_;exact ⟨rfl,(H1.o.cf ((Cf.refl _ _ _).alloc (by omega) _)).cf (R2.o.cf HC.o.k (by omega) _ _),((F1.o.alloc (by omega) _).new (Nat.le_succ _) (by omega) _).new (Nat.le_succ _) (by omega) _⟩)
  | (refine bodyPost_ret (results_cell_row rfl _ _ (w.heap.size+1) _ _ _ _ rfl ((Below.heap_alloc _ _ _ (by simp;exact af R.o.blk)).trans (R.o.set ⟨1,wrap32 (c.rd ib).n⟩).blk) underlying62 rfl bC) rfl ?_;exact ⟨rfl,(H1.o.cf (R.o.cf HC.o.k (by omega) _ _)).cf ((Cf.refl _ _ _).alloc (by simp;omega) _),((F1.o.new (Nat.le_succ _) (by omega) _).new (Nat.le_succ _) (by omega) _).alloc (by simp;omega) _⟩)
end
theorem xC (w0:World) (g:Ad) (p:Nat) (h:Hp) (a:Ca) (c:aL) (ia ib ic ii:Int) (args:List Int) (Q:Option Addr) (nl q:Nat) (w:World) (hH:Hs w0 g w p h) (hC:aK w0 w a c) (C:Cq w0 g h) (hI:aU w0 g.I h.input) (hu:0<=h.sh.used) :
  χ 137 #[π p 0,π a.q 0,.agg #[ι 24,ι ia,ι ib,ι ic,ι ii,.slice Q nl q]] w fun e w'=>e=.returned (jc (aG h c ⟨24,ia,ib,ic,ii,args⟩))/\Hs w0 g w' p (givesH h c ⟨24,ia,ib,ic,ii,args⟩)/\Fr w0.heap.size g.T w w':=by
 obtain ⟨HF,HH,HA,HI,HR,HN,HC,hb,hq,hl⟩:=mP 24 ia ib ic ii Q nl q hH hC C
 clear hH hC C
 have eH:givesH h c ⟨24,ia,ib,ic,ii,args⟩=h.input':=by simp [givesH]
 have eV:aG h c ⟨24,ia,ib,ic,ii,args⟩=h.inV:=by simp [aG]
 rw [eH,eV]
 clear eH eV
 have Wi:=ae (And.intro hI hu)
 clear hI hu
 go_enter func137,ntmps137
 go_wp2_with (go_at_call 165;refine (NJ w0 g HC.o.k p h _ HH.o Wi.o.1 Wi.o.2).mono ?_;rintro e w1 ⟨rfl,H1,F1⟩;have R:=ae (HR.o.keep HC.o.k F1);have r0:=R.o.c0;have r1:=R.o.c1;have fz:=R.o.fr;replace H1:=ae H1;replace F1:=ae (HF.o.trans F1))
 refine bodyPost_ret (results_cell_row rfl _ _ (w.heap.size+1) _ _ _ _ rfl (R.o.set h.inV).blk underlying62 rfl bC) rfl ?_
 exact ⟨rfl,H1.o.cf (R.o.cf HC.o.k (by omega) _ _),(F1.o.new (Nat.le_succ _) (by omega) _).new (Nat.le_succ _) (by omega) _⟩
theorem bH {w:World} {b b' i:Nat} {k n x:Value} (h:w.cell? ⟨b,i,none⟩=some x) (hb:b≠b'):((w.setCell ⟨b',0,none⟩ k).setCell ⟨b',1,none⟩ n).cell? ⟨b,i,none⟩=some x:=by
 rw [World.cell?_setCell_far _ _ _ _ (Ne.symm hb),World.cell?_setCell_far _ _ _ _ (Ne.symm hb)];exact h
section
variable (w0:World) (g:Ad) (p:Nat) (h:Hp) (a:Ca) (c:aL) (ia ib ic ii:Int) (args:List Int) (Q:Option Addr) (nl q:Nat) (w:World)
theorem xD (hH:Hs w0 g w p h) (hC:aK w0 w a c) (C:Cq w0 g h) (yB:0<=ib/\ib<h.file.classes.length) :
  χ 137 #[π p 0,π a.q 0,.agg #[ι 13,ι ia,ι ib,ι ic,ι ii,.slice Q nl q]] w fun e w'=>e=.returned (jc (aG h c ⟨13,ia,ib,ic,ii,args⟩))/\Hs w0 g w' p (givesH h c ⟨13,ia,ib,ic,ii,args⟩)/\Fr w0.heap.size g.T w w':=by
 obtain ⟨HF,HH,HA,HI,HR,HN,HC,hb,hq,hl⟩:=mP 13 ia ib ic ii Q nl q hH hC C
 clear hH hC C
 have eH:givesH h c ⟨13,ia,ib,ic,ii,args⟩=h.new ib:=by simp [givesH]
 have eV:aG h c ⟨13,ia,ib,ic,ii,args⟩=h.newV:=by simp [aG]
 rw [eH,eV]
 clear eH eV
 have YM:=ae yB
 have z2:=ae HI.o.cs.2.2.1
 clear yB
 go_enter func137,ntmps137
 go_wp2
 refine wp_region_held_drew (S:=fun w'=>κ w' w.heap.size 2 (ι ib)) (by kernel_rfl) ?_ (fun aa=>?_)
 ·exact z2.o
 iterate 5 (refine tn rfl (by kernel_rfl) (fun _ _ _ h=>h) (by intro _ h;go_split_ands;go_simp<;>with_reducible rfl) aa ?_;try simp only [aZ])
 refine aY (i:=5) (by kernel_rfl) rfl fun K hK=>?_
 go_simp
 go_at_call 162
 refine (vq w0 g HC.o.k p h ib _ (HH.o.drewN 1) HC.o.cw.cls HC.o.cw.tree YM.o HC.o.cw.le HC.o.cw.fl).mono ?_
 rintro e w1 ⟨rfl,H1,F1⟩
 have R:=ae ((HR.o.drewN 1).keep HC.o.k F1)
 have r0:=R.o.c0
 have r1:=R.o.c1
 have fz:=R.o.fr
 have I1:=ae ((cP.mk HI.o.blk:cP ((((w.alloc (.cells #[ι 13,ι ia,ι ib,ι ic,ι ii,.slice Q nl q] 55)).alloc eI).alloc eI).drew) _ _ _ _ _ _ _ _ _).keep HC.o.k F1)
 replace H1:=ae H1
 replace F1:=ae ((HF.o.drewN 1).trans F1)
 go_wp2_with fail
 refine hK.out _ _ (I1.o.cs.2.2.1) (fun ah=>?_)
 try simp only [aZ]
 refine aY (i:=6) (by kernel_rfl) rfl fun K hK=>?_
 go_wp2_with fail
 refine hK.out _ _ (bH I1.o.cs.2.2.1 (by omega)) (fun aH=>?_)
 try simp only [aZ]
 refine wpAnyH_done (by kernel_rfl) ?_ _
 go_wp2
 refine bodyPost_ret (results_cell_row rfl _ _ (w.heap.size+1) _ _ _ _ rfl (R.o.set h.newV).blk underlying62 rfl bC) rfl ?_
 exact ⟨rfl,H1.o.cf (R.o.cf HC.o.k (by omega) _ _),(F1.o.new (Nat.le_succ _) (by omega) _).new (Nat.le_succ _) (by omega) _⟩
theorem zC (hH:Hs w0 g w p h) (hC:aK w0 w a c) (C:Cq w0 g h) (pN:0<=ib/\ib<c.locs.length) (hrc:0<=ic/\ic<c.locs.length) (Oa:cJ (c.rd ib).n) (Oc:cJ (c.rd ic).n) :
  χ 137 #[π p 0,π a.q 0,.agg #[ι 5,ι ia,ι ib,ι ic,ι ii,.slice Q nl q]] w fun e w'=>e=.returned (jc (aG h c ⟨5,ia,ib,ic,ii,args⟩))/\Hs w0 g w' p (givesH h c ⟨5,ia,ib,ic,ii,args⟩)/\Fr w0.heap.size g.T w w':=by
 obtain ⟨nb,rfl⟩:∃nb:Nat,ib=nb:=⟨ib.toNat,by omega⟩
 obtain ⟨nc,rfl⟩:∃nc:Nat,ic=nc:=⟨ic.toNat,by omega⟩
 obtain ⟨HF,HH,HA,HI,HR,HN,HC,hb,hq,hl⟩:=mP 5 ia (nb:Int) (nc:Int) ii Q nl q hH hC C
 clear hH hC C
 have eH:givesH h c ⟨5,ia,(nb:Int),(nc:Int),ii,args⟩=h.reckH (c.rd (nb:Int)) (c.rd (nc:Int)) 1 ii:=by simp [givesH]
 have eV:aG h c ⟨5,ia,(nb:Int),(nc:Int),ii,args⟩=h.reckV (c.rd (nb:Int)) (c.rd (nc:Int)) 1 ii:=by simp [aG]
 rw [eH,eV]
 clear eH eV
 have QB:nb<c.locs.length:=by omega
 have mz:nc<c.locs.length:=by omega
 have eu:c.rd (nb:Int)=nth aE c.locs nb:=by unfold aL.rd;rw [Int.toNat_natCast]
 have ev:c.rd (nc:Int)=nth aE c.locs nc:=by unfold aL.rd;rw [Int.toNat_natCast]
 rw [eu] at Oa ⊢
 rw [ev] at Oc ⊢
 have T8:Θ (∀w',aK w0 w' a c->cP w' w.heap.size 5 ia (nb:Int) (nc:Int) ii Q nl q->(fun w'=>w'.cell? ⟨a.q,8,none⟩=some (.slice (some ⟨a.lb,0,none⟩) c.locs.length a.lc)/\w'.cell? ⟨w.heap.size,2,none⟩=some (ι (nb:Int))/\w'.cell? ⟨w.heap.size,3,none⟩=some (ι (nc:Int))/\w'.cell? ⟨w.heap.size,4,none⟩=some (ι ii)/\w'.cell? ⟨a.lb,nb*2,none⟩=some (ι (nth aE c.locs nb).kind)/\w'.cell? ⟨a.lb,nb*2+1,none⟩=some (ι (nth aE c.locs nb).n)/\w'.cell? ⟨a.lb,nc*2,none⟩=some (ι (nth aE c.locs nc).kind)/\w'.cell? ⟨a.lb,nc*2+1,none⟩=some (ι (nth aE c.locs nc).n)) w'):=fun w' A I=>⟨A.cells.c8,I.cs.2.2.1,I.cs.2.2.2.1,I.cs.2.2.2.2.1,A.loc.c0 QB,A.loc.c1 QB,A.loc.c0 mz,A.loc.c1 mz⟩
 have HU:=ae (And.intro Oa Oc)
 have hlen:=HA.o.loc.len
 generalize nth aE c.locs nb=u at *
 generalize nth aE c.locs nc=v at *
 have z2:=ae (T8.o _ HA.o HI.o)
 clear Oa Oc pN hrc eu ev
 go_enter func137,ntmps137
 go_wp2
 refine wp_region_held_drew (S:=fun w'=>κ w' a.q 8 (.slice (some ⟨a.lb,0,none⟩) c.locs.length a.lc)/\κ w' w.heap.size 2 (ι (nb:Int))/\κ w' w.heap.size 3 (ι (nc:Int))/\κ w' w.heap.size 4 (ι ii)/\κ w' a.lb (nb*2) (ι u.kind)/\κ w' a.lb (nb*2+1) (ι u.n)/\κ w' a.lb (nc*2) (ι v.kind)/\κ w' a.lb (nc*2+1) (ι v.n)) (by kernel_rfl) ?_ (fun aa=>?_)
 ·exact z2.o
 iterate 22 (refine tn rfl (by kernel_rfl) (fun _ _ _ h=>h) (by intro _ h;go_split_ands;go_simp<;>with_reducible rfl) aa ?_;try simp only [aZ])
 refine aY (i:=22) (by kernel_rfl) rfl fun K hK=>?_
 go_simp
 go_at_call 160
 refine (qu w0 g p h u v 1 ii _ (HH.o.drewN 1) HC.o.cw (by omega) HU.o.1 HU.o.2).mono ?_
 rintro e w1 ⟨rfl,H1,F1⟩
 have R:=ae ((HR.o.drewN 1).keep HC.o.k F1)
 have r0:=R.o.c0
 have r1:=R.o.c1
 have fz:=R.o.fr
 have I1:=ae ((cP.mk HI.o.blk:cP ((((w.alloc (.cells #[ι 5,ι ia,ι (nb:Int),ι (nc:Int),ι ii,.slice Q nl q] 55)).alloc eI).alloc eI).drew) _ _ _ _ _ _ _ _ _).keep HC.o.k F1)
 have A1:=ae (aK.fr (w:=(((w.alloc (.cells #[ι 5,ι ia,ι (nb:Int),ι (nc:Int),ι ii,.slice Q nl q] 55)).alloc eI).alloc eI).drew) ⟨HA.o.own,HA.o.ownl,HA.o.blk,⟨HA.o.loc.blk,HA.o.loc.len⟩,HA.o.me⟩ HC.o.k HC.o.n7 F1)
 have d8:=ae (T8.o _ A1.o I1.o)
 replace H1:=ae H1
 replace F1:=ae ((HF.o.drewN 1).trans F1)
 go_wp2_with fail
 refine hK.out _ _ (d8.o) (fun ah=>?_)
 try simp only [aZ]
 refine aY (i:=23) (by kernel_rfl) rfl fun K hK=>?_
 go_wp2_with fail
 refine hK.out _ _ (⟨bH d8.o.1 (by omega),bH d8.o.2.1 (by omega),bH d8.o.2.2.1 (by omega),bH d8.o.2.2.2.1 (by omega),bH d8.o.2.2.2.2.1 (by omega),bH d8.o.2.2.2.2.2.1 (by omega),bH d8.o.2.2.2.2.2.2.1 (by omega),bH d8.o.2.2.2.2.2.2.2 (by omega)⟩) (fun aH=>?_)
 try simp only [aZ]
 refine wpAnyH_done (by kernel_rfl) ?_ _
 go_wp2
 refine bodyPost_ret (results_cell_row rfl _ _ (w.heap.size+1) _ _ _ _ rfl (R.o.set (h.reckV u v 1 ii)).blk underlying62 rfl bC) rfl ?_
 exact ⟨rfl,H1.o.cf (R.o.cf HC.o.k (by omega) _ _),(F1.o.new (Nat.le_succ _) (by omega) _).new (Nat.le_succ _) (by omega) _⟩
theorem zD (hH:Hs w0 g w p h) (hC:aK w0 w a c) (C:Cq w0 g h) (pN:0<=ib/\ib<c.locs.length) (hrc:0<=ic/\ic<c.locs.length) (Oa:cJ (c.rd ib).n) (Oc:cJ (c.rd ic).n) :
  χ 137 #[π p 0,π a.q 0,.agg #[ι 6,ι ia,ι ib,ι ic,ι ii,.slice Q nl q]] w fun e w'=>e=.returned (jc (aG h c ⟨6,ia,ib,ic,ii,args⟩))/\Hs w0 g w' p (givesH h c ⟨6,ia,ib,ic,ii,args⟩)/\Fr w0.heap.size g.T w w':=by
 obtain ⟨nb,rfl⟩:∃nb:Nat,ib=nb:=⟨ib.toNat,by omega⟩
 obtain ⟨nc,rfl⟩:∃nc:Nat,ic=nc:=⟨ic.toNat,by omega⟩
 obtain ⟨HF,HH,HA,HI,HR,HN,HC,hb,hq,hl⟩:=mP 6 ia (nb:Int) (nc:Int) ii Q nl q hH hC C
 clear hH hC C
 have eH:givesH h c ⟨6,ia,(nb:Int),(nc:Int),ii,args⟩=h.reckH (c.rd (nb:Int)) (c.rd (nc:Int)) 2 ii:=by simp [givesH]
 have eV:aG h c ⟨6,ia,(nb:Int),(nc:Int),ii,args⟩=h.reckV (c.rd (nb:Int)) (c.rd (nc:Int)) 2 ii:=by simp [aG]
 rw [eH,eV]
 clear eH eV
 have QB:nb<c.locs.length:=by omega
 have mz:nc<c.locs.length:=by omega
 have eu:c.rd (nb:Int)=nth aE c.locs nb:=by unfold aL.rd;rw [Int.toNat_natCast]
 have ev:c.rd (nc:Int)=nth aE c.locs nc:=by unfold aL.rd;rw [Int.toNat_natCast]
 rw [eu] at Oa ⊢
 rw [ev] at Oc ⊢
 have T8:Θ (∀w',aK w0 w' a c->cP w' w.heap.size 6 ia (nb:Int) (nc:Int) ii Q nl q->(fun w'=>w'.cell? ⟨a.q,8,none⟩=some (.slice (some ⟨a.lb,0,none⟩) c.locs.length a.lc)/\w'.cell? ⟨w.heap.size,2,none⟩=some (ι (nb:Int))/\w'.cell? ⟨w.heap.size,3,none⟩=some (ι (nc:Int))/\w'.cell? ⟨w.heap.size,4,none⟩=some (ι ii)/\w'.cell? ⟨a.lb,nb*2,none⟩=some (ι (nth aE c.locs nb).kind)/\w'.cell? ⟨a.lb,nb*2+1,none⟩=some (ι (nth aE c.locs nb).n)/\w'.cell? ⟨a.lb,nc*2,none⟩=some (ι (nth aE c.locs nc).kind)/\w'.cell? ⟨a.lb,nc*2+1,none⟩=some (ι (nth aE c.locs nc).n)) w'):=fun w' A I=>⟨A.cells.c8,I.cs.2.2.1,I.cs.2.2.2.1,I.cs.2.2.2.2.1,A.loc.c0 QB,A.loc.c1 QB,A.loc.c0 mz,A.loc.c1 mz⟩
 have HU:=ae (And.intro Oa Oc)
 have hlen:=HA.o.loc.len
 generalize nth aE c.locs nb=u at *
 generalize nth aE c.locs nc=v at *
 have z2:=ae (T8.o _ HA.o HI.o)
 clear Oa Oc pN hrc eu ev
 go_enter func137,ntmps137
 go_wp2
 refine wp_region_held_drew (S:=fun w'=>κ w' a.q 8 (.slice (some ⟨a.lb,0,none⟩) c.locs.length a.lc)/\κ w' w.heap.size 2 (ι (nb:Int))/\κ w' w.heap.size 3 (ι (nc:Int))/\κ w' w.heap.size 4 (ι ii)/\κ w' a.lb (nb*2) (ι u.kind)/\κ w' a.lb (nb*2+1) (ι u.n)/\κ w' a.lb (nc*2) (ι v.kind)/\κ w' a.lb (nc*2+1) (ι v.n)) (by kernel_rfl) ?_ (fun aa=>?_)
 ·exact z2.o
 iterate 22 (refine tn rfl (by kernel_rfl) (fun _ _ _ h=>h) (by intro _ h;go_split_ands;go_simp<;>with_reducible rfl) aa ?_;try simp only [aZ])
 refine aY (i:=22) (by kernel_rfl) rfl fun K hK=>?_
 go_simp
 go_at_call 160
 refine (qu w0 g p h u v 2 ii _ (HH.o.drewN 1) HC.o.cw (by omega) HU.o.1 HU.o.2).mono ?_
 rintro e w1 ⟨rfl,H1,F1⟩
 have R:=ae ((HR.o.drewN 1).keep HC.o.k F1)
 have r0:=R.o.c0
 have r1:=R.o.c1
 have fz:=R.o.fr
 have I1:=ae ((cP.mk HI.o.blk:cP ((((w.alloc (.cells #[ι 6,ι ia,ι (nb:Int),ι (nc:Int),ι ii,.slice Q nl q] 55)).alloc eI).alloc eI).drew) _ _ _ _ _ _ _ _ _).keep HC.o.k F1)
 have A1:=ae (aK.fr (w:=(((w.alloc (.cells #[ι 6,ι ia,ι (nb:Int),ι (nc:Int),ι ii,.slice Q nl q] 55)).alloc eI).alloc eI).drew) ⟨HA.o.own,HA.o.ownl,HA.o.blk,⟨HA.o.loc.blk,HA.o.loc.len⟩,HA.o.me⟩ HC.o.k HC.o.n7 F1)
 have d8:=ae (T8.o _ A1.o I1.o)
 replace H1:=ae H1
 replace F1:=ae ((HF.o.drewN 1).trans F1)
 go_wp2_with fail
 refine hK.out _ _ (d8.o) (fun ah=>?_)
 try simp only [aZ]
 refine aY (i:=23) (by kernel_rfl) rfl fun K hK=>?_
 go_wp2_with fail
 refine hK.out _ _ (⟨bH d8.o.1 (by omega),bH d8.o.2.1 (by omega),bH d8.o.2.2.1 (by omega),bH d8.o.2.2.2.1 (by omega),bH d8.o.2.2.2.2.1 (by omega),bH d8.o.2.2.2.2.2.1 (by omega),bH d8.o.2.2.2.2.2.2.1 (by omega),bH d8.o.2.2.2.2.2.2.2 (by omega)⟩) (fun aH=>?_)
 try simp only [aZ]
 refine wpAnyH_done (by kernel_rfl) ?_ _
 go_wp2
 refine bodyPost_ret (results_cell_row rfl _ _ (w.heap.size+1) _ _ _ _ rfl (R.o.set (h.reckV u v 2 ii)).blk underlying62 rfl bC) rfl ?_
 exact ⟨rfl,H1.o.cf (R.o.cf HC.o.k (by omega) _ _),(F1.o.new (Nat.le_succ _) (by omega) _).new (Nat.le_succ _) (by omega) _⟩
end
end Go.Proofs.YtgbebphpjnmafaaGreat
