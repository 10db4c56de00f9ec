import Derived.Test.YtgiiapenmjollaaGreatRraf
namespace Go.Proofs.YtgiiapenmjollaaGreat
set_option linter.all false
set_option maxHeartbeats 40000000
set_option maxRecDepth 100000
open Go.RowKit
open Tryz
structure Kept (h:Hp) (c:aL) (d:nr):Prop where
 le:Le h d.h
 gh:Gh 0 d.h
 kd:Kd d.h
 gc:d.h.over=false->Gc d.h d.c
 m:d.c.m=c.m
 pc:d.c.pc=c.pc
 nx:0<=d.nx/\d.nx<=c.m.code.length
theorem oO {h:Hp} {b:Bool} (ho:(h.must b).over=false):h.must b=h:=by
 have:=(iP ho).1;unfold Hp.must;rw [if_pos this]
theorem dP (h:Hp) (c:aL) (a k:Int):Le h (h.rdH c a k):=dw h _
theorem Gh.rdH {s:Nat} {h:Hp} (g:Gh s h) (c:aL) (a k:Int):Gh s (h.rdH c a k):=g.must _
theorem Kd.rdH {h:Hp} (g:Kd h) (c:aL) (a k:Int):Kd (h.rdH c a k):=g.must _
theorem oP {h:Hp} {c:aL} {a k:Int} (ho:(h.rdH c a k).over=false):(c.rd a).kind=k/\h.rdH c a k=h/\h.over=false :=
 ⟨of_decide_eq_true (iP ho).1,oO ho,(iP ho).2⟩
theorem ln (h:Hp) (c:aL) (a:Int) (v:Va):(mN h c a v).m=c.m/\(mN h c a v).pc=c.pc/\(mN h c a v).giv=c.giv/\(mN h c a v).cau=c.cau:=by unfold mN;split<;>exact ⟨rfl,rfl,rfl,rfl⟩
theorem kh (h:Hp) (c:aL) (i:In):Le h (givesH h c i):=by
 unfold givesH
 split;exact Le.refl h
 split;exact dP ..
 split;exact wU ..
 split;exact wU ..
 split;exact dP ..
 split;exact dP ..
 split;exact (dP ..).trans (dP ..)
 split;exact yS ..
 split
 ·split
  ·exact dP ..
  ·exact (dP ..).trans (lF ..)
 split
 ·split
  ·exact dP ..
  ·exact (dP ..).trans (dw ..)
 exact wT h
theorem Gh.gives {s:Nat} {h:Hp} (g:Gh s h) (c:aL) (i:In):Gh s (givesH h c i):=by
 unfold givesH
 split;exact g
 split;exact g.rdH ..
 split;exact g.reckH ..
 split;exact g.reckH ..
 split;exact g.rdH ..
 split;exact g.rdH ..
 split;exact (g.rdH ..).rdH ..
 split;exact g.new _
 split
 ·split
  ·exact g.rdH ..
  ·exact (g.rdH ..).findH ..
 split
 ·split
  ·exact g.rdH ..
  ·exact (g.rdH ..).must _
 exact g.input
theorem Kd.gives {h:Hp} (g:Kd h) (c:aL) (i:In):Kd (givesH h c i):=by
 unfold givesH
 split;exact g
 split;exact g.rdH _ _ _
 split;exact g.reckH _ _ _ _
 split;exact g.reckH _ _ _ _
 split;exact g.rdH _ _ _
 split;exact g.rdH _ _ _
 split;exact (g.rdH _ _ _).rdH _ _ _
 split;exact g.new _
 split
 ·split
  ·exact g.rdH _ _ _
  ·exact (g.rdH _ _ _).findH _ _
 split
 ·split
  ·exact g.rdH _ _ _
  ·exact (g.rdH _ _ _).must _
 exact g.input
theorem qi {h:Hp} {a b:Va} {k op:Int} (hs:(h.reckH a b k op).stops=false) (ho:h.over=false) (iG:h.thrown=-1):(h.reckV a b k op).kind=k:=by
 unfold Hp.reckH at hs
 split at hs
 ·rename_i hm
  unfold Hp.reckV
  rw [if_pos hm]
 ·rename_i hm
  exfalso
  have hb:eU a b k=false:=by
   cases hx:eU a b k
   ·rfl
   ·exact absurd (by unfold Hp.mustB;rw [hx,ho];rfl) hm
  rw [hb] at hs
  simp [Hp.must,Hp.fin,ho,Hp.stops] at hs
def xA (cs:List Cl):Prop:=∀c k:Int,0<=c/\c<cs.length->0<=k/\k<(nth bL cs c.toNat).fields.length->(bI cs c k).kind≠9
theorem oQ {s:Nat} {h:Hp} {c:aL} {i:In} {ms:List Me} {n:Nat} {rt:Int} (g:Gh s h) (kd:Kd h) (gc:Gc h c) (ho:h.over=false) (iG:h.thrown=-1) (mc:xA h.file.classes) (ok:pR h.file.classes ms n c.m.regs rt i) (iok:i.ok)
  (hop:i.op<=9∨i.op=13∨i.op=14∨i.op=17∨i.op=24) (hs:(givesH h c i).stops=false) :
  jw (givesH h c i) (aG h c i)/\(aG h c i).kind≠9/\((aG h c i).kind=2->i.a+1<c.m.regs):=by
 have hle:=kh h c i
 have num:∀(k m:Int) (h':Hp),k≠3->cJ m->jw h' ⟨k,m⟩:=fun k m h' h1 h2=>⟨fun e=>absurd e h1,h2⟩
 have nP:(givesH h c i).over=false:=by
  unfold Hp.stops at hs;rw [Bool.or_eq_false_iff] at hs;exact hs.1
 have h1:=ok.op.1
 rcases (by omega:i.op=1∨i.op=2∨i.op=3∨i.op=4∨i.op=5∨i.op=6∨i.op=7∨i.op=8∨i.op=9∨i.op=13∨i.op=14∨i.op=17∨i.op=24) with e|e|e|e|e|e|e|e|e|e|e|e|e
 ·have eV:aG h c i=⟨1,i.n⟩:=by simp [aG,e]
  rw [eV]
  exact ⟨num _ _ _ (by omega) iok.2.2.2.2,(by show (1:Int)≠9;omega),fun x=>by have:(1:Int)=2:=x;omega⟩
 ·have eV:aG h c i=⟨2,i.n⟩:=by simp [aG,e]
  rw [eV]
  exact ⟨num _ _ _ (by omega) iok.2.2.2.2,(by show (2:Int)≠9;omega),fun x=>ok.two (by omega)⟩
 ·have eV:aG h c i=⟨3,-1⟩:=by simp [aG,e]
  rw [eV]
  exact ⟨⟨fun _=>⟨Int.le_refl _,by show (-1:Int)<_;omega⟩,by show cJ (-1);unfold cJ;omega⟩,(by decide),fun x=>absurd x (by decide)⟩
 ·have eV:aG h c i=c.rd i.b:=by simp [aG,e]
  have eH:givesH h c i=h.rdH c i.b i.c:=by simp [givesH,e]
  rw [eH] at nP hle
  have hk:=(oP nP).1
  have hm:=ok.move e
  rw [eV,eH]
  exact ⟨(gc.rd (ok.b (by omega))).le hle,by omega,fun x=>ok.two (by omega)⟩
 ·have eV:aG h c i=h.reckV (c.rd i.b) (c.rd i.c) 1 i.n:=by simp [aG,e]
  have eH:givesH h c i=h.reckH (c.rd i.b) (c.rd i.c) 1 i.n:=by simp [givesH,e]
  rw [eH] at hs
  have hk:=qi hs ho iG
  rw [eV]
  exact ⟨wV _ _ _ _ _ _ (by omega) (gc.rd (ok.b (by omega))).num,by omega,fun x=>by omega⟩
 ·have eV:aG h c i=h.reckV (c.rd i.b) (c.rd i.c) 2 i.n:=by simp [aG,e]
  have eH:givesH h c i=h.reckH (c.rd i.b) (c.rd i.c) 2 i.n:=by simp [givesH,e]
  rw [eH] at hs
  have hk:=qi hs ho iG
  rw [eV]
  exact ⟨wV _ _ _ _ _ _ (by omega) (gc.rd (ok.b (by omega))).num,by omega,fun x=>ok.two (by omega)⟩
 ·have eV:aG h c i=⟨2,(c.rd i.b).n⟩:=by simp [aG,e]
  rw [eV]
  exact ⟨num _ _ _ (by omega) (gc.rd (ok.b (by omega))).num,(by show (2:Int)≠9;omega),fun x=>ok.two (by omega)⟩
 ·have eV:aG h c i=⟨1,wrap32 (c.rd i.b).n⟩:=by simp [aG,e]
  rw [eV]
  exact ⟨num _ _ _ (by omega) (qd _),(by show (1:Int)≠9;omega),fun x=>by have:(1:Int)=2:=x;omega⟩
 ·have eV:aG h c i=⟨1,lh (c.rd i.b).n (c.rd i.c).n⟩:=by simp [aG,e]
  rw [eV]
  exact ⟨num _ _ _ (by omega) (by unfold lh;split;(unfold cJ;omega);split<;>(unfold cJ;omega)),(by show (1:Int)≠9;omega),fun x=>by have:(1:Int)=2:=x;omega⟩
 ·have eV:aG h c i=h.newV:=by simp [aG,e]
  have eH:givesH h c i=h.new i.b:=by simp [givesH,e]
  rw [eV,eH]
  refine ⟨Kg h _,?_,?_⟩
  ·unfold Hp.newV;split
   ·decide
   ·show (3:Int)≠9;omega
  ·unfold Hp.newV;split
   ·intro x;exact absurd x (by decide)
   ·intro x;have:(3:Int)=2:=x;omega
 ·have eV:aG h c i=(if (h.rdH c i.b 3).over=true then aE else (h.rdH c i.b 3).getV (c.rd i.b) i.c i.n):=by simp [aG,e]
  have eH:givesH h c i=(if (h.rdH c i.b 3).over=true then h.rdH c i.b 3 else (h.rdH c i.b 3).findH (c.rd i.b) i.c):=by simp [givesH,e]
  rw [eV,eH]
  rw [eH] at hs nP
  split
  ·rename_i hx;rw [if_pos hx] at nP;rw [hx] at nP;cases nP
  ·rename_i hx
   rw [if_neg hx] at hs nP
   obtain ⟨k1,k2,k3⟩:=oP (by simpa using hx)
   rw [k2] at hs nP ⊢
   have gr:=gc.rd (ok.b (by omega))
   refine ⟨(Kh g _ _ _ gr).le (lF _ _ _),?_,?_⟩
   all_goals
    by_cases hn:h.findN (c.rd i.b) i.c i.n<0
   ·unfold Hp.getV;rw [if_pos hn];decide
   ·rw [tx kd gr hn]
    have hf:=ok.fld (by omega)
    exact mc _ _ ⟨hf.1,hf.2.1⟩ ⟨hf.2.2.1,hf.2.2.2⟩
   ·unfold Hp.getV;rw [if_pos hn];intro x;exact absurd x (by decide)
   ·rw [tx kd gr hn]
    intro x
    exact ok.two (Or.inr (Or.inr (Or.inr (Or.inr (Or.inr (Or.inr ⟨e,x⟩))))))
 ·have eV:aG h c i=(if (h.rdH c i.b 3).over=true then aE else (h.rdH c i.b 3).isV (c.rd i.b) i.c):=by simp [aG,e]
  rw [eV]
  split
  ·exact ⟨jx _,by decide,fun x=>absurd x (by decide)⟩
  ·exact ⟨num _ _ _ (by omega) (by split<;>(unfold cJ;omega)),(by show (1:Int)≠9;omega),fun x=>by have:(1:Int)=2:=x;omega⟩
 ·have eV:aG h c i=h.inV:=by simp [aG,e]
  have eH:givesH h c i=h.input':=by simp [givesH,e]
  rw [eV,eH]
  refine ⟨(NG g).le (wT h),?_,fun x=>ok.two (by omega)⟩
  unfold Hp.inV;split
  ·decide
  ·show (2:Int)≠9;omega
theorem kj {h:Hp} {c:aL} {i:In} {ms:List Me} {rt:Int} (gh:Gh 1 h) (kd:Kd h) (gc:Gc h c) (ho:h.over=false) (iG:h.thrown=-1) (mc:xA h.file.classes) (ok:pR h.file.classes ms c.m.code.length c.m.regs rt i) (iok:i.ok) (hc:i.op≠18) (hr:i.op≠20) (hp:0<=c.pc/\c.pc<c.m.code.length):Kept h c (bV h c i):=by
 have hns:h.stops=false:=by unfold Hp.stops;rw [ho,iG];rfl
 have yF:0<=c.pc+1/\c.pc+1<=c.m.code.length:=by omega
 have gl:∀h',Le h h'->Gc h' c.clr:=fun h' l=>gc.clr.le l
 unfold bV
 split
 ·rename_i e
  exact ⟨Le.refl h,gh.less,kd,fun _=>gc.clr,rfl,rfl,by have:=ok.jump (Or.inl e);dsimp only;omega⟩
 split
 ·rename_i e
  have hj:=ok.jump (Or.inr (Or.inl e))
  unfold Tl
  exact ⟨dP ..,(gh.rdH ..).less,kd.rdH _ _ _,fun _=>gl _ (dP ..),rfl,rfl,by dsimp only;split<;>omega⟩
 split
 ·rename_i e
  have hj:=ok.jump (Or.inr (Or.inr e))
  unfold NC
  exact ⟨dP ..,(gh.rdH ..).less,kd.rdH _ _ _,fun _=>gl _ (dP ..),rfl,rfl,by dsimp only;split<;>omega⟩
 split
 ·rename_i e
  unfold pQ
  dsimp only
  generalize (bI h.file.classes i.c i.n).kind=q
  have l2:=(dP h c i.b 3).trans (dP (h.rdH c i.b 3) c i.a q)
  have g2:=(gh.rdH c i.b 3).rdH c i.a q
  have k2:=(kd.rdH c i.b 3).rdH c i.a q
  have gv:=(gc.rd (ok.a (by omega))).le l2
  generalize (h.rdH c i.b 3).rdH c i.a q=h2 at l2 g2 k2 gv
  split
  ·exact ⟨l2,g2.less,k2,fun _=>gl _ l2,rfl,rfl,yF⟩
  ·exact ⟨l2.trans (yT ..),(g2.put _ _ _ _ gv).less,k2.put _ _ _ _,fun _=>gl _ (l2.trans (yT ..)),rfl,rfl,yF⟩
 split
 ·rename_i e
  unfold wL
  have l2:=dP h c i.a 3
  have g2:=gh.rdH c i.a 3
  have k2:=kd.rdH c i.a 3
  generalize h.rdH c i.a 3=h2 at l2 g2 k2
  split
  ·exact ⟨l2,g2.less,k2,fun _=>gl _ l2,rfl,rfl,yF⟩
  ·exact ⟨l2.trans (ve ..),(g2.cast _ _).less,k2.cast _ _,fun _=>gl _ (l2.trans (ve ..)),rfl,rfl,yF⟩
 split
 ·rename_i e
  have hk:=ok.res e
  have ha:=ok.a (by omega)
  unfold wN
  refine ⟨dw ..,(gh.must _).less,kd.must _,fun cY=>?_,?_,?_,yF⟩
  ·dsimp only at cY ⊢
   have e1:=oO cY
   have e2:c.giv.kind=i.b:=of_decide_eq_true (iP cY).1
   rw [e1,if_pos (by unfold Hp.mustB;rw [ho,e2];simp)]
   exact gc.clr.wr (fun _=>⟨gc.giv,by omega,fun x=>ok.two (by omega)⟩) ha.1
  ·dsimp only;split
   ·exact (ln ..).1
   ·rfl
  ·dsimp only;split
   ·exact (ln ..).2.1
   ·rfl
 split
 ·rename_i e
  unfold Fk
  have l2:=dP h c i.a 3
  have g2:=gh.rdH c i.a 3
  have k2:=kd.rdH c i.a 3
  have gv:=(gc.rd (ok.a (by omega))).le l2
  generalize h.rdH c i.a 3=h2 at l2 g2 k2 gv
  split
  ·exact ⟨l2,g2.less,k2,fun _=>gl _ l2,rfl,rfl,yF⟩
  ·exact ⟨l2.trans (qP ..),(g2.throw _ gv).less,k2.throw _,fun _=>gl _ (l2.trans (qP ..)),rfl,rfl,yF⟩
 split
 ·rename_i e
  have ha:=ok.a (by omega)
  unfold wO
  refine ⟨dw ..,(gh.must _).less,kd.must _,fun cY=>?_,?_,?_,yF⟩
  ·dsimp only at cY ⊢
   have e1:=oO cY
   have e2:c.cau.kind=3:=of_decide_eq_true (iP cY).1
   rw [e1,if_pos (by unfold Hp.mustB isRef;rw [ho,e2];simp)]
   exact gc.clr.wr (fun _=>⟨gc.cau,by omega,fun x=>by omega⟩) ha.1
  ·dsimp only;split
   ·exact (ln ..).1
   ·rfl
  ·dsimp only;split
   ·exact (ln ..).2.1
   ·rfl
 split
 ·rename_i e
  unfold wM
  have l2:=dP h c i.a i.b
  have g2:=gh.rdH c i.a i.b
  have k2:=kd.rdH c i.a i.b
  generalize h.rdH c i.a i.b=h2 at l2 g2 k2
  split
  ·exact ⟨l2,g2.less,k2,fun _=>gl _ l2,rfl,rfl,yF⟩
  ·exact ⟨l2.trans (vf ..),g2.emit _ _,k2.emit _ _,fun _=>gl _ (l2.trans (vf ..)),rfl,rfl,yF⟩
 ·have hop:=ok.op
  have ha:=ok.a (by omega)
  unfold yO
  refine ⟨kh ..,(gh.gives ..).less,kd.gives _ _,fun _=>?_,(ln ..).1,(ln ..).2.1,yF⟩
  exact (gl _ (kh ..)).wr (fun hs=>oQ gh kd gc ho iG mc ok iok (by omega) hs) ha.1
theorem qj {h:Hp} {v:Va} {t:Ty} (ho:h.of v t=true):v.kind=t.kind:=by
 unfold Hp.of at ho
 rw [Bool.and_eq_true] at ho
 exact of_decide_eq_true ho.1
theorem vH {n:Nat} {t:Ty} (h:fP n t=true):1<=t.kind/\t.kind<=3:=by
 have:=of_decide_eq_true h
 omega
theorem ix (h:Hp) (n:Nat):∀(l:List Va) (k:List Ty),l.length=k.length->h.enterL l k=true->(∀t∈k,fP n t=true)->bN l=cj k/\∀v∈l,1<=v.kind/\v.kind<=3
 | [],[],_,_,_=>⟨rfl,fun v hv=>by simp at hv⟩
 | [],_::_,hl,_,_=>by simp at hl
 | _::_,[],hl,_,_=>by simp at hl
 | v::l,t::k,hl,he,ht=>by
  unfold Hp.enterL at he
  rw [Bool.and_eq_true] at he
  have ih:=ix h n l k (by simpa using hl) he.2 (fun x hx=>ht x (List.mem_cons_of_mem _ hx))
  have hk:=qj he.1
  have htk:=vH (ht t (List.mem_cons_self ..))
  refine ⟨?_,fun x hx=>?_⟩
  ·simp only [bN,cj,ih.1,hk]
  ·rw [List.mem_cons] at hx
   rcases hx with rfl|hx
   ·omega
   ·exact ih.2 x hx
theorem kJ (v:Va):bN [v]=if v.kind=2 then 2 else 1:=by simp [bN]
theorem oT (h:Hp):∀(l:List Va) (l0:List Va) (fE:Nat),iK l0->(∀x∈l0,jw h x)->(∀x∈l,jw h x)->(∀v∈l,1<=v.kind/\v.kind<=3)->fE+bN l<=l0.length ->
  iK (dT l0 fE l)/\(∀x∈dT l0 fE l,jw h x)/\(dT l0 fE l).length=l0.length
 | [],l0,fE,h1,h2,_,_,_=>⟨h1,h2,rfl⟩
 | v::l,l0,fE,h1,h2,h3,h4,h5=>by
  have hv:=h3 v (List.mem_cons_self ..)
  have hk:=h4 v (List.mem_cons_self ..)
  have es:bN (v::l)=(if v.kind=2 then 2 else 1)+bN l:=rfl
  have ih:=oT h l (eL l0 fE v) (fE+bN [v]) (FE h1 fE v (by omega) (fun e=>by rw [es,if_pos e] at h5;omega)) (FG h2 hv fE) (fun x hx=>h3 x (List.mem_cons_of_mem _ hx)) (fun x hx=>h4 x (List.mem_cons_of_mem _ hx)) (by rw [fR,kJ];rw [es] at h5;omega)
  refine ⟨ih.1,ih.2.1,?_⟩
  show (dT (eL l0 fE v) (fE+bN [v]) l).length=_
  rw [ih.2.2,fR]
theorem Gr (n:Nat):iK (List.replicate n aE):=by
 have key:∀i,nth aE (List.replicate n aE) i=aE:=fun i=>by simp [nth,List.getD,List.getElem?_replicate];split<;>rfl
 exact ⟨fun i _ hk=>by rw [key] at hk;exact absurd hk (by decide),fun i _ hk=>by rw [key] at hk;exact absurd hk (by decide)⟩
theorem nQ {h:Hp} {m:Me} {l:List Va} (hm:fG h.file.classes h.file.methods m=true) (hok:∀i∈m.code,i.ok) (hl:l.length=m.params.length) (hg:∀v∈l,jw h v) (he:h.enterL l m.params=true):Gc h (cv m l):=by
 obtain ⟨p1,p2,p3,p5,p6,p7,p8,p9,N0,PN⟩:=j6 hm
 obtain ⟨s1,s2⟩:=ix h h.file.classes.length l m.params hl he p9
 obtain ⟨k1,k2,k3⟩:=oT h l (List.replicate m.regs.toNat aE) 0 (Gr _) (fun x hx=>by rw [List.eq_of_mem_replicate hx];exact jx h) hg s2 (by rw [List.length_replicate];omega)
 refine ⟨jx h,jx h,k2,k1,?_,hm,hok⟩
 show ((dT (List.replicate m.regs.toNat aE) 0 l).length:Int)=m.regs
 rw [k3,List.length_replicate];omega
structure iM (h:Hp) (r:Hp×Va) (d:Int):Prop where
 file:r.1.file=h.file
 input:r.1.input=h.input
 fuel:r.1.fuel=h.fuel
 objs:h.objs.length<=r.1.objs.length
 steps:h.sh.steps<=r.1.sh.steps
 calls:r.1.calls=h.calls-d
 gh:Gh 0 r.1
 kd:Kd r.1
 gv:jw r.1 r.2
theorem fN {h h1:Hp} {v:Va} (l:Le h h1) (g:Gh 0 h1) (kd:Kd h1) (hc:1<=h.calls) (gv:jw h1 v):iM h (h1.leave,v) 1:=by
 have hcc:=l.calls
 have:=g.calls
 refine ⟨l.file,l.input,l.fuel,l.objs,l.steps,?_,?_,kd.same rfl rfl,⟨gv.ref,gv.num⟩⟩
 ·show h1.calls-1=_;omega
 ·exact ⟨fun o ho x hx=>⟨(g.held o ho x hx).ref,(g.held o ho x hx).num⟩,g.thr,g.used,g.steps,g.fuel,g.o,g.len,g.inp,by show 0<=h1.calls-1/\h1.calls-1<=20;omega⟩
theorem iM.from {h h1:Hp} {r:Hp×Va} {d:Int} (l:Le h h1) (k:iM h1 r d):iM h r d :=
 ⟨k.file.trans l.file,k.input.trans l.input,k.fuel.trans l.fuel,Nat.le_trans l.objs k.objs,Int.le_trans l.steps k.steps,by rw [k.calls,l.calls],k.gh,k.kd,k.gv⟩
theorem iM.le {h:Hp} {r:Hp×Va} (k:iM h r 0):Le h r.1:=⟨k.file,k.input,k.fuel,k.objs,k.steps,by rw [k.calls];omega⟩
def Inv (h:Hp) (c:aL):Prop:=h.over=false->h.thrown=-1/\Gc h c/\0<=c.pc/\c.pc<=c.m.code.length
def Gs (f:Fi) (go:Hp->aL->Hp×Va):Prop:=∀h c,h.file=f->Gh 0 h->Kd h->1<=h.calls->Inv h c->iM h (go h c) 1
def nR (f:Fi):Prop:=xA f.classes/\∀m∈f.methods,fG f.classes f.methods m=true/\∀i∈m.code,i.ok
theorem xB {f:Fi} {go:Hp->aL->Hp×Va} (G:Gs f go) {h:Hp} {m:Me} {l:List Va} (hf:h.file=f) (gh:Gh 0 h) (kd:Kd h) (ho:h.over=false) (iG:h.thrown=-1) (hm:fG h.file.classes h.file.methods m=true) (hok:∀i∈m.code,i.ok) (hl:l.length=m.params.length) (hg:∀v∈l,jw h v):iM h (jd go h m l) 0:=by
 unfold jd
 split
 ·rename_i hb
  unfold Hp.enterB at hb
  rw [Bool.and_eq_true] at hb
  have hd:h.deep=false:=by simpa using hb.2
  have he:h.enterH m l={ h with calls:=h.calls+1 }:=by unfold Hp.enterH;rw [if_neg (by rw [hb.1];decide),if_neg (by rw [hd];decide)]
  rw [he]
  have hc:h.calls<20:=by unfold Hp.deep at hd;simpa using hd
  have hcc:=gh.calls
  have g1:Gh 0 { h with calls:=h.calls+1 }:=⟨fun o ho x hx=>⟨(gh.held o ho x hx).ref,(gh.held o ho x hx).num⟩,gh.thr,gh.used,gh.steps,gh.fuel,gh.o,gh.len,gh.inp,by dsimp only;omega⟩
  have gc:=nQ hm hok hl hg hb.1
  have N3:Gc { h with calls:=h.calls+1 } (cv m l):=⟨⟨gc.giv.ref,gc.giv.num⟩,⟨gc.cau.ref,gc.cau.num⟩,fun v hv=>⟨(gc.locs v hv).ref,(gc.locs v hv).num⟩,gc.ok,gc.len,gc.me,gc.mok⟩
  have r:=G { h with calls:=h.calls+1 } (cv m l) hf g1 (kd.same rfl rfl) (by dsimp only;omega) (fun _=>⟨iG,N3,Int.le_refl _,by show (0:Int)<=_;omega⟩)
  exact ⟨r.file,r.input,r.fuel,r.objs,r.steps,by rw [r.calls];dsimp only;omega,r.gh,r.kd,r.gv⟩
 ·have le:Le h (h.enterH m l)/\Gh 0 (h.enterH m l)/\Kd (h.enterH m l):=by
   rename_i hb
   unfold Hp.enterB at hb
   unfold Hp.enterH
   split
   ·exact ⟨gN h 6,gh.fin 6,kd.fin 6⟩
   ·rename_i h1
    split
    ·exact ⟨gN h 5,gh.fin 5,kd.fin 5⟩
    ·rename_i h2
     exfalso;apply hb
     rw [Bool.and_eq_true]
     refine ⟨?_,?_⟩
     ·cases hx:h.enterL l m.params
      ·exact absurd hx h1
      ·rfl
     ·cases hx:h.deep
      ·rfl
      ·exact absurd hx h2
  exact ⟨le.1.file,le.1.input,le.1.fuel,le.1.objs,le.1.steps,by rw [le.1.calls];omega,le.2.1,le.2.2,jx _⟩
theorem dG (c:aL):∀(l:List Int) (k:List Ty),l.length=k.length->(c.rds l k).length=k.length
 | [],[],_=>rfl
 | [],_::_,h=>by simp at h
 | _::_,[],h=>by simp at h
 | a::l,t::k,h=>by
  show (c.rds l k).length+1=k.length+1
  rw [dG c l k (by simpa using h)]
theorem vI {h:Hp} {c:aL} (g:Gc h c):∀(l:List Int) (k:List Ty),(∀j,j<l.length->0<=nth (0:Int) l j/\nth (0:Int) l j<c.m.regs)->∀v∈c.rds l k,jw h v
 | [],_,_,v,hv=>by simp [aL.rds] at hv
 | _::_,[],_,v,hv=>by simp [aL.rds] at hv
 | a::l,t::k,hl,v,hv=>by
  unfold aL.rds at hv
  rw [List.mem_cons] at hv
  rcases hv with rfl|hv
  ·exact g.rd (hl 0 (by simp))
  ·exact vI g l k (fun j hj=>hl (j+1) (by simp;omega)) v hv
theorem nS (c:aL):∀(l:List Int) (k:List Ty) (h:Hp),Le h (h.rdsH c l k)
 | [],_,h=>Le.refl h
 | _::_,[],h=>Le.refl h
 | a::l,t::k,h=>(dP h c a t.kind).trans (nS c l k _)
theorem Gh.rdsH {s:Nat} (c:aL):∀(l:List Int) (k:List Ty) {h:Hp},Gh s h->Gh s (h.rdsH c l k)
 | [],_,h,g=>g
 | _::_,[],h,g=>g
 | a::l,t::k,h,g=>Gh.rdsH c l k (g.rdH c a t.kind)
theorem Kd.rdsH (c:aL):∀(l:List Int) (k:List Ty) {h:Hp},Kd h->Kd (h.rdsH c l k)
 | [],_,h,g=>g
 | _::_,[],h,g=>g
 | a::l,t::k,h,g=>Kd.rdsH c l k (g.rdH c a t.kind)
theorem qk (c:aL):∀(l:List Int) (k:List Ty) {h:Hp},(h.rdsH c l k).over=false->h.rdsH c l k=h
 | [],_,h,_=>rfl
 | _::_,[],h,_=>rfl
 | a::l,t::k,h,ho=>by
  have e:=qk c l k (h:=h.rdH c a t.kind) ho
  have ox:(h.rdH c a t.kind).over=false:=by rw [<-e];exact ho
  show (h.rdH c a t.kind).rdsH c l k=h
  rw [e];exact (oP ox).2.1
theorem tG {f:Fi} {go:Hp->aL->Hp×Va} (G:Gs f go) {h:Hp} {c:aL} {i:In} {n:Nat} {rt:Int} (hf:h.file=f) (gh:Gh 0 h) (kd:Kd h) (gc:Gc h c) (ho:h.over=false) (iG:h.thrown=-1) (dL:nR h.file) (ok:pR h.file.classes h.file.methods n c.m.regs rt i) (e:i.op=18) (hp:0<=c.pc/\c.pc<c.m.code.length):Kept h c (jB go h c i):=by
 have yF:0<=c.pc+1/\c.pc+1<=c.m.code.length:=by omega
 obtain ⟨c1,c2,c3⟩:=ok.call e
 have iL:=dL.2 _ (bE (d:=bT) (i:=i.a.toNat) (by omega:i.a.toNat<h.file.methods.length))
 unfold jB
 dsimp only
 generalize hM:nth bT h.file.methods i.a.toNat=m at *
 have l1:=nS c i.args m.params h
 have g1:=Gh.rdsH c i.args m.params gh
 have k1:=Kd.rdsH c i.args m.params kd
 split
 ·exact ⟨l1,g1,k1,fun _=>gc.clr.le l1,rfl,rfl,yF⟩
 ·rename_i cY
  have e1:=qk c i.args m.params (h:=h) (by simpa using cY)
  rw [e1] at *
  have r:=xB G hf gh kd ho iG iL.1 iL.2 (dG c _ _ c3) (vI gc _ _ (ok.args e))
  have gl:=gc.clr.le r.le
  exact ⟨r.le,r.gh,r.kd,fun _=>⟨r.gv,gl.cau,gl.locs,gl.ok,gl.len,gl.me,gl.mok⟩,rfl,rfl,yF⟩
theorem l8 {h:Hp} {pc:Int} {n k:Nat}:∀l:List Hd,(∀x∈l,nk k n x=true)->h.caughtL pc l=-1∨(0<=h.caughtL pc l/\h.caughtL pc l<n)
 | [],_=>Or.inl rfl
 | x::l,hx=>by
  unfold Hp.caughtL;split
  ·have:=of_decide_eq_true (hx x (List.mem_cons_self ..));right;omega
  ·exact l8 l (fun y hy=>hx y (List.mem_cons_of_mem _ hy))
theorem De {f:Fi} {go:Hp->aL->Hp×Va} (G:Gs f go) {h:Hp} {c:aL} {d:nr} (hf:h.file=f) (k:Kept h c d) (hc:1<=h.calls):iM h (dM go d) 1:=by
 unfold dM
 split
 ·exact fN k.le k.gh k.kd hc (jx _)
 ·rename_i cY
  have sY:d.h.over=false:=by simpa using cY
  have gc:=k.gc sY
  have hcc:=k.le.calls
  split
  ·rename_i ht
   split
   ·exact fN k.le k.gh k.kd hc (jx _)
   ·rename_i hn
    have gt:Gh 0 { d.h with thrown:=-1 }:=k.gh.same rfl rfl rfl rfl rfl rfl rfl ⟨by dsimp only;omega,by dsimp only;omega⟩
    have lt:Le d.h { d.h with thrown:=-1 }:=⟨rfl,rfl,rfl,Nat.le_refl _,Int.le_refl _,rfl⟩
    have gv:jw { d.h with thrown:=-1 } ⟨3,d.h.thrown⟩:=⟨fun _=>⟨by dsimp only;omega,k.gh.thr.2⟩,by have:=k.gh.thr;have:=k.gh.len;dsimp only;unfold cJ;omega⟩
    have gl:=gc.le lt
    refine iM.from (k.le.trans lt) (G _ _ (k.le.file.trans hf) gt (k.kd.same rfl rfl) (by show 1<=d.h.calls;omega) ?_)
    intro _
    refine ⟨rfl,⟨gl.giv,gv,gl.locs,gl.ok,gl.len,gl.me,gl.mok⟩,by show 0<=d.h.caughtL d.c.pc d.c.m.hands;omega,?_⟩
    have h1:=l8 (h:=d.h) (pc:=d.c.pc) (n:=d.c.m.code.length) (k:=d.h.file.classes.length) d.c.m.hands (j6 gc.me).2.2.2.2.2.2.2.2.1
    show d.h.caughtL d.c.pc d.c.m.hands<=d.c.m.code.length
    omega
  ·rename_i ht
   have St:d.h.thrown=-1:=by have:=k.gh.thr;omega
   refine iM.from k.le (G _ _ (k.le.file.trans hf) k.gh k.kd (by omega) fun _=>⟨St,gc.pc _,k.nx.1,?_⟩)
   show d.nx<=d.c.m.code.length
   rw [k.m];exact k.nx.2
theorem Gt {h:Hp} {c:aL} {i:In} {cs:List Cl} {ms:List Me} {n:Nat} (gh:Gh 0 h) (kd:Kd h) (hc:1<=h.calls) (gc:Gc h c) (ok:pR cs ms n c.m.regs c.m.ret.kind i) (e:i.op=20):iM h (lC h c i) 1:=by
 unfold lC;split
 ·exact fN (Le.refl h) gh kd hc (jx _)
 ·rename_i hr
  dsimp only
  have l1:=dP h c i.a c.m.ret.kind
  have g1:=gh.rdH c i.a c.m.ret.kind
  have k1:=kd.rdH c i.a c.m.ret.kind
  generalize h.rdH c i.a c.m.ret.kind=h1 at l1 g1 k1
  have l2:=l1.trans (dw h1 (!h1.over&&h1.of (c.rd i.a) c.m.ret))
  exact fN l2 (g1.must _) (k1.must _) hc ((gc.rd (ok.ret e hr)).le l2)
theorem nT {h:Hp} {c:aL} (gc:Gc h c) (hp:0<=c.pc/\c.pc<c.m.code.length):pR h.file.classes h.file.methods c.m.code.length c.m.regs c.m.ret.kind (nth eR c.m.code c.pc.toNat)/\(nth eR c.m.code c.pc.toNat).ok:=by
 have hlt:c.pc.toNat<c.m.code.length:=by omega
 have h8:=(j6 gc.me).2.2.2.2.2.2.1 _ (bE (d:=eR) hlt)
 exact ⟨NF h8,gc.mok _ (bE hlt)⟩
theorem Df {f:Fi} {go:Hp->aL->Hp×Va} (G:Gs f go) {h:Hp} {c:aL} (hf:h.file=f) (dL:nR f) (gh:Gh 1 h) (kd:Kd h) (hc:1<=h.calls) (ho:h.over=false) (iG:h.thrown=-1) (gc:Gc h c) (hp:0<=c.pc/\c.pc<=c.m.code.length):iM h (gw go h c) 1:=by
 unfold gw;split
 ·exact fN (dw _ _) (gh.must _).less (kd.must _) hc (jx _)
 ·rename_i hm
  have YH:h.mustB (decide (c.pc<c.m.code.length))=true:=by simpa using hm
  have hlt:c.pc<c.m.code.length:=of_decide_eq_true (dE YH).1
  obtain ⟨ok,iok⟩:=nT gc ⟨hp.1,hlt⟩
  split
  ·rename_i e
   exact Gt gh.less kd hc gc ok e
  ·rename_i er
   refine De G hf (c:=c) ?_ hc
   split
   ·rename_i e
    exact tG G hf gh.less kd gc ho iG (hf▸dL) ok e ⟨hp.1,hlt⟩
   ·rename_i e
    exact kj gh kd gc ho iG (hf▸dL).1 ok iok e er ⟨hp.1,hlt⟩
theorem tH (f:Fi) (dL:nR f):∀n:Nat,Gs f (cn n):=by
 intro n
 induction n with
 | zero =>
  intro h c hf gh kd hc hi
  show iM h (h.step.leave,aE) 1
  refine fN (jC h) ?_ kd.step hc (jx _)
  cases hb:h.stepB
  ·exact gh.step0 hb
  ·exact (gh.step hb).less
 | succ n ih =>
  intro h c hf gh kd hc hi
  unfold cn
  split
  ·rename_i hb
   exact fN (jC h) (gh.step0 hb) kd.step hc (jx _)
  ·rename_i hb
   have zl:h.stepB=true:=by simpa using hb
   have ho:h.over=false:=by unfold Hp.stepB at zl;simp at zl;exact zl.1
   obtain ⟨iG,gc,hp⟩:=hi ho
   have hs:h.step={ h with sh:={ h.sh with steps:=h.sh.steps+1 } }:=by
    unfold Hp.stepB at zl;simp at zl
    unfold Hp.step;rw [if_neg (by rw [ho];decide),if_neg (by omega)]
   have l:=jC h
   refine iM.from l (Df ih (l.file.trans hf) dL (gh.step zl) kd.step (by rw [l.calls];exact hc) ?_ ?_ (gc.le l) hp)
   ·rw [hs];exact ho
   ·rw [hs];exact iG
structure Mo where
 fin:Bool
 how:Int
 v:Va
 h:Hp
 cs:List aL
def zq (h:Hp) (cs:List aL):Mo:=⟨false,0,aE,h,cs⟩
def kK (how:Int) (v:Va) (h:Hp):Mo:=⟨true,how,v,h,[]⟩
def unwM (h:Hp):List aL->Mo
 | []=>kK 2 ⟨3,h.thrown⟩ h
 | c::cs=>if h.caughtL c.pc c.m.hands<0 then unwM h.leave cs
  else zq { h with thrown:=-1 } ({ c with giv:=aE,cau:=⟨3,h.thrown⟩,pc:=h.caughtL c.pc c.m.hands }::cs)
def kU (h:Hp) (v:Va):List aL->Mo
 | []=>kK 1 v h
 | c::cs=>zq h ({ c with giv:=v,cau:=aE,pc:=c.pc+1 }::cs)
def zt (h:Hp) (c:aL) (cs:List aL) (i:In):Mo :=
 if c.m.ret.kind=0 then kU h.leave aE cs
 else if h.of (c.rd i.a) c.m.ret=true then kU h.leave (c.rd i.a) cs
 else kK 6 aE h
def vJ (h:Hp) (c:aL) (cs:List aL) (i:In):Mo :=
 let m:=nth bT h.file.methods i.a.toNat
 if h.enterL (c.rds i.args m.params) m.params=false then kK 6 aE h
 else if h.deep=true then kK 5 aE h
 else zq { h with calls:=h.calls+1 } (cv m (c.rds i.args m.params)::c::cs)
def rB (d:nr) (cs:List aL):Mo :=
 if d.h.over=true then kK d.h.sh.fin aE d.h
 else if 0<=d.h.thrown then unwM d.h (d.c::cs)
 else zq d.h ({ d.c with pc:=d.nx }::cs)
def dV (h:Hp) (c:aL) (cs:List aL):Mo :=
 if ¬c.pc<c.m.code.length then kK 6 aE h
 else if (nth eR c.m.code c.pc.toNat).op=20 then zt h c cs (nth eR c.m.code c.pc.toNat)
 else if (nth eR c.m.code c.pc.toNat).op=18 then vJ h c cs (nth eR c.m.code c.pc.toNat)
 else rB (bV h c (nth eR c.m.code c.pc.toNat)) cs
def runM:Nat->Hp->List aL->Mo
 | 0,h,cs=>kK 0 aE h
 | n+1,h,[]=>kK 0 aE h
 | n+1,h,c::cs=>if h.stepB=false then kK 0 aE h
  else if (dV h.step c cs).fin=true then dV h.step c cs
  else runM n (dV h.step c cs).h (dV h.step c cs).cs
def oU (o:Mo):Sh :=
 if o.how=2 then ⟨2,0,(o.h.obj o.v.n).cls,o.h.sh.o,o.h.sh.used,o.h.sh.steps⟩
 else ⟨o.how,if o.v.kind=3 then 0 else o.v.n,0,o.h.sh.o,o.h.sh.used,o.h.sh.steps⟩
def rC (n:Nat) (h:Hp) (cs:List aL):Sh:=oU (runM n h cs)
def rD (k:Nat) (o:Mo):Sh:=if o.fin=true then oU o else rC k o.h o.cs
def jl (k:Nat) (r:Hp×Va) (cs:List aL):Sh :=
 if r.1.over=true then ⟨r.1.sh.fin,0,0,r.1.sh.o,r.1.sh.used,r.1.sh.steps⟩
 else if 0<=r.1.thrown then rD k (unwM r.1 cs)
 else rD k (kU r.1 r.2 cs)
def cG (k:Nat) (h:Hp):Prop:=h.fuel-h.sh.steps<=k
theorem ql (h:Hp) (c:aL) (i:In):Le h (bV h c i).h:=by
 have m:=fun b=>dw h b
 unfold bV
 split
 ·exact Le.refl h
 split
 ·exact m _
 split
 ·exact m _
 split
 ·unfold pQ;dsimp only;split
  ·exact (m _).trans (dw _ _)
  ·exact ((m _).trans (dw _ _)).trans (yT _ _ _ _ _)
 split
 ·unfold wL;dsimp only;split
  ·exact m _
  ·exact (m _).trans (ve _ _ _)
 split
 ·exact m _
 split
 ·unfold Fk;dsimp only;split
  ·exact m _
  ·exact (m _).trans (qP _ _)
 split
 ·exact m _
 split
 ·unfold wM;dsimp only;split
  ·exact m _
  ·exact (m _).trans (vf _ _ _)
 ·exact kh h c i
theorem zv (h:Hp) (c:aL) (i:In):(bV h c i).c.m=c.m/\(bV h c i).c.pc=c.pc/\(bV h c i).c.giv=aE:=by
 unfold bV
 split
 ·exact ⟨rfl,rfl,rfl⟩
 split
 ·exact ⟨rfl,rfl,rfl⟩
 split
 ·exact ⟨rfl,rfl,rfl⟩
 split
 ·exact ⟨rfl,rfl,rfl⟩
 split
 ·exact ⟨rfl,rfl,rfl⟩
 split
 ·unfold wN;dsimp only;split
  ·exact ⟨(ln ..).1,(ln ..).2.1,(ln ..).2.2.1⟩
  ·exact ⟨rfl,rfl,rfl⟩
 split
 ·exact ⟨rfl,rfl,rfl⟩
 split
 ·unfold wO;dsimp only;split
  ·exact ⟨(ln ..).1,(ln ..).2.1,(ln ..).2.2.1⟩
  ·exact ⟨rfl,rfl,rfl⟩
 split
 ·exact ⟨rfl,rfl,rfl⟩
 ·exact ⟨(ln ..).1,(ln ..).2.1,(ln ..).2.2.1⟩
structure Lf (h h':Hp):Prop where
 fuel:h'.fuel=h.fuel
 steps:h.sh.steps<=h'.sh.steps
theorem Lf.refl (h:Hp):Lf h h:=⟨rfl,Int.le_refl _⟩
theorem Lf.trans {a b c:Hp} (h:Lf a b) (k:Lf b c):Lf a c:=⟨k.fuel.trans h.fuel,Int.le_trans h.steps k.steps⟩
theorem Le.lf {h h':Hp} (l:Le h h'):Lf h h':=⟨l.fuel,l.steps⟩
theorem Lf.enough {h h':Hp} (l:Lf h h') {k:Nat} (e:cG k h):cG k h':=by
 have:=l.fuel;have:=l.steps;unfold cG at *;omega
theorem fL (h:Hp):Lf h h.leave:=⟨rfl,Int.le_refl _⟩
theorem unw_lf:∀(cs:List aL) (h:Hp),Lf h (unwM h cs).h
 | [],h=>Lf.refl h
 | c::cs,h=>by
  unfold unwM
  split
  ·exact (fL h).trans (unw_lf cs h.leave)
  ·exact ⟨rfl,Int.le_refl _⟩
theorem Bv (h:Hp) (v:Va) (cs:List aL):Lf h (kU h v cs).h:=by
 cases cs with
 | nil=>exact Lf.refl h
 | cons c cs =>
  exact Lf.refl h
theorem qm (h:Hp) (c:aL) (cs:List aL):Lf h (dV h c cs).h:=by
 unfold dV
 split
 ·exact Lf.refl h
 split
 ·unfold zt
  split
  ·exact (fL h).trans (Bv _ _ _)
  split
  ·exact (fL h).trans (Bv _ _ _)
  ·exact Lf.refl h
 split
 ·unfold vJ
  dsimp only
  split
  ·exact Lf.refl h
  split
  ·exact Lf.refl h
  ·exact ⟨rfl,Int.le_refl _⟩
 ·unfold rB
  have hl:=(ql h c (nth eR c.m.code c.pc.toNat)).lf
  split
  ·exact hl
  split
  ·exact hl.trans (unw_lf _ _)
  ·exact hl
theorem fW {h:Hp} (hb:h.stepB=true):h.step.sh.steps=h.sh.steps+1/\h.step.fuel=h.fuel/\h.step.over=false/\h.step.thrown=h.thrown/\h.step.file=h.file/\h.step.calls=h.calls:=by
 unfold Hp.stepB at hb
 simp at hb
 have e:h.step={ h with sh:={ h.sh with steps:=h.sh.steps+1 } }:=by
  unfold Hp.step
  rw [if_neg (by rw [hb.1];decide),if_neg (by omega)]
 rw [e]
 exact ⟨rfl,rfl,hb.1,rfl,rfl,rfl⟩
theorem lK {k:Nat} {h:Hp} (e:cG 0 h):h.stepB=false:=by
 unfold cG at e
 unfold Hp.stepB
 have:¬h.sh.steps<h.fuel:=by omega
 simp [this]
theorem fX {k:Nat} {h:Hp} (e:cG (k+1) h) (hb:h.stepB=true):cG k h.step:=by
 obtain ⟨h1,h2,-⟩:=fW hb
 unfold cG at *
 omega
theorem rE:∀(k k':Nat) (h:Hp) (cs:List aL),cG k h->cG k' h->runM k h cs=runM k' h cs
 | 0,0,h,cs,_,_=>rfl
 | 0,k'+1,h,[],_,_=>rfl
 | 0,k'+1,h,c::cs,e,_=>by
  unfold runM
  rw [if_pos (lK (k:=0) e)]
 | k+1,0,h,[],_,_=>rfl
 | k+1,0,h,c::cs,_,e=>by
  unfold runM
  rw [if_pos (lK (k:=0) e)]
 | k+1,k'+1,h,[],_,_=>rfl
 | k+1,k'+1,h,c::cs,e,e'=>by
  rw [runM,runM]
  by_cases hb:h.stepB=false
  ·rw [if_pos hb,if_pos hb]
  ·have zl:h.stepB=true:=by simpa using hb
   rw [if_neg hb,if_neg hb]
   by_cases hf:(dV h.step c cs).fin=true
   ·rw [if_pos hf,if_pos hf]
   ·rw [if_neg hf,if_neg hf]
    exact rE k k' _ _ ((qm h.step c cs).enough (fX e zl)) ((qm h.step c cs).enough (fX e' zl))
theorem Dg {k k':Nat} {o:Mo} (e:cG k o.h) (e':cG k' o.h):rD k o=rD k' o:=by
 unfold rD rC
 rw [rE k k' o.h o.cs e e']
theorem N4 {k:Nat} {h:Hp} {c:aL} {cs:List aL} (hb:h.stepB=true):rC (k+1) h (c::cs)=rD k (dV h.step c cs):=by
 unfold rC rD
 rw [runM,if_neg (by rw [hb];decide)]
 split<;>rfl
structure MY (go:Hp->aL->Hp×Va):Prop where
 lf:∀h c,Lf h (go h c).1
 none:∀h c,h.stops=false->0<=(go h c).1.thrown->(go h c).2=aE
theorem xC (h:Hp) (m:Me) (l:List Va):Lf h (h.enterH m l):=by
 unfold Hp.enterH
 split
 ·exact (gN h 6).lf
 ·split
  ·exact (gN h 5).lf
  ·exact ⟨rfl,Int.le_refl _⟩
section
variable {go:Hp->aL->Hp×Va}
theorem N5 (G:MY go) (h:Hp) (m:Me) (l:List Va):Lf h (jd go h m l).1:=by
 unfold jd
 split
 ·exact (xC h m l).trans (G.lf _ _)
 ·exact xC h m l
theorem Bw (G:MY go) (h:Hp) (c:aL) (i:In):Lf h (jB go h c i).h:=by
 unfold jB
 dsimp only
 split
 ·exact (nS c _ _ h).lf
 ·exact (nS c _ _ h).lf.trans (N5 G _ _ _)
theorem KG (G:MY go) (d:nr):Lf d.h (dM go d).1:=by
 unfold dM
 split
 ·exact fL _
 split
 ·split
  ·exact fL _
  ·refine Lf.trans ?_ (G.lf _ _)
   exact ⟨rfl,Int.le_refl _⟩
 ·exact G.lf _ _
end
theorem N6 (h:Hp) (c:aL) (i:In):Lf h (lC h c i).1:=by
 unfold lC
 split
 ·exact fL h
 ·exact ((dP h _ _ _).trans (dw _ _)).lf.trans (fL _)
section
variable {go:Hp->aL->Hp×Va}
theorem Gv (G:MY go) (h:Hp) (c:aL):Lf h (gw go h c).1:=by
 unfold gw
 split
 ·exact (dw h _).lf.trans (fL _)
 split
 ·exact N6 h c _
 ·refine Lf.trans ?_ (KG G _)
  split
  ·exact Bw G h c _
  ·exact (ql h c _).lf
theorem Dh (G:MY go) (d:nr) (ht:0<=(dM go d).1.thrown):(dM go d).2=aE:=by
 unfold dM at ht ⊢
 split
 ·rfl
 ·rename_i h1
  rw [if_neg h1] at ht
  split
  ·rename_i h2
   rw [if_pos h2] at ht
   split
   ·rfl
   ·rename_i h3
    rw [if_neg h3] at ht
    exact G.none _ _ (by simp [Hp.stops];simpa using h1) ht
  ·rename_i h2
   rw [if_neg h2] at ht
   exact G.none _ _ (by unfold Hp.stops;simp;exact ⟨by simpa using h1,by omega⟩) ht
theorem zw (G:MY go) (h:Hp) (c:aL) (hs:h.stops=false) (ht:0<=(gw go h c).1.thrown):(gw go h c).2=aE:=by
 have hn:¬0<=h.thrown:=by
  unfold Hp.stops at hs
  rw [Bool.or_eq_false_iff] at hs
  simpa using hs.2
 unfold gw at ht ⊢
 split
 ·rfl
 ·rename_i h1
  rw [if_neg h1] at ht
  split
  ·rename_i h2
   rw [if_pos h2] at ht
   unfold lC at ht ⊢
   split
   ·rfl
   ·rename_i h3
    exfalso
    rw [if_neg h3] at ht
    dsimp only [Hp.leave] at ht
    rw [jE] at ht
    unfold Hp.rdH at ht
    rw [jE] at ht
    exact hn ht
  ·rename_i h2
   rw [if_neg h2] at ht
   exact Dh G _ ht
end
theorem rF (h:Hp):Lf h h.step:=(jC h).lf
theorem rG:∀n:Nat,MY (cn n)
 | 0=>⟨fun h c=>(rF h).trans (fL _),fun h c _ _=>rfl⟩
 | n+1=>by
  have G:=rG n
  refine ⟨fun h c=>?_,fun h c e ht=>?_⟩
  ·unfold cn
   split
   ·exact (rF h).trans (fL _)
   ·exact (rF h).trans (Gv G _ _)
  ·unfold cn at ht ⊢
   split
   ·rfl
   ·rename_i h1
    rw [if_neg h1] at ht
    have hb:h.stepB=true:=by simpa using h1
    obtain ⟨-,-,s3,s4,-,-⟩:=fW hb
    refine zw G _ _ ?_ ht
    unfold Hp.stops at e ⊢
    rw [Bool.or_eq_false_iff] at e
    rw [s3,s4,e.2]
    rfl
theorem gS {k:Nat} {r:Hp×Va} {cs:List aL} (h:r.1.over=true):jl k r cs=⟨r.1.sh.fin,0,0,r.1.sh.o,r.1.sh.used,r.1.sh.steps⟩:=by unfold jl;rw [if_pos h]
theorem oV (k:Nat) (how:Int) (h:Hp) (hn:how≠2):rD k (kK how aE h)=⟨how,0,0,h.sh.o,h.sh.used,h.sh.steps⟩:=by
 unfold rD kK oU
 dsimp only
 rw [if_pos rfl,if_neg hn]
 rfl
def Sv (n:Nat):Prop:=∀(h:Hp) (c:aL),h.stops=false->cG n h->∀(k:Nat) (cs:List aL),cG k h->rC k h (c::cs)=jl k (cn n h c) cs
theorem zx {n:Nat} (S:Sv n) (d:nr) (hg:d.c.giv=aE) (ho:d.h.over=false) (ht:0<=d.h.thrown) (e:cG n d.h) (k:Nat) (cs:List aL) (ek:cG k d.h) :
  rD k (unwM d.h (d.c::cs))=jl k (dM (cn n) d) cs:=by
 unfold unwM dM
 rw [if_neg (show ¬d.h.over=true by rw [ho];decide),if_pos ht]
 by_cases hc:d.h.caughtL d.c.pc d.c.m.hands<0
 ·rw [if_pos hc,if_pos hc]
  unfold jl
  have h1:d.h.leave.over=false:=ho
  have h2:0<=d.h.leave.thrown:=ht
  dsimp only
  rw [if_neg (by rw [h1];decide),if_pos h2]
 ·rw [if_neg hc,if_neg hc]
  have hst:({ d.h with thrown:=-1 }:Hp).stops=false:=by simp [Hp.stops,ho]
  have:=S { d.h with thrown:=-1 } { d.c with cau:=⟨3,d.h.thrown⟩,pc:=d.h.caughtL d.c.pc d.c.m.hands } hst e k cs ek
  have e0:∀h cs,rD k (zq h cs)=rC k h cs:=by
   intro h cs
   unfold rD zq
   rw [if_neg (by simp)]
  rw [e0,<-hg]
  exact this
theorem Bz {n:Nat} (S:Sv n) (d:nr) (hg:d.h.over=false->0<=d.h.thrown->d.c.giv=aE) (e:cG n d.h) (k:Nat) (cs:List aL) (ek:cG k d.h) (hf:d.h.over=true->d.h.sh.fin≠2) :
  rD k (rB d cs)=jl k (dM (cn n) d) cs:=by
 unfold rB
 by_cases ho:d.h.over=true
 ·rw [if_pos ho,oV _ _ _ (hf ho)]
  have:dM (cn n) d=(d.h.leave,aE):=by unfold dM;rw [if_pos ho]
  rw [this,gS ho]
  rfl
 ·rw [if_neg ho]
  have ox:d.h.over=false:=by simpa using ho
  by_cases ht:0<=d.h.thrown
  ·rw [if_pos ht]
   exact zx S d (hg ox ht) ox ht e k cs ek
  ·rw [if_neg ht]
   have:dM (cn n) d=cn n d.h { d.c with pc:=d.nx }:=by unfold dM;rw [if_neg ho,if_neg ht]
   rw [this]
   have hst:d.h.stops=false:=by simp [Hp.stops,ox,ht]
   have:=S d.h { d.c with pc:=d.nx } hst e k cs ek
   have e0:∀h cs,rD k (zq h cs)=rC k h cs:=by
    intro h cs
    unfold rD zq
    rw [if_neg (by simp)]
   rw [e0]
   exact this
theorem iy {h:Hp} (hs:h.stops=false):h.over=false/\¬0<=h.thrown:=by
 unfold Hp.stops at hs
 rw [Bool.or_eq_false_iff] at hs
 exact ⟨hs.1,by simpa using hs.2⟩
theorem xD {k:Nat} {h:Hp} {v:Va} {cs:List aL} (hs:h.stops=false):jl k (h,v) cs=rD k (kU h v cs):=by
 obtain ⟨h1,h2⟩:=iy hs
 unfold jl
 dsimp only
 rw [if_neg (by rw [h1];decide),if_neg h2]
theorem BA {h:Hp} (h1:h.over=false) (k:Nat) (cs:List aL) (v:Va):rD k (kK 6 aE h)=jl k ((h.must false).leave,v) cs:=by
 have e1:h.must false={ h with over:=true,sh:={ h.sh with fin:=6 } }:=by simp [Hp.must,Hp.fin,h1]
 rw [e1,gS rfl,oV _ _ _ (by decide)]
 rfl
theorem KH (h:Hp) (c:aL) (i:In) (hs:h.stops=false) (k:Nat) (cs:List aL):rD k (zt h c cs i)=jl k (lC h c i) cs:=by
 obtain ⟨h1,h2⟩:=iy hs
 unfold zt lC
 by_cases hr:c.m.ret.kind=0
 ·rw [if_pos hr,if_pos hr]
  exact (xD (h:=h.leave) hs).symm
 ·rw [if_neg hr,if_neg hr]
  dsimp only
  cases ho:h.of (c.rd i.a) c.m.ret with
  | true =>
   have hk:=qj ho
   have e1:h.rdH c i.a c.m.ret.kind=h:=by unfold Hp.rdH Hp.must;rw [if_pos (decide_eq_true hk)]
   rw [if_pos rfl,e1,ho]
   have e2:h.must (!h.over&&true)=h:=by simp [Hp.must,h1]
   rw [e2]
   exact (xD (h:=h.leave) hs).symm
  | false =>
   rw [if_neg (by decide)]
   by_cases hk:(c.rd i.a).kind=c.m.ret.kind
   ·have e1:h.rdH c i.a c.m.ret.kind=h:=by unfold Hp.rdH Hp.must;rw [if_pos (decide_eq_true hk)]
    rw [e1,ho,Bool.and_false]
    exact BA h1 k cs _
   ·have e1:h.rdH c i.a c.m.ret.kind=h.must false:=by unfold Hp.rdH;rw [decide_eq_false hk]
    have e2:∀b,(h.must false).must (!(h.must false).over&&b)=h.must false:=by
     intro b
     have:(h.must false).over=true:=by simp [Hp.must,Hp.fin,h1]
     rw [this]
     simp [Hp.must,Hp.fin,h1]
    rw [e1,e2]
    exact BA h1 k cs _
theorem tI {h:Hp} {c:aL}:∀(l:List Int) (k:List Ty),h.over=false->(h.rdsH c l k).over=true->h.enterL (c.rds l k) k=false/\h.rdsH c l k=h.must false
 | [],_,h1,h2=>by unfold Hp.rdsH at h2;rw [h1] at h2;cases h2
 | _::_,[],h1,h2=>by unfold Hp.rdsH at h2;rw [h1] at h2;cases h2
 | a::l,t::k,h1,h2=>by
  unfold Hp.rdsH at h2 ⊢
  unfold aL.rds Hp.enterL
  by_cases hk:(c.rd a).kind=t.kind
  ·have e1:h.rdH c a t.kind=h:=by unfold Hp.rdH Hp.must;rw [if_pos (decide_eq_true hk)]
   rw [e1] at h2 ⊢
   obtain ⟨r1,r2⟩:=tI l k h1 h2
   rw [r1,r2]
   exact ⟨Bool.and_false _,rfl⟩
  ·have e1:h.rdH c a t.kind=h.must false:=by unfold Hp.rdH;rw [decide_eq_false hk]
   have eo:h.of (c.rd a) t=false:=by
    cases hx:h.of (c.rd a) t
    ·rfl
    ·exact absurd (qj hx) hk
   refine ⟨by rw [eo];rfl,?_⟩
   rw [e1]
   have cY:(h.must false).over=true:=by simp [Hp.must,Hp.fin,h1]
   have key:∀(l:List Int) (k:List Ty),(h.must false).rdsH c l k=h.must false:=by
    intro l
    induction l with
    | nil=>intro k;rfl
    | cons b l ih =>
     intro k
     cases k with
     | nil=>rfl
     | cons t k =>
      show ((h.must false).rdH c b t.kind).rdsH c l k=_
      have:(h.must false).rdH c b t.kind=h.must false:=by
       unfold Hp.rdH
       generalize decide ((c.rd b).kind=t.kind)=q
       cases q
       ·rw [show (h.must false).must false=(h.must false).fin 6 from rfl,Hp.fin,if_pos cY]
       ·rfl
      rw [this];exact ih k
   exact key l k
theorem nU {go:Hp->aL->Hp×Va} {d:nr} (ho:d.h.over=true) {k:Nat} {cs:List aL}:jl k (dM go d) cs=⟨d.h.sh.fin,0,0,d.h.sh.o,d.h.sh.used,d.h.sh.steps⟩:=by
 have:dM go d=(d.h.leave,aE):=by unfold dM;rw [if_pos ho]
 rw [this,gS ho]
 rfl
theorem Gw {n:Nat} (S:Sv n) (h:Hp) (c:aL) (i:In) (hs:h.stops=false) (e:cG n h) (k:Nat) (cs:List aL) (ek:cG k h) :
  rD k (vJ h c cs i)=jl k (dM (cn n) (jB (cn n) h c i)) cs:=by
 obtain ⟨h1,h2⟩:=iy hs
 have G:=rG n
 unfold vJ jB
 dsimp only
 generalize hm:nth bT h.file.methods i.a.toNat=m
 cases hv:(h.rdsH c i.args m.params).over with
 | true =>
  obtain ⟨r1,r2⟩:=tI i.args m.params h1 hv
  rw [if_pos r1,if_pos rfl,r2]
  have e1:h.must false={ h with over:=true,sh:={ h.sh with fin:=6 } }:=by simp [Hp.must,Hp.fin,h1]
  rw [e1,nU rfl,oV _ _ _ (by decide)]
 | false =>
  rw [qk c i.args m.params hv,if_neg (show ¬(false=true) by decide)]
  cases hl:h.enterL (c.rds i.args m.params) m.params with
  | false =>
   rw [if_pos rfl]
   have e2:jd (cn n) h m (c.rds i.args m.params)=({ h with over:=true,sh:={ h.sh with fin:=6 } },aE):=by
    simp [jd,Hp.enterB,Hp.enterH,hl,Hp.fin,h1]
   rw [e2,nU rfl,oV _ _ _ (by decide)]
  | true =>
   rw [if_neg (by decide)]
   cases hd:h.deep with
   | true =>
    rw [if_pos rfl]
    have e2:jd (cn n) h m (c.rds i.args m.params)=({ h with over:=true,sh:={ h.sh with fin:=5 } },aE):=by
     simp [jd,Hp.enterB,Hp.enterH,hl,hd,Hp.fin,h1]
    rw [e2,nU rfl,oV _ _ _ (by decide)]
   | false =>
    rw [if_neg (by decide)]
    have e2:jd (cn n) h m (c.rds i.args m.params)=cn n { h with calls:=h.calls+1 } (cv m (c.rds i.args m.params)):=by
     simp [jd,Hp.enterB,Hp.enterH,hl,hd]
    rw [e2]
    have hst:({ h with calls:=h.calls+1 }:Hp).stops=false:=hs
    have IH:=S { h with calls:=h.calls+1 } (cv m (c.rds i.args m.params)) hst e k (c::cs) ek
    have e3:rD k (zq { h with calls:=h.calls+1 } (cv m (c.rds i.args m.params)::c::cs))=rC k { h with calls:=h.calls+1 } (cv m (c.rds i.args m.params)::c::cs):=by
     unfold rD zq;rw [if_neg (by simp)]
    rw [e3,IH]
    clear e3 IH
    have KI:=G.lf { h with calls:=h.calls+1 } (cv m (c.rds i.args m.params))
    have KJ:=G.none { h with calls:=h.calls+1 } (cv m (c.rds i.args m.params)) hst
    have KK:Lf h (cn n { h with calls:=h.calls+1 } (cv m (c.rds i.args m.params))).1:=⟨KI.fuel,KI.steps⟩
    generalize cn n { h with calls:=h.calls+1 } (cv m (c.rds i.args m.params))=r at KI KJ KK
    obtain ⟨rh,rv⟩:=r
    dsimp only at KI KJ KK ⊢
    have er:=KK.enough e
    have YI:=KK.enough ek
    by_cases MG:rh.over=true
    ·rw [gS MG,nU MG]
    ·have YJ:rh.over=false:=by simpa using MG
     have:=Bz S ⟨rh,{ c.clr with giv:=rv },c.pc+1⟩ (fun _ ht=>KJ ht) er k cs YI (fun q=>absurd q MG)
     rw [<-this]
     unfold jl rB
     dsimp only
     rw [if_neg MG,if_neg MG]
     by_cases Qy:0<=rh.thrown
     ·rw [if_pos Qy,if_pos Qy,KJ Qy]
      rfl
     ·rw [if_neg Qy,if_neg Qy]
      rfl
def Gx (h:Hp):Prop:=h.over=true->h.sh.fin≠2
theorem Gy:Safe Gx :=
 ⟨fun h e he p=>by
   unfold Hp.fin;split
   ·exact p
   ·intro _;show e≠2;omega,
  fun h o p=>p,fun h t p=>p,fun h n p=>p,fun h p=>p⟩
theorem xE (h:Hp) (c:aL) (i:In) (hf:Gx h):Gx (bV h c i).h:=Gy.does hf c i
theorem BB:∀n:Nat,Sv n
 | 0=>by
  intro h c hs e k cs ek
  have hb:=lK (k:=0) e
  obtain ⟨h1,h2⟩:=iy hs
  have hf:h.fuel<=h.sh.steps:=by unfold cG at e;omega
  have es:h.step={ h with over:=true,sh:={ h.sh with fin:=0 } }:=by
   unfold Hp.step Hp.fin
   rw [if_neg (by rw [h1];decide),if_pos hf,if_neg (by rw [h1];decide)]
  have el:cn 0 h c=(h.step.leave,aE):=rfl
  rw [el,es,gS rfl]
  cases k with
  | zero=>rfl
  | succ k =>
   unfold rC
   rw [runM,if_pos hb]
   rfl
 | n+1=>by
  have S:=BB n
  intro h c hs e k cs ek
  obtain ⟨h1,h2⟩:=iy hs
  cases hb:h.stepB with
  | false =>
   have hf:h.fuel<=h.sh.steps:=by
    unfold Hp.stepB at hb
    simp [h1] at hb
    exact hb
   have es:h.step={ h with over:=true,sh:={ h.sh with fin:=0 } }:=by
    unfold Hp.step Hp.fin
    rw [if_neg (by rw [h1];decide),if_pos hf,if_neg (by rw [h1];decide)]
   have el:cn (n+1) h c=(h.step.leave,aE):=by rw [cn,if_pos hb]
   rw [el,es,gS rfl]
   cases k with
   | zero=>rfl
   | succ k =>
    unfold rC
    rw [runM,if_pos hb]
    rfl
  | true =>
   have el:cn (n+1) h c=gw (cn n) h.step c:=by rw [cn,if_neg (by rw [hb];decide)]
   obtain ⟨k',hk⟩:∃k',k=k'+1:=by
    cases k with
    | zero=>rw [lK (k:=0) ek] at hb;exact absurd hb (by decide)
    | succ k=>exact ⟨k,rfl⟩
   subst hk
   rw [el,N4 hb]
   have e1:=fX e hb
   have YK:=fX ek hb
   obtain ⟨-,-,s3,s4,-,-⟩:=fW hb
   have C9:h.step.stops=false:=by
    unfold Hp.stops
    rw [s3,s4]
    simpa using h2
   generalize h.step=hh at *
   have TV:cG (k'+1) hh:=by unfold cG at *;omega
   have up:∀(o:Mo),Lf hh o.h->rD k' o=rD (k'+1) o:=fun o l=>Dg (l.enough YK) (l.enough TV)
   rw [up _ (qm hh c cs)]
   unfold dV gw
   by_cases hp:c.pc<c.m.code.length
   ·rw [if_neg (by simpa using hp)]
    have MR:¬(hh.mustB (decide (c.pc<c.m.code.length))=false):=by simp [Hp.mustB,hp,s3]
    rw [if_neg MR]
    by_cases kV:(nth eR c.m.code c.pc.toNat).op=20
    ·rw [if_pos kV,if_pos kV]
     exact KH hh c _ C9 (k'+1) cs
    ·rw [if_neg kV,if_neg kV]
     by_cases oW:(nth eR c.m.code c.pc.toNat).op=18
     ·rw [if_pos oW,if_pos oW]
      exact Gw S hh c _ C9 e1 (k'+1) cs TV
     ·rw [if_neg oW,if_neg oW]
      have hl:=(ql hh c (nth eR c.m.code c.pc.toNat)).lf
      exact Bz S _ (fun _ _=>(zv hh c _).2.2) (hl.enough e1) (k'+1) cs (hl.enough TV) (xE hh c _ (fun q=>by rw [s3] at q;exact absurd q (by decide)))
   ·rw [if_pos (by simpa using hp)]
    have MR:hh.mustB (decide (c.pc<c.m.code.length))=false:=by simp [Hp.mustB,hp]
    rw [if_pos MR]
    have e2:hh.must (decide (c.pc<c.m.code.length))={ hh with over:=true,sh:={ hh.sh with fin:=6 } }:=by simp [Hp.must,Hp.fin,hp,s3]
    rw [e2,gS rfl,oV _ _ _ (by decide)]
    rfl
theorem Gc.objs {h h':Hp} {c:aL} (g:Gc h c) (e1:h'.objs=h.objs) (e2:h'.file=h.file):Gc h' c :=
 ⟨⟨fun e=>by rw [e1];exact g.giv.ref e,g.giv.num⟩,⟨fun e=>by rw [e1];exact g.cau.ref e,g.cau.num⟩,fun v hv=>⟨fun e=>by rw [e1];exact (g.locs v hv).ref e,(g.locs v hv).num⟩,g.ok,g.len,by rw [e2];exact g.me,g.mok⟩
def IC (h:Hp) (cs:List aL):Prop:=∀c∈cs,Gc h c/\0<=c.pc/\c.pc<c.m.code.length
theorem IC.objs {h h':Hp} {cs:List aL} (g:IC h cs) (e1:h'.objs=h.objs) (e2:h'.file=h.file):IC h' cs:=fun c hc=>⟨(g c hc).1.objs e1 e2,(g c hc).2⟩
theorem IC.le {h h':Hp} {cs:List aL} (g:IC h cs) (l:Le h h'):IC h' cs:=fun c hc=>⟨(g c hc).1.le l,(g c hc).2⟩
structure IM (f:Fi) (inp:List Int) (h:Hp) (cs:List aL):Prop where
 file:h.file=f
 input:h.input=inp
 may:nR f
 gh:Gh 0 h
 kd:Kd h
 over:h.over=false
 thr:h.thrown=-1
 calls:h.calls=cs.length
 ex:∃c cs',cs=c::cs'/\Gc h c/\0<=c.pc/\c.pc<=c.m.code.length/\IC h cs'
theorem unw_inv (f:Fi) (inp:List Int) (dL:nR f):∀(cs:List aL) (h:Hp),h.file=f->h.input=inp->Gh 0 h->Kd h->h.over=false->0<=h.thrown->h.calls=cs.length->IC h cs->(unwM h cs).fin=false->IM f inp (unwM h cs).h (unwM h cs).cs/\(unwM h cs).h.sh=h.sh/\(unwM h cs).h.fuel=h.fuel
 | [],h,_,_,_,_,_,_,_,_,hfin=>by cases hfin
 | c::cs,h,hf,sJ,gh,kd,ho,ht,hc,hI,hfin=>by
  have hg:=hI c List.mem_cons_self
  have hlen:h.calls=(cs.length:Int)+1:=by rw [hc];simp
  by_cases hcl:h.caughtL c.pc c.m.hands<0
  ·have e:unwM h (c::cs)=unwM h.leave cs:=if_pos hcl
   rw [e] at hfin ⊢
   have yG:=gh.calls
   have gl:Gh 0 h.leave:=⟨fun o ho x hx=>⟨fun e=>(gh.held o ho x hx).ref e,(gh.held o ho x hx).num⟩,gh.thr,gh.used,gh.steps,gh.fuel,gh.o,gh.len,gh.inp,by show 0<=h.calls-1/\h.calls-1<=20;omega⟩
   exact unw_inv f inp dL cs h.leave hf sJ gl (kd.same rfl rfl) ho ht (by show h.calls-1=_;omega) (IC.objs (fun x hx=>hI x (List.mem_cons_of_mem _ hx)) rfl rfl) hfin
  ·have e:unwM h (c::cs)=zq { h with thrown:=-1 } ({ c with giv:=aE,cau:=⟨3,h.thrown⟩,pc:=h.caughtL c.pc c.m.hands }::cs):=by
    show (if _ then _ else _)=_
    rw [if_neg hcl]
   rw [e]
   have gt:Gh 0 { h with thrown:=-1 }:=gh.same rfl rfl rfl rfl rfl rfl rfl ⟨by dsimp only;omega,by dsimp only;omega⟩
   have g1:=hg.1.objs (h':={ h with thrown:=-1 }) rfl rfl
   have h1:=l8 (h:=h) (pc:=c.pc) (n:=c.m.code.length) (k:=h.file.classes.length) c.m.hands (j6 hg.1.me).2.2.2.2.2.2.2.2.1
   refine ⟨⟨hf,sJ,dL,gt,kd.same rfl rfl,ho,rfl,by show h.calls=_;rw [hc];simp [zq],_,cs,rfl,⟨jx _,?_,g1.locs,g1.ok,g1.len,g1.me,g1.mok⟩,by show 0<=h.caughtL c.pc c.m.hands;omega,by show h.caughtL c.pc c.m.hands<=c.m.code.length;omega,IC.objs (fun x hx=>hI x (List.mem_cons_of_mem _ hx)) rfl rfl⟩,rfl,rfl⟩
   exact ⟨fun _=>⟨by dsimp only;omega,gh.thr.2⟩,by have:=gh.thr;have:=gh.len;dsimp only;unfold cJ;omega⟩
theorem xF {f:Fi} {inp:List Int} {h:Hp} {c:aL} {cs:List aL} (hf:h.file=f) (oX:h.input=inp) (dL:nR f) (gh:Gh 1 h) (kd:Kd h) (ho:h.over=false) (iG:h.thrown=-1) (hc:h.calls=(c::cs).length) (gc:Gc h c) (hp:0<=c.pc/\c.pc<=c.m.code.length) (hI:IC h cs) (hfin:(dV h c cs).fin=false) :
  IM f inp (dV h c cs).h (dV h c cs).cs:=by
 have hlen:h.calls=(cs.length:Int)+1:=by rw [hc];simp
 have yG:=gh.calls
 unfold dV at hfin ⊢
 by_cases hlt:c.pc<c.m.code.length
 ·rw [if_neg (by simpa using hlt)] at hfin ⊢
  obtain ⟨ok,iok⟩:=nT gc ⟨hp.1,hlt⟩
  generalize sJ:nth eR c.m.code c.pc.toNat=i at *
  by_cases kV:i.op=20
  ·rw [if_pos kV] at hfin ⊢
   have gl:Gh 0 h.leave:=⟨fun o ho x hx=>⟨fun e=>(gh.held o ho x hx).ref e,(gh.held o ho x hx).num⟩,gh.thr,gh.used,gh.steps,gh.fuel,by have:=gh.o;show (h.sh.o.length:Int)+((0:Nat):Int)<=h.sh.steps;omega,gh.len,gh.inp,by show 0<=h.calls-1/\h.calls-1<=20;omega⟩
   have MZ:∀v,jw h v->(kU h.leave v cs).fin=false->IM f inp (kU h.leave v cs).h (kU h.leave v cs).cs:=fun v gv TW=>by
    cases cs with
    | nil=>cases TW
    | cons c2 TX =>
     have h2:=hI c2 List.mem_cons_self
     have hr:IC h.leave TX:=IC.objs (fun x hx=>hI x (List.mem_cons_of_mem _ hx)) rfl rfl
     have hcl:h.leave.calls=((c2::TX).length:Int):=by show h.calls-1=_;omega
     have h3:=h2.1.objs (h':=h.leave) rfl rfl
     exact ⟨hf,oX,dL,gl,kd.same rfl rfl,ho,iG,hcl,_,TX,rfl,⟨⟨fun e=>gv.ref e,gv.num⟩,jx _,h3.locs,h3.ok,h3.len,h3.me,h3.mok⟩,by show 0<=c2.pc+1;have:=h2.2.1;omega,by show c2.pc+1<=c2.m.code.length;have:=h2.2.2;omega,hr⟩
   unfold zt at hfin ⊢
   by_cases wF:c.m.ret.kind=0
   ·rw [if_pos wF] at hfin ⊢;exact MZ _ (jx _) hfin
   ·rw [if_neg wF] at hfin ⊢
    by_cases l9:h.of (c.rd i.a) c.m.ret=true
    ·rw [if_pos l9] at hfin ⊢;exact MZ _ (gc.rd (ok.ret kV wF)) hfin
    ·rw [if_neg l9] at hfin;cases hfin
  ·rw [if_neg kV] at hfin ⊢
   by_cases oW:i.op=18
   ·rw [if_pos oW] at hfin ⊢
    unfold vJ at hfin ⊢
    dsimp only at hfin ⊢
    obtain ⟨c1,c2,c3⟩:=ok.call oW
    have iL:=(hf▸dL:nR h.file).2 _ (bE (d:=bT) (i:=i.a.toNat) (by omega:i.a.toNat<h.file.methods.length))
    generalize hM:nth bT h.file.methods i.a.toNat=m at *
    by_cases he:h.enterL (c.rds i.args m.params) m.params=false
    ·rw [if_pos he] at hfin;cases hfin
    rw [if_neg he] at hfin ⊢
    by_cases hd:h.deep=true
    ·rw [if_pos hd] at hfin;cases hfin
    rw [if_neg hd] at hfin ⊢
    have PO:h.calls<20:=by unfold Hp.deep at hd;simp at hd;exact hd
    have g2:Gh 0 { h with calls:=h.calls+1 }:=⟨fun o ho x hx=>⟨fun e=>(gh.held o ho x hx).ref e,(gh.held o ho x hx).num⟩,gh.thr,gh.used,gh.steps,gh.fuel,by have:=gh.o;show (h.sh.o.length:Int)+((0:Nat):Int)<=h.sh.steps;omega,gh.len,gh.inp,by show 0<=h.calls+1/\h.calls+1<=20;omega⟩
    have gn:Gc h (cv m (c.rds i.args m.params)):=nQ iL.1 iL.2 (dG c _ _ c3) (vI gc _ _ (ok.args oW)) (by simpa using he)
    refine ⟨hf,oX,dL,g2,kd.same rfl rfl,ho,iG,by show h.calls+1=_;rw [hc];simp [zq],_,c::cs,rfl,gn.objs rfl rfl,Int.le_refl _,by show (0:Int)<=m.code.length;omega,?_⟩
    intro x hx
    rcases List.mem_cons.1 hx with rfl|hx
    ·exact ⟨gc.objs rfl rfl,hp.1,hlt⟩
    ·exact (IC.objs (h':={ h with calls:=h.calls+1 }) hI rfl rfl) x hx
   ·rw [if_neg oW] at hfin ⊢
    have k:=kj gh kd gc ho iG (hf▸dL:nR h.file).1 ok iok oW kV ⟨hp.1,hlt⟩
    generalize bV h c i=d at *
    unfold rB at hfin ⊢
    by_cases cY:d.h.over=true
    ·rw [if_pos cY] at hfin;cases hfin
    rw [if_neg cY] at hfin ⊢
    have sY:d.h.over=false:=by simpa using cY
    have gd:=k.gc sY
    have Qz:d.h.calls=((d.c::cs).length:Int):=by rw [k.le.calls,hlen];simp
    by_cases zy:0<=d.h.thrown
    ·rw [if_pos zy] at hfin ⊢
     refine (unw_inv f inp dL (d.c::cs) d.h (k.le.file.trans hf) (k.le.input.trans oX) k.gh k.kd sY zy Qz ?_ hfin).1
     intro x hx
     rcases List.mem_cons.1 hx with rfl|hx
     ·exact ⟨gd,by rw [k.pc];exact hp.1,by rw [k.pc,k.m];exact hlt⟩
     ·exact hI.le k.le x hx
    ·rw [if_neg zy] at hfin ⊢
     have St:d.h.thrown=-1:=by have:=k.gh.thr;omega
     exact ⟨k.le.file.trans hf,k.le.input.trans oX,dL,k.gh,k.kd,sY,St,Qz,_,cs,rfl,gd.pc _,k.nx.1,by show d.nx<=d.c.m.code.length;rw [k.m];exact k.nx.2,hI.le k.le⟩
 ·rw [if_pos hlt] at hfin
  cases hfin
def BC (h:Hp):Prop:=h.over=true->h.sh.fin≠2
theorem rH {h:Hp} (n:BC h) (c:aL) (i:In):BC (bV h c i).h:=xE h c i n
theorem Di {h:Hp} (ht:h.thrown=-1) (c:aL) (i:In) (hx:0<=(bV h c i).h.thrown):(bV h c i).c.locs=c.locs:=by
 unfold bV at hx ⊢
 split
 ·rfl
 split
 ·rfl
 split
 ·rfl
 split
 ·rfl
 split
 ·rfl
 split
 ·rename_i h1 h2 h3 h4 h5 h6
  rw [if_neg h1,if_neg h2,if_neg h3,if_neg h4,if_neg h5,if_pos h6] at hx
  unfold wN at hx
  dsimp only at hx
  rw [jE,ht] at hx
  omega
 split
 ·rfl
 split
 ·rename_i h1 h2 h3 h4 h5 h6 h7 h8
  rw [if_neg h1,if_neg h2,if_neg h3,if_neg h4,if_neg h5,if_neg h6,if_neg h7,if_pos h8] at hx
  unfold wO at hx
  dsimp only at hx
  rw [jE,ht] at hx
  omega
 split
 ·rfl
 ·rename_i h1 h2 h3 h4 h5 h6 h7 h8 h9
  rw [if_neg h1,if_neg h2,if_neg h3,if_neg h4,if_neg h5,if_neg h6,if_neg h7,if_neg h8,if_neg h9] at hx
  unfold yO at hx ⊢
  dsimp only at hx ⊢
  unfold mN
  rw [if_pos (by unfold Hp.stops;simp [hx])]
  rfl
theorem unw_same {h:Hp} {c c':aL} {cs:List aL} (e1:c'.m=c.m) (e2:c'.pc=c.pc) (e3:c'.locs=c.locs):unwM h (c'::cs)=unwM h (c::cs):=by
 show (if _ then _ else _)=(if _ then _ else _)
 rw [e1,e2,e3]
theorem ma (h:Hp):∀(vs:List Va) (ts:List Ty),vs.length=ts.length->(h.enterL vs ts=true↔∀k,k<ts.length->h.of (nth aE vs k) (nth bS ts k)=true)
 | [],[],_=>⟨fun _ k hk=>absurd hk (Nat.not_lt_zero _),fun _=>rfl⟩
 | [],t::ts,e=>by simp at e
 | v::vs,[],e=>by simp at e
 | v::vs,t::ts,e=>by
  have ih:=ma h vs ts (by simpa using e)
  show (h.of v t&&h.enterL vs ts)=true↔_
  rw [Bool.and_eq_true,ih]
  constructor
  ·rintro ⟨a,b⟩ k hk
   cases k with
   | zero=>exact a
   | succ k=>exact b k (by simpa using hk)
  ·intro a
   exact ⟨a 0 (by simp),fun k hk=>a (k+1) (by simpa using hk)⟩
structure Ed (f:Fi) (inp:List Int) (o:Mo):Prop where
 file:o.h.file=f
 input:o.h.input=inp
 len:o.h.objs.length<=100
 thr:o.how=2->o.v.kind=3/\0<=o.v.n/\o.v.n<o.h.objs.length
theorem lL {f:Fi} {inp:List Int} {h:Hp} (hf:h.file=f) (hi:h.input=inp) (hl:h.objs.length<=100) {how:Int} (hn:how≠2) (v:Va):Ed f inp (kK how v h):=⟨hf,hi,hl,fun e=>absurd e hn⟩
theorem unw_ed (f:Fi) (inp:List Int):∀(cs:List aL) (h:Hp),h.file=f->h.input=inp->h.objs.length<=100->0<=h.thrown/\h.thrown<h.objs.length->(unwM h cs).fin=true->Ed f inp (unwM h cs)
 | [],h,hf,hi,hl,ht,_=>⟨hf,hi,hl,fun _=>⟨rfl,ht.1,ht.2⟩⟩
 | c::cs,h,hf,hi,hl,ht,hfin=>by
  by_cases hcl:h.caughtL c.pc c.m.hands<0
  ·have e:unwM h (c::cs)=unwM h.leave cs:=if_pos hcl
   rw [e] at hfin ⊢
   exact unw_ed f inp cs h.leave hf hi hl ht hfin
  ·have e:unwM h (c::cs)=zq { h with thrown:=-1 } ({ c with giv:=aE,cau:=⟨3,h.thrown⟩,pc:=h.caughtL c.pc c.m.hands }::cs):=by
    show (if _ then _ else _)=_
    rw [if_neg hcl]
   rw [e] at hfin
   cases hfin
section
variable {f:Fi} {inp:List Int}
theorem BD {h:Hp} (hf:h.file=f) (hi:h.input=inp) (hl:h.objs.length<=100) (v:Va) (cs:List aL) (hfin:(kU h v cs).fin=true):Ed f inp (kU h v cs):=by
 cases cs with
 | nil=>exact lL hf hi hl (by decide) _
 | cons c cs =>
  cases hfin
theorem KL {h:Hp} {c:aL} {cs:List aL} (hf:h.file=f) (oX:h.input=inp) (gh:Gh 1 h) (kd:Kd h) (mc:xA h.file.classes) (ho:h.over=false) (iG:h.thrown=-1) (gc:Gc h c) (hp:0<=c.pc/\c.pc<=c.m.code.length) (hfin:(dV h c cs).fin=true) :
  Ed f inp (dV h c cs):=by
 unfold dV at hfin ⊢
 by_cases hlt:c.pc<c.m.code.length
 ·rw [if_neg (by simpa using hlt)] at hfin ⊢
  obtain ⟨ok,iok⟩:=nT gc ⟨hp.1,hlt⟩
  generalize sJ:nth eR c.m.code c.pc.toNat=i at *
  by_cases kV:i.op=20
  ·rw [if_pos kV] at hfin ⊢
   unfold zt at hfin ⊢
   by_cases wF:c.m.ret.kind=0
   ·rw [if_pos wF] at hfin ⊢;exact BD (h:=h.leave) hf oX gh.len _ _ hfin
   ·rw [if_neg wF] at hfin ⊢
    by_cases l9:h.of (c.rd i.a) c.m.ret=true
    ·rw [if_pos l9] at hfin ⊢;exact BD (h:=h.leave) hf oX gh.len _ _ hfin
    ·rw [if_neg l9];exact lL hf oX gh.len (by decide) _
  ·rw [if_neg kV] at hfin ⊢
   by_cases oW:i.op=18
   ·rw [if_pos oW] at hfin ⊢
    unfold vJ at hfin ⊢
    dsimp only at hfin ⊢
    generalize hM:nth bT h.file.methods i.a.toNat=m at *
    by_cases he:h.enterL (c.rds i.args m.params) m.params=false
    ·rw [if_pos he];exact lL hf oX gh.len (by decide) _
    rw [if_neg he] at hfin ⊢
    by_cases hd:h.deep=true
    ·rw [if_pos hd];exact lL hf oX gh.len (by decide) _
    rw [if_neg hd] at hfin
    cases hfin
   ·rw [if_neg oW] at hfin ⊢
    have k:=kj gh kd gc ho iG mc ok iok oW kV ⟨hp.1,hlt⟩
    have hnt:BC (bV h c i).h:=rH (fun e=>by rw [ho] at e;cases e) c i
    generalize bV h c i=d at *
    have hl:=k.gh.len
    unfold rB at hfin ⊢
    by_cases cY:d.h.over=true
    ·rw [if_pos cY];exact lL (k.le.file.trans hf) (k.le.input.trans oX) hl (hnt cY) _
    rw [if_neg cY] at hfin ⊢
    by_cases zy:0<=d.h.thrown
    ·rw [if_pos zy] at hfin ⊢
     exact unw_ed f inp (d.c::cs) d.h (k.le.file.trans hf) (k.le.input.trans oX) hl ⟨zy,k.gh.thr.2⟩ hfin
    ·rw [if_neg zy] at hfin;cases hfin
 ·rw [if_pos (by simpa using hlt)];exact lL hf oX gh.len (by decide) _
theorem Gz:∀(n:Nat) (h:Hp) (cs:List aL),IM f inp h cs->Ed f inp (runM n h cs)/\(runM n h cs).fin=true
 | 0,h,cs,im=>⟨lL im.file im.input im.gh.len (by decide) _,rfl⟩
 | n+1,h,[],im=>by obtain ⟨c,cs,e,-⟩:=im.ex;cases e
 | n+1,h,c::cs,im=>by
  obtain ⟨c',cs',e,gc,J6,pP,hI⟩:=im.ex
  simp only [List.cons.injEq] at e
  obtain ⟨rfl,rfl⟩:=e
  rw [runM]
  cases hb:h.stepB with
  | false=>rw [if_pos rfl];exact ⟨lL im.file im.input im.gh.len (by decide) _,rfl⟩
  | true =>
   rw [if_neg (by decide)]
   obtain ⟨q1,q2,q3,q4,q5,q6⟩:=fW hb
   have sl:=jC h
   have QA:=im.gh.step hb
   by_cases hfin:(dV h.step c cs).fin=true
   ·rw [if_pos hfin]
    exact ⟨KL (q5.trans im.file) (sl.input.trans im.input) QA im.kd.step (by rw [q5,im.file];exact im.may.1) q3 (q4.trans im.thr) (gc.le sl) ⟨J6,pP⟩ hfin,hfin⟩
   ·rw [if_neg hfin]
    exact Gz n _ _ (xF (q5.trans im.file) (sl.input.trans im.input) im.may QA im.kd.step q3 (q4.trans im.thr) (q6.trans im.calls) (gc.le sl) ⟨J6,pP⟩ (hI.le sl) (by simpa using hfin))
end
def VZ (h:Hp):Prop:=h.sh.value=0/\h.sh.cls=0
theorem BF:Safe VZ:=⟨fun h e _ p=>by unfold Hp.fin;split<;>exact p,fun h o p=>p,fun h t p=>p,fun h n p=>p,fun h p=>p⟩
theorem VZ.fin {h:Hp} (hf:VZ h) (e:Int):VZ (h.fin e):=by
 unfold Hp.fin
 split
 ·exact hf
 ·exact hf
theorem VZ.must {h:Hp} (hf:VZ h) (b:Bool):VZ (h.must b):=BF.must hf b
theorem KM (h:Hp) (c:aL) (i:In) (hf:VZ h):VZ (bV h c i).h:=BF.does hf c i
def QB (go:Hp->aL->Hp×Va):Prop:=∀h c,VZ h->VZ (go h c).1
theorem VZ.enter {h:Hp} (hf:VZ h) (m:Me) (l:List Va):VZ (h.enterH m l):=by
 unfold Hp.enterH
 split
 ·exact hf.fin _
 ·split
  ·exact hf.fin _
  ·exact hf
theorem N7 {go:Hp->aL->Hp×Va} (G:QB go) {h:Hp} (hf:VZ h) (m:Me) (l:List Va):VZ (jd go h m l).1:=by
 unfold jd
 split
 ·exact G _ _ (hf.enter m l)
 ·exact hf.enter m l
theorem zz (c:aL):∀(l:List Int) (k:List Ty) {h:Hp},VZ h->VZ (h.rdsH c l k)
 | [],_,h,g=>g
 | _::_,[],h,g=>g
 | a::l,t::k,h,g=>zz c l k (VZ.must g _)
theorem KN {go:Hp->aL->Hp×Va} (G:QB go) {h:Hp} (hf:VZ h) (c:aL) (i:In):VZ (jB go h c i).h:=by
 unfold jB
 dsimp only
 split
 ·exact zz c _ _ hf
 ·exact N7 G (zz c _ _ hf) _ _
theorem KO {go:Hp->aL->Hp×Va} (G:QB go) (d:nr) (hf:VZ d.h):VZ (dM go d).1:=by
 unfold dM
 split
 ·exact hf
 split
 ·split
  ·exact hf
  ·exact G _ _ (show VZ { d.h with thrown:=-1 } from hf)
 ·exact G _ _ hf
theorem N8 {h:Hp} (hf:VZ h) (c:aL) (i:In):VZ (lC h c i).1:=by
 unfold lC
 split
 ·exact hf
 ·exact (hf.must _).must _
theorem GA {go:Hp->aL->Hp×Va} (G:QB go) {h:Hp} (hf:VZ h) (c:aL):VZ (gw go h c).1:=by
 unfold gw
 split
 ·exact hf.must _
 split
 ·exact N8 hf c _
 ·apply KO G
  split
  ·exact KN G hf c _
  ·exact KM h c _ hf
theorem VZ.step {h:Hp} (hf:VZ h):VZ h.step:=by
 unfold Hp.step
 split
 ·exact hf
 ·split
  ·exact hf.fin _
  ·exact hf
theorem BG:∀n:Nat,QB (cn n)
 | 0=>fun h c hf=>hf.step
 | n+1=>fun h c hf=>by
  unfold cn
  split
  ·exact hf.step
  ·exact GA (BG n) hf.step c
def TY (n:Nat) (go:Hp->aL->Hp×Va):Prop:=∀h c,cG n h->(go h c).1.stops=false->(go h c).2.kind=c.m.ret.kind/\(c.m.ret.kind=0->(go h c).2.n=0)
theorem zA {h:Hp} {b:Bool} (ho:(h.must b).leave.stops=false) (hb:h.over=false):b=true:=by
 cases b with
 | true=>rfl
 | false=>simp [Hp.must,Hp.fin,hb,Hp.stops,Hp.leave] at ho
theorem N9 {n:Nat} {go:Hp->aL->Hp×Va} (G:TY n go) (d:nr) (e:cG n d.h) (hs:(dM go d).1.stops=false):(dM go d).2.kind=d.c.m.ret.kind/\(d.c.m.ret.kind=0->(dM go d).2.n=0):=by
 unfold dM at hs ⊢
 split
 ·rename_i h1
  rw [if_pos h1] at hs
  simp [Hp.stops,Hp.leave,h1] at hs
 ·rename_i h1
  rw [if_neg h1] at hs
  split
  ·rename_i h2
   rw [if_pos h2] at hs
   split
   ·rename_i h3
    rw [if_pos h3] at hs
    have:(d.h.leave,aE).1.stops=true:=by simp [Hp.stops,Hp.leave,h2]
    rw [this] at hs
    exact absurd hs (by decide)
   ·rename_i h3
    rw [if_neg h3] at hs
    exact G _ _ e hs
  ·rename_i h2
   rw [if_neg h2] at hs
   exact G _ _ e hs
theorem QC (h:Hp) (c:aL) (i:In) (ho:h.over=false) (hs:(lC h c i).1.stops=false):(lC h c i).2.kind=c.m.ret.kind/\(c.m.ret.kind=0->(lC h c i).2.n=0):=by
 unfold lC at hs ⊢
 split
 ·rename_i h1;exact ⟨h1.symm,fun _=>rfl⟩
 ·rename_i h1
  rw [if_neg h1] at hs
  dsimp only at hs ⊢
  have Sr:(h.rdH c i.a c.m.ret.kind).over=false:=by
   cases hx:(h.rdH c i.a c.m.ret.kind).over with
   | false=>rfl
   | true =>
    exfalso
    rw [hx] at hs
    simp [Hp.must,Hp.fin,hx,Hp.stops,Hp.leave] at hs
  exact ⟨(oP Sr).1,fun e=>absurd e h1⟩
theorem Oa (go:Hp->aL->Hp×Va) (h:Hp) (c:aL) (i:In):(jB go h c i).c.m=c.m:=by
 unfold jB
 dsimp only
 split<;>rfl
theorem KP {n:Nat} {go:Hp->aL->Hp×Va} (K:MY go) (G:TY n go) (h:Hp) (c:aL) (e:cG n h) (ho:h.over=false) (hs:(gw go h c).1.stops=false):(gw go h c).2.kind=c.m.ret.kind/\(c.m.ret.kind=0->(gw go h c).2.n=0):=by
 unfold gw at hs ⊢
 split
 ·rename_i h1
  rw [if_pos h1] at hs
  have:=zA hs ho
  unfold Hp.mustB at h1
  rw [this,ho] at h1
  simp at h1
 ·rename_i h1
  rw [if_neg h1] at hs
  split
  ·rename_i h2
   rw [if_pos h2] at hs
   exact QC h c _ ho hs
  ·rename_i h2
   rw [if_neg h2] at hs
   have em:(if (nth eR c.m.code c.pc.toNat).op=18 then jB go h c (nth eR c.m.code c.pc.toNat) else bV h c (nth eR c.m.code c.pc.toNat)).c.m=c.m:=by
    split
    ·exact Oa go h c _
    ·exact (zv h c _).1
   have:=N9 G _ (by
    split
    ·exact (Bw K h c _).enough e
    ·exact (ql h c _).lf.enough e) hs
   rw [em] at this
   exact this
theorem rI {h:Hp} (hb:h.stepB=false):h.step.over=true:=by
 unfold Hp.stepB at hb
 unfold Hp.step
 by_cases ho:h.over=true
 ·rw [if_pos ho];exact ho
 ·rw [if_neg ho]
  simp [ho] at hb
  rw [if_pos hb]
  simp [Hp.fin,ho]
theorem GB:∀n:Nat,TY n (cn n)
 | 0=>fun h c e hs=>by
  exfalso
  have:=rI (lK (k:=0) e)
  simp [cn,Hp.stops,Hp.leave,this] at hs
 | n+1=>fun h c e hs=>by
  unfold cn at hs ⊢
  split
  ·rename_i h1
   rw [if_pos h1] at hs
   have:=rI h1
   simp [Hp.stops,Hp.leave,this] at hs
  ·rename_i h1
   rw [if_neg h1] at hs
   have hb:h.stepB=true:=by simpa using h1
   exact KP (rG n) (GB n) _ _ (fX e hb) (fW hb).2.2.1 hs
def xG (h:Hp) (v:Va):Sh :=
 if h.over=true then h.sh
 else if 0<=h.thrown then { h.sh with fin:=2,cls:=(h.obj h.thrown).cls }
 else if v.kind=1∨v.kind=2 then { h.sh with fin:=1,value:=v.n } else { h.sh with fin:=1 }
theorem Oc (s:Sh):s=⟨s.fin,s.value,s.cls,s.o,s.used,s.steps⟩:=rfl
theorem Dj (k:Nat) (h:Hp) (v:Va) (z:VZ h) (hk:h.stops=false->(0<=v.kind/\v.kind<=3)/\(v.kind=0->v.n=0)):jl k (h,v) []=xG h v:=by
 obtain ⟨z1,z2⟩:=z
 unfold jl xG
 dsimp only
 split
 ·rw [Oc h.sh,z1,z2]
 ·rename_i h1
  split
  ·rename_i h2
   rw [z1]
   rfl
  ·rename_i h2
   obtain ⟨h3,h4⟩:=hk (by simp [Hp.stops,h1,h2])
   show (⟨1,if v.kind=3 then 0 else v.n,0,h.sh.o,h.sh.used,h.sh.steps⟩:Sh)=_
   by_cases h5:v.kind=1∨v.kind=2
   ·rw [if_pos h5,if_neg (by omega),z2]
   ·rw [if_neg h5,z1,z2]
    by_cases h6:v.kind=3
    ·rw [if_pos h6]
    ·rw [if_neg h6,h4 (by omega)]
theorem KQ (n:Nat) (h:Hp) (m:Me) (l:List Va) (hs:h.stops=false) (e:cG n h) (z:VZ h) (hB:h.enterB m l=true) (hr:0<=m.ret.kind/\m.ret.kind<=3) :
  oU (runM n { h with calls:=h.calls+1 } [cv m l])=xG (jd (cn n) h m l).1 (jd (cn n) h m l).2:=by
 have hE:h.enterH m l={ h with calls:=h.calls+1 }:=by
  unfold Hp.enterB at hB
  rw [Bool.and_eq_true] at hB
  unfold Hp.enterH
  rw [if_neg (by rw [hB.1];decide),if_neg (by simpa using hB.2)]
 unfold jd
 rw [if_pos hB,hE]
 have QD:({ h with calls:=h.calls+1 }:Hp).stops=false:=hs
 have e':cG n ({ h with calls:=h.calls+1 }:Hp):=e
 have S:=BB n _ (cv m l) QD e' n [] e'
 unfold rC at S
 rw [S]
 have V:=BG n _ (cv m l) (show VZ { h with calls:=h.calls+1 } from z)
 have Z:=GB n _ (cv m l) e'
 generalize cn n { h with calls:=h.calls+1 } (cv m l)=r at V Z ⊢
 refine Dj n r.1 r.2 V fun QE=>⟨?_,fun h0=>(Z QE).2 ((Z QE).1.symm.trans h0)⟩
 rw [(Z QE).1]
 exact hr
structure Ca where
 q:Nat
 lb:Nat
 lc:Nat
 P:Option Addr
 C:Option Addr
 K:Option Addr
 p:Nat
 c:Nat
 k:Nat
def lM (a:Ca) (c:aL):Array Value :=
 #[.slice a.P c.m.params.length a.p,ι c.m.ret.kind,ι c.m.ret.cls,ι c.m.stack,ι c.m.locs,ι c.m.regs,.slice a.C c.m.code.length a.c,.slice a.K c.m.hands.length a.k,
  .slice (some ⟨a.lb,0,none⟩) c.locs.length a.lc,ι c.giv.kind,ι c.giv.n,ι c.cau.kind,ι c.cau.n,ι c.pc]
structure aK (w0 w:World) (a:Ca) (c:aL):Prop where
 own:w0.heap.size<=a.q
 ownl:w0.heap.size<=a.lb
 blk:w.heap[a.q]?=some (.cells (lM a c) 149 (0,0))
 loc:cL w a.lb c.locs
 me:ku w0 c.m a.P a.C a.K
structure Cq (w0:World) (g:Ad) (h:Hp):Prop where
 cw:Cw w0 g h
 t:g.T=76
section
variable {w0:World} {g:Ad} {h:Hp}
theorem Cq.k (C:Cq w0 g h):Tk g.T:=C.cw.k
theorem Cq.n7 (C:Cq w0 g h):¬gI g.T 149:=by
 rw [C.t];rintro (h|h|h|h)<;>exact absurd h (by decide)
end
structure Fq (B:Nat) (T:TypeId) (a:Ca) (w w':World):Prop where
 bl:Below B w w'
 keep:∀(b:Nat) (cs:Array Value) (t:TypeId) (f:Nat×Nat),w.heap[b]?=some (.cells cs t f)->¬gI T t->b≠a.q->b≠a.lb->w'.heap[b]?=some (.cells cs t f)
theorem Fr.fq {B:Nat} {T:TypeId} {a:Ca} {w w':World} (h:Fr B T w w'):Fq B T a w w':=⟨h.bl,fun b cs t f e n _ _=>h.keep b cs t f e n⟩
theorem Fq.refl (B:Nat) (T:TypeId) (a:Ca) (w:World):Fq B T a w w:=(Fr.refl B T w).fq
section
variable {B:Nat} {T:TypeId}
theorem Fq.trans {a:Ca} {x y z:World} (h:Fq B T a x y) (k:Fq B T a y z):Fq B T a x z :=
 ⟨h.bl.trans k.bl,fun b cs t f e n n1 n2=>k.keep b cs t f (h.keep b cs t f e n n1 n2) n n1 n2⟩
theorem Fq.fr {a:Ca} {x y z:World} (h:Fr B T x y) (k:Fq B T a y z) (hq:x.heap.size<=a.q) (hl:x.heap.size<=a.lb):Fr B T x z :=
 ⟨h.bl.trans k.bl,fun b cs t f e n=>k.keep b cs t f (h.keep b cs t f e n) n (by have:=af e;omega) (by have:=af e;omega)⟩
theorem cL.frr {w w':World} {b:Nat} {l:List Va} (h:cL w b l) (k:Tk T) (f:Fr B T w w'):cL w' b l:=⟨f.keep _ _ _ _ h.blk k.nv,h.len⟩
theorem aK.fr {w0 w w':World} {a:Ca} {c:aL} (h:aK w0 w a c) (k:Tk T) (n7:¬gI T 149) (f:Fr B T w w'):aK w0 w' a c :=
 ⟨h.own,h.ownl,f.keep _ _ _ _ h.blk n7,h.loc.frr k f,h.me⟩
end
structure GC (w:World) (a:Ca) (c:aL):Prop where
 c0:w.cell? ⟨a.q,0,none⟩=some (.slice a.P c.m.params.length a.p)
 c1:w.cell? ⟨a.q,1,none⟩=some (ι c.m.ret.kind)
 c2:w.cell? ⟨a.q,2,none⟩=some (ι c.m.ret.cls)
 c6:w.cell? ⟨a.q,6,none⟩=some (.slice a.C c.m.code.length a.c)
 c7:w.cell? ⟨a.q,7,none⟩=some (.slice a.K c.m.hands.length a.k)
 c8:w.cell? ⟨a.q,8,none⟩=some (.slice (some ⟨a.lb,0,none⟩) c.locs.length a.lc)
 c9:w.cell? ⟨a.q,9,none⟩=some (ι c.giv.kind)
 c10:w.cell? ⟨a.q,10,none⟩=some (ι c.giv.n)
 c11:w.cell? ⟨a.q,11,none⟩=some (ι c.cau.kind)
 c12:w.cell? ⟨a.q,12,none⟩=some (ι c.cau.n)
 c13:w.cell? ⟨a.q,13,none⟩=some (ι c.pc)
section
variable {w0 w:World} {a:Ca} {c:aL}
theorem aK.cells (H:aK w0 w a c):GC w a c:=by
 constructor<;>(rw [ab H.blk];rfl)
theorem aK.free (H:aK w0 w a c) (i:Nat):w.frozen? ⟨a.q,i,none⟩=false:=aA H.blk i
theorem aK.apart (H:aK w0 w a c):a.lb≠a.q:=by
 intro h
 have h1:=H.loc.blk
 rw [h,H.blk] at h1
 simp at h1
theorem aK.setC {c':aL} (H:aK w0 w a c) {i:Nat} {v:Value} (hr:(lM a c).setIfInBounds i v=lM a c') (hl:c'.locs=c.locs) (hm:c'.m=c.m):aK w0 (w.setCell ⟨a.q,i,none⟩ v) a c':=by
 refine ⟨H.own,H.ownl,by rw [ay H.blk,hr],⟨?_,by rw [hl];exact H.loc.len⟩,by rw [hm];exact H.me⟩
 rw [ak H.apart,hl];exact H.loc.blk
theorem aK.fq (H:aK w0 w a c) (T:TypeId) (i:Nat) (v:Value):Fq w0.heap.size T a w (w.setCell ⟨a.q,i,none⟩ v) :=
 ⟨(Below.refl _ w).setCell H.own v,fun b cs t f e n n1 n2=>by rw [ak n1];exact e⟩
end
theorem aK.cf {T:TypeId} {w0 w:World} {a:Ca} {c:aL} (H:aK w0 w a c) (n7:¬gI T 149) (i:Nat) (v:Value):Cf w0.heap.size T w (w.setCell ⟨a.q,i,none⟩ v) :=
 (Cf.refl _ _ w).set H.blk n7 H.own v
section
variable {w0 w w':World}
theorem dU.cf {T:TypeId} {b:Nat} {l:List Va} (h:dU b w w') (k:Tk T) (hL:cL w b l) (hb:w0.heap.size<=b) (hs:w0.heap.size<=w.heap.size):Cf w0.heap.size T w w' :=
 ⟨⟨h.os,h.tape,h.output,h.size,fun i hi=>h.block i (by omega) (by omega)⟩,fun i cs t f e n=>by
  have hi:=af e
  rw [h.block i hi]
  ·exact e
  ·rintro rfl;rw [hL.blk] at e;simp at e;exact k.nv (e.2.1▸n)⟩
theorem dU.fq {a:Ca} {T:TypeId} (h:dU a.lb w w') (hb:w0.heap.size<=a.lb) (hs:w0.heap.size<=w.heap.size):Fq w0.heap.size T a w w' :=
 ⟨⟨h.os,h.tape,h.output,h.size,fun i hi=>h.block i (by omega) (by omega)⟩,fun i cs t f e n n1 n2=>by rw [h.block i (af e) n2];exact e⟩
theorem aK.setLoc {a:Ca} {c:aL} (H:aK w0 w a c) (h:dU a.lb w w') {l:List Va} (hl:cL w' a.lb l) (hn:l.length=c.locs.length):aK w0 w' a { c with locs:=l }:=by
 refine ⟨H.own,H.ownl,?_,hl,H.me⟩
 rw [h.block _ (af H.blk) (Ne.symm H.apart),H.blk]
 simp only [lM,hn]
end
section
variable (w0:World) (g:Ad) (p:Nat) (h:Hp) (a:Ca) (c:aL) (n:Int)
theorem bQ (k:Int) (w:World) (hH:Hs w0 g w p h) (hC:aK w0 w a c) (C:Cq w0 g h) (hn:0<=n/\n<c.locs.length) :
  χ 74 #[π p 0,π a.q 0,ι n,ι k] w fun e w'=>e=.returned (jh (c.rd n))/\Hs w0 g w' p (h.rdH c n k)/\Fr w0.heap.size g.T w w':=by
 obtain ⟨m,rfl⟩:∃m:Nat,n=m:=⟨n.toNat,by omega⟩
 have er:c.rd (m:Int)=nth aE c.locs m:=by unfold aL.rd;rw [Int.toNat_natCast]
 unfold Hp.rdH
 rw [er]
 have hm:m<c.locs.length:=by omega
 have z8:=hC.cells.c8
 have l0:=hC.loc.c0 hm
 have l1:=hC.loc.c1 hm
 have hlen:=hC.loc.len
 generalize nth aE c.locs m=v at *
 have hb:=hH.base
 have hq:a.q<w.heap.size:=af hC.blk
 have hl:a.lb<w.heap.size:=af hC.loc.blk
 have HF:Θ (Fr w0.heap.size g.T w ((w.alloc eI).alloc (bD v))):=((Fr.refl _ _ w).alloc hb _).alloc (by simp;omega) _
 have HH:Θ (Hs w0 g ((w.alloc eI).alloc (bD v)) p h):=hH.cf (((Cf.refl _ _ w).alloc hb _).alloc (by simp;omega) _)
 have HC:=ae C
 have Sw:Θ (aC ((w.alloc eI).alloc (bD v)) w.heap.size aE):=⟨(Below.heap_alloc _ _ _ (by simp)).trans (aC.new w aE).blk⟩
 have E3:Θ (aC ((w.alloc eI).alloc (bD v)) (w.heap.size+1) v):=by have:=aC.new (w.alloc eI) v;rwa [World.size_alloc] at this
 have z0:=ae E3.o.c0
 clear hH hC C er
 go_enter func74,ntmps74
 go_wp2
 refine wp_region_held_drew (S:=fun w'=>κ w' (w.heap.size+1) 0 (ι v.kind)) (by kernel_rfl) ?_ (fun aa=>?_)
 ·exact z0.o
 iterate 7 (refine tn rfl (by kernel_rfl) (fun _ _ _ h=>h) (by intro _ h;go_split_ands;go_simp<;>with_reducible rfl) aa ?_;try simp only [aZ])
 refine aY (i:=7) (by kernel_rfl) rfl fun K hK=>?_
 go_simp
 go_at_call 55
 refine (bZ w0 g HC.o.k p h _ _ (HH.o.drewN 1)).mono ?_
 rintro e w1 ⟨rfl,H1,F1⟩
 have R1:=ae ((Sw.o.drewN 1).keep HC.o.k F1)
 have V1:=ae ((E3.o.drewN 1).keep HC.o.k F1)
 have d0:=ae V1.o.c0
 have H1:=ae H1
 have F1:=ae F1
 go_wp2_with fail
 refine hK.out _ _ (d0.o) (fun ah=>?_)
 try simp only [aZ]
 refine wpAnyH_done (by kernel_rfl) ?_ _
 have e0:=V1.o.c0
 have e1:=V1.o.c1
 have r0:=R1.o.c0
 have r1:=R1.o.c1
 have fz:=R1.o.fr
 go_wp2
 refine bodyPost_ret (results_cell_row rfl _ _ w.heap.size _ _ _ _ rfl (R1.o.set v).blk underlying62 rfl bC) rfl ?_
 exact ⟨rfl,H1.o.cf (R1.o.cf HC.o.k hb _ _),((HF.o.drewN 1).trans F1.o).new (Nat.le_refl _) hb _ |>.new (Nat.le_refl _) hb _⟩
theorem mT (v:Va) (w:World) (hH:Hs w0 g w p h) (hC:aK w0 w a c) (C:Cq w0 g h) (hn:0<=n/\n<c.locs.length) (hw:h.stops=false->iK c.locs/\(v.kind=2->n+1<c.locs.length)) :
  χ 75 #[π p 0,π a.q 0,ι n,jh v] w fun e w'=>e=.returned (.tuple #[])/\Hs w0 g w' p h/\aK w0 w' a (mN h c n v)/\Fq w0.heap.size g.T a w w':=by
 obtain ⟨m,rfl⟩:∃m:Nat,n=m:=⟨n.toNat,by omega⟩
 have hm:m<c.locs.length:=by omega
 have hb:=hH.base
 have hq:a.q<w.heap.size:=af hC.blk
 have hl:a.lb<w.heap.size:=af hC.loc.blk
 have F0:Fr w0.heap.size g.T w (w.alloc (bD v)):=(Fr.refl _ _ w).alloc hb _
 have HF:=ae F0
 have HH:Θ (Hs w0 g (w.alloc (bD v)) p h):=hH.cf ((Cf.refl _ _ w).alloc hb _)
 have HA:Θ (aK w0 (w.alloc (bD v)) a c):=hC.fr C.k C.n7 F0
 have HC:=ae C
 have E3:Θ (aC (w.alloc (bD v)) w.heap.size v):=aC.new w v
 have z0:=ae (And.intro HA.o.cells.c8 (And.intro E3.o.c0 E3.o.c1))
 have dX:w0.heap.size<=(w.alloc (bD v)).heap.size:=by simp;omega
 have Wk:=ae dX
 cases hs:h.stops with
 | true =>
  have ew:mN h c (m:Int) v=c:=by unfold mN;rw [if_pos hs]
  rw [ew]
  have HS:=ae hs
  clear hH hC C hs hw F0 ew dX
  go_enter func75,ntmps75
  go_wp2_with (go_at_call 112;refine (tz w0 g p h _ HH.o).mono ?_;rintro e w1 ⟨he,hw1⟩;rw [HS.o] at he;subst he;rw [hw1];clear hw1 w1)
  go_end0
  exact ⟨rfl,HH.o,HA.o,HF.o.fq⟩
 | false =>
  obtain ⟨hok,h2⟩:=hw hs
  have ew:mN h c (m:Int) v={ c with locs:=eL c.locs m v }:=by unfold mN;rw [if_neg (by rw [hs];decide),Int.toNat_natCast]
  rw [ew]
  have HS:=ae hs
  have EY:Θ (∀w',cL w' a.lb c.locs->χ 52 #[.slice (some ⟨a.lb,0,none⟩) c.locs.length a.lc,ι (m:Int),jh v] w' fun e w2=>e=.returned (.tuple #[])/\cL w2 a.lb (eL c.locs m v)/\dU a.lb w' w2):=fun w' hL=>tE a.lb c.locs m a.lc v w' hL hok hm (fun x=>by have:=h2 x;omega)
  clear hH hC C hs hw F0 ew hok h2 dX
  go_enter func75,ntmps75
  go_wp2_with (go_at_call 112;refine (tz w0 g p h _ HH.o).mono ?_;rintro e w1 ⟨he,hw1⟩;rw [HS.o] at he;subst he;rw [hw1];clear hw1 w1)
  refine wp_region_held_drew (S:=fun w'=>κ w' a.q 8 (.slice (some ⟨a.lb,0,none⟩) c.locs.length a.lc)/\κ w' w.heap.size 0 (ι v.kind)/\κ w' w.heap.size 1 (ι v.n)) (by kernel_rfl) ?_ (fun aa=>?_)
  ·exact z0.o
  iterate 6 (refine tn rfl (by kernel_rfl) (fun _ _ _ h=>h) (by intro _ h;go_split_ands;go_simp<;>with_reducible rfl) aa ?_;try simp only [aZ])
  refine aY (i:=6) (by kernel_rfl) rfl fun K hK=>?_
  go_simp
  go_at_call 52
  refine (EY.o ((w.alloc (bD v)).drew) ⟨HA.o.loc.blk,HA.o.loc.len⟩).mono ?_
  rintro e w1 ⟨rfl,L1,O1⟩
  have A1:=ae (HA.o.setLoc (w':=w1) ⟨O1.os,O1.tape,O1.output,O1.size,O1.block⟩ L1 (fR _ _ _))
  have V1:=ae (dU.box (w:=(w.alloc (bD v))) ⟨O1.os,O1.tape,O1.output,O1.size,O1.block⟩ E3.o (by omega))
  have k8:w1.cell? ⟨a.q,8,none⟩=some (.slice (some ⟨a.lb,0,none⟩) c.locs.length a.lc):=by have:=A1.o.cells.c8;dsimp only at this;rw [fR] at this;exact this
  have d0:=ae (And.intro k8 (And.intro V1.o.c0 V1.o.c1))
  have O1:Θ (dU a.lb (w.alloc (bD v)) w1):=⟨O1.os,O1.tape,O1.output,O1.size,O1.block⟩
  go_wp2_with fail
  refine hK.out _ _ (d0.o) (fun ah=>?_)
  try simp only [aZ]
  refine wpAnyH_done (by kernel_rfl) ?_ _
  go_wp2
  go_end0
  exact ⟨rfl,HH.o.cf (dU.cf O1.o HC.o.k HA.o.loc HA.o.ownl Wk.o),A1.o,HF.o.fq.trans (dU.fq O1.o HA.o.ownl Wk.o)⟩
end
structure cP (w:World) (b:Nat) (k ia ib ic ii:Int) (Q:Option Addr) (nl q:Nat):Prop where
 blk:w.heap[b]?=some (.cells #[ι k,ι ia,ι ib,ι ic,ι ii,.slice Q nl q] 55 (0,0))
theorem cP.cs {w:World} {b:Nat} {k ia ib ic ii:Int} {Q:Option Addr} {nl q:Nat} (h:cP w b k ia ib ic ii Q nl q):w.cell? ⟨b,0,none⟩=some (ι k)/\w.cell? ⟨b,1,none⟩=some (ι ia)/\w.cell? ⟨b,2,none⟩=some (ι ib)/\w.cell? ⟨b,3,none⟩=some (ι ic)/\w.cell? ⟨b,4,none⟩=some (ι ii)/\w.cell? ⟨b,5,none⟩=some (.slice Q nl q):=by
 refine ⟨?_,?_,?_,?_,?_,?_⟩<;>(rw [ab h.blk];rfl)
theorem cP.keep {B:Nat} {T:TypeId} {w w':World} {b:Nat} {k ia ib ic ii:Int} {Q:Option Addr} {nl q:Nat} (h:cP w b k ia ib ic ii Q nl q) (t:Tk T) (f:Fr B T w w'):cP w' b k ia ib ic ii Q nl q :=
 ⟨f.keep _ _ _ _ h.blk (by rintro (h|h|h|h)<;>first|exact t.n h.symm|exact absurd h (by decide))⟩
theorem Cq.same {w0:World} {g:Ad} {h h':Hp} (C:Cq w0 g h) (e:h'.file=h.file):Cq w0 g h':=by
 obtain ⟨⟨c1,c2,c3,c4,c5,c6⟩,t⟩:=C
 exact ⟨⟨c1,by rw [e];exact c2,by rw [e];exact c3,by rw [e];exact c4,by rw [e];exact c5,by rw [e];exact c6⟩,t⟩
theorem dW (h:Hp) (c:aL) (n k:Int):(h.rdH c n k).file=h.file:=by unfold Hp.rdH Hp.must;split;rfl;unfold Hp.fin;split<;>rfl
section
variable {w0:World} {g:Ad} {p:Nat} {h:Hp}
theorem GD {w:World} (k ia ib ic ii:Int) (Q:Option Addr) (nl q:Nat) (u:Va) (hH:Hs w0 g w p h) :
  Fr w0.heap.size g.T w (((w.alloc (.cells #[ι k,ι ia,ι ib,ι ic,ι ii,.slice Q nl q] 55)).alloc (bD u)).alloc eI)/\Hs w0 g (((w.alloc (.cells #[ι k,ι ia,ι ib,ι ic,ι ii,.slice Q nl q] 55)).alloc (bD u)).alloc eI) p h/\aC (((w.alloc (.cells #[ι k,ι ia,ι ib,ι ic,ι ii,.slice Q nl q] 55)).alloc (bD u)).alloc eI) (w.heap.size+1) u:=by
 have hb:=hH.base
 have s1:(w.alloc (.cells #[ι k,ι ia,ι ib,ι ic,ι ii,.slice Q nl q] 55)).heap.size=w.heap.size+1:=by simp
 have s2:((w.alloc (.cells #[ι k,ι ia,ι ib,ι ic,ι ii,.slice Q nl q] 55)).alloc (bD u)).heap.size=w.heap.size+1+1:=by simp
 refine ⟨(((Fr.refl _ _ w).alloc hb _).alloc (by simp;omega) _).alloc (by simp;omega) _,hH.cf ((((Cf.refl _ _ w).alloc hb _).alloc (by simp;omega) _).alloc (by simp;omega) _),⟨?_⟩⟩
 rw [Below.heap_alloc _ _ _ (by omega),<-s1];exact aB _ _ _
theorem mU {a:Ca} {c:aL} {w:World} (k ia ib ic ii:Int) (Q:Option Addr) (nl q:Nat) (hH:Hs w0 g w p h) (hC:aK w0 w a c) (C:Cq w0 g h) :
  Θ (Fr w0.heap.size g.T w (((w.alloc (.cells #[ι k,ι ia,ι ib,ι ic,ι ii,.slice Q nl q] 55)).alloc eI).alloc eI))/\Θ (Hs w0 g (((w.alloc (.cells #[ι k,ι ia,ι ib,ι ic,ι ii,.slice Q nl q] 55)).alloc eI).alloc eI) p h)/\Θ (aK w0 (((w.alloc (.cells #[ι k,ι ia,ι ib,ι ic,ι ii,.slice Q nl q] 55)).alloc eI).alloc eI) a c)/\Θ (cP (((w.alloc (.cells #[ι k,ι ia,ι ib,ι ic,ι ii,.slice Q nl q] 55)).alloc eI).alloc eI) w.heap.size k ia ib ic ii Q nl q)/\Θ (aC (((w.alloc (.cells #[ι k,ι ia,ι ib,ι ic,ι ii,.slice Q nl q] 55)).alloc eI).alloc eI) (w.heap.size+1) aE)/\Θ (aC (((w.alloc (.cells #[ι k,ι ia,ι ib,ι ic,ι ii,.slice Q nl q] 55)).alloc eI).alloc eI) (w.heap.size+1+1) aE)/\Θ (Cq w0 g h)/\w0.heap.size<=w.heap.size/\a.q<w.heap.size/\a.lb<w.heap.size:=by
 have hb:=hH.base
 have F0:Fr w0.heap.size g.T w (((w.alloc (.cells #[ι k,ι ia,ι ib,ι ic,ι ii,.slice Q nl q] 55)).alloc eI).alloc eI):=(((Fr.refl _ _ w).alloc hb _).alloc (by simp;omega) _).alloc (by simp;omega) _
 have s1:(w.alloc (.cells #[ι k,ι ia,ι ib,ι ic,ι ii,.slice Q nl q] 55)).heap.size=w.heap.size+1:=by simp
 have s2:((w.alloc (.cells #[ι k,ι ia,ι ib,ι ic,ι ii,.slice Q nl q] 55)).alloc eI).heap.size=w.heap.size+1+1:=by simp
 refine ⟨F0,hH.cf ((((Cf.refl _ _ w).alloc hb _).alloc (by simp;omega) _).alloc (by simp;omega) _),hC.fr C.k C.n7 F0,⟨?_⟩,⟨?_⟩,⟨?_⟩,C,hb,af hC.blk,af hC.loc.blk⟩
 ·rw [Below.heap_alloc _ _ _ (by omega),Below.heap_alloc _ _ _ (by omega)];exact aB _ _ _
 ·rw [Below.heap_alloc _ _ _ (by omega),<-s1];exact aB _ _ _
 ·rw [<-s2];exact aB _ _ _
end
section
variable (w0:World) (g:Ad) (p:Nat) (h:Hp) (a:Ca) (c:aL) (ia ib ic ii:Int) (args:List Int) (Q:Option Addr) (nl q:Nat) (w:World)
theorem zB (hH:Hs w0 g w p h) (hC:aK w0 w a c) (C:Cq w0 g h) :
  χ 136 #[π p 0,π a.q 0,.agg #[ι 1,ι ia,ι ib,ι ic,ι ii,.slice Q nl q]] w fun e w'=>e=.returned (jh (aG h c ⟨1,ia,ib,ic,ii,args⟩))/\Hs w0 g w' p (givesH h c ⟨1,ia,ib,ic,ii,args⟩)/\Fr w0.heap.size g.T w w':=by
 have HP:=ae (GD 1 ia ib ic ii Q nl q ⟨1,ii⟩ hH)
 obtain ⟨HF,HH,HA,HI,HR,HN,HC,hb,hq,hl⟩:=mU 1 ia ib ic ii Q nl q hH hC C
 clear hH hC C
 have eH:givesH h c ⟨1,ia,ib,ic,ii,args⟩=h:=by simp [givesH]
 have eV:aG h c ⟨1,ia,ib,ic,ii,args⟩=⟨1,ii⟩:=by simp [aG]
 rw [eH,eV]
 clear eH eV
 go_enter func136,ntmps136
 go_wp2
 refine bodyPost_ret (results_cell_row rfl _ _ (w.heap.size+1) _ _ _ _ rfl HP.o.2.2.blk underlying62 rfl bC) rfl ?_
 exact ⟨rfl,HP.o.2.1,HP.o.1⟩
theorem zC (hH:Hs w0 g w p h) (hC:aK w0 w a c) (C:Cq w0 g h) :
  χ 136 #[π p 0,π a.q 0,.agg #[ι 2,ι ia,ι ib,ι ic,ι ii,.slice Q nl q]] w fun e w'=>e=.returned (jh (aG h c ⟨2,ia,ib,ic,ii,args⟩))/\Hs w0 g w' p (givesH h c ⟨2,ia,ib,ic,ii,args⟩)/\Fr w0.heap.size g.T w w':=by
 have HP:=ae (GD 2 ia ib ic ii Q nl q ⟨2,ii⟩ hH)
 obtain ⟨HF,HH,HA,HI,HR,HN,HC,hb,hq,hl⟩:=mU 2 ia ib ic ii Q nl q hH hC C
 clear hH hC C
 have eH:givesH h c ⟨2,ia,ib,ic,ii,args⟩=h:=by simp [givesH]
 have eV:aG h c ⟨2,ia,ib,ic,ii,args⟩=⟨2,ii⟩:=by simp [aG]
 rw [eH,eV]
 clear eH eV
 go_enter func136,ntmps136
 go_wp2
 refine bodyPost_ret (results_cell_row rfl _ _ (w.heap.size+1) _ _ _ _ rfl HP.o.2.2.blk underlying62 rfl bC) rfl ?_
 exact ⟨rfl,HP.o.2.1,HP.o.1⟩
theorem zD (hH:Hs w0 g w p h) (hC:aK w0 w a c) (C:Cq w0 g h) :
  χ 136 #[π p 0,π a.q 0,.agg #[ι 3,ι ia,ι ib,ι ic,ι ii,.slice Q nl q]] w fun e w'=>e=.returned (jh (aG h c ⟨3,ia,ib,ic,ii,args⟩))/\Hs w0 g w' p (givesH h c ⟨3,ia,ib,ic,ii,args⟩)/\Fr w0.heap.size g.T w w':=by
 have HP:=ae (GD 3 ia ib ic ii Q nl q ⟨3,-1⟩ hH)
 obtain ⟨HF,HH,HA,HI,HR,HN,HC,hb,hq,hl⟩:=mU 3 ia ib ic ii Q nl q hH hC C
 clear hH hC C
 have eH:givesH h c ⟨3,ia,ib,ic,ii,args⟩=h:=by simp [givesH]
 have eV:aG h c ⟨3,ia,ib,ic,ii,args⟩=⟨3,-1⟩:=by simp [aG]
 rw [eH,eV]
 clear eH eV
 go_enter func136,ntmps136
 go_wp2
 refine bodyPost_ret (results_cell_row rfl _ _ (w.heap.size+1) _ _ _ _ rfl HP.o.2.2.blk underlying62 rfl bC) rfl ?_
 exact ⟨rfl,HP.o.2.1,HP.o.1⟩
theorem zE (hH:Hs w0 g w p h) (hC:aK w0 w a c) (C:Cq w0 g h) (pS:0<=ib/\ib<c.locs.length) :
  χ 136 #[π p 0,π a.q 0,.agg #[ι 4,ι ia,ι ib,ι ic,ι ii,.slice Q nl q]] w fun e w'=>e=.returned (jh (aG h c ⟨4,ia,ib,ic,ii,args⟩))/\Hs w0 g w' p (givesH h c ⟨4,ia,ib,ic,ii,args⟩)/\Fr w0.heap.size g.T w w':=by
 obtain ⟨HF,HH,HA,HI,HR,HN,HC,hb,hq,hl⟩:=mU 4 ia ib ic ii Q nl q hH hC C
 clear hH hC C
 have eH:givesH h c ⟨4,ia,ib,ic,ii,args⟩=h.rdH c ib ic:=by simp [givesH]
 have eV:aG h c ⟨4,ia,ib,ic,ii,args⟩=c.rd ib:=by simp [aG]
 rw [eH,eV]
 clear eH eV
 go_enter func136,ntmps136
 go_wp2_with (go_at_call 74;refine (bQ w0 g p h a c ib ic _ HH.o HA.o HC.o pS).mono ?_;rintro e w1 ⟨rfl,H1,F1⟩;have R:=ae (HR.o.keep HC.o.k F1);have r0:=R.o.c0;have r1:=R.o.c1;have fz:=R.o.fr;have I1:=HI.o.keep HC.o.k F1;obtain ⟨i0,i1,i2,i3,i4,i5⟩:=I1.cs;replace I1:=ae I1;have N1:=HN.o.keep HC.o.k F1;have n0:=N1.c0;have n1:=N1.c1;replace N1:=ae N1;have hw1:=af I1.o.blk;have bX:=af N1.o.blk;have mP:w1.heap.size≠w.heap.size+1:=(by omega);have pT:w.heap.size+1≠w1.heap.size:=(by omega);have Od:∀o,(w1.alloc o).cell? ⟨w.heap.size+1,0,none⟩=some (ι 0):=(fun o=>((Bl.refl w1).alloc o).cell r0);have Oe:∀o,(w1.alloc o).cell? ⟨w.heap.size+1,1,none⟩=some (ι 0):=(fun o=>((Bl.refl w1).alloc o).cell r1);have R2:Θ (aC (w1.alloc (bD (c.rd ib))) (w.heap.size+1) aE):=⟨(Below.heap_alloc _ _ _ (af R.o.blk)).trans R.o.blk⟩;have Og:∀i,(w1.alloc (bD (c.rd ib))).frozen? ⟨w.heap.size+1,i,none⟩=false:=(fun i=>R2.o.fr i);have Oh:=R2.o.c0;have Oi:=R2.o.c1;replace H1:=ae H1;replace F1:=ae (HF.o.trans F1))
 refine bodyPost_ret (results_cell_row rfl _ _ (w.heap.size+1) _ _ _ _ rfl (R.o.set (c.rd ib)).blk underlying62 rfl bC) rfl ?_
 exact ⟨rfl,H1.o.cf (R.o.cf HC.o.k (by omega) _ _),(F1.o.new (Nat.le_succ _) (by omega) _).new (Nat.le_succ _) (by omega) _⟩
theorem zF (hH:Hs w0 g w p h) (hC:aK w0 w a c) (C:Cq w0 g h) (pS:0<=ib/\ib<c.locs.length) :
  χ 136 #[π p 0,π a.q 0,.agg #[ι 7,ι ia,ι ib,ι ic,ι ii,.slice Q nl q]] w fun e w'=>e=.returned (jh (aG h c ⟨7,ia,ib,ic,ii,args⟩))/\Hs w0 g w' p (givesH h c ⟨7,ia,ib,ic,ii,args⟩)/\Fr w0.heap.size g.T w w':=by
 obtain ⟨HF,HH,HA,HI,HR,HN,HC,hb,hq,hl⟩:=mU 7 ia ib ic ii Q nl q hH hC C
 clear hH hC C
 have eH:givesH h c ⟨7,ia,ib,ic,ii,args⟩=h.rdH c ib 1:=by simp [givesH]
 have eV:aG h c ⟨7,ia,ib,ic,ii,args⟩=⟨2,(c.rd ib).n⟩:=by simp [aG]
 rw [eH,eV]
 clear eH eV
 go_enter func136,ntmps136
 go_wp2_with (go_at_call 74;refine (bQ w0 g p h a c ib 1 _ HH.o HA.o HC.o pS).mono ?_;rintro e w1 ⟨rfl,H1,F1⟩;have R:=ae (HR.o.keep HC.o.k F1);have r0:=R.o.c0;have r1:=R.o.c1;have fz:=R.o.fr;have I1:=HI.o.keep HC.o.k F1;obtain ⟨i0,i1,i2,i3,i4,i5⟩:=I1.cs;replace I1:=ae I1;have N1:=HN.o.keep HC.o.k F1;have n0:=N1.c0;have n1:=N1.c1;replace N1:=ae N1;have hw1:=af I1.o.blk;have bX:=af N1.o.blk;have mP:w1.heap.size≠w.heap.size+1:=(by omega);have pT:w.heap.size+1≠w1.heap.size:=(by omega);have Od:∀o,(w1.alloc o).cell? ⟨w.heap.size+1,0,none⟩=some (ι 0):=(fun o=>((Bl.refl w1).alloc o).cell r0);have Oe:∀o,(w1.alloc o).cell? ⟨w.heap.size+1,1,none⟩=some (ι 0):=(fun o=>((Bl.refl w1).alloc o).cell r1);have R2:Θ (aC (w1.alloc (bD (c.rd ib))) (w.heap.size+1) aE):=⟨(Below.heap_alloc _ _ _ (af R.o.blk)).trans R.o.blk⟩;have Og:∀i,(w1.alloc (bD (c.rd ib))).frozen? ⟨w.heap.size+1,i,none⟩=false:=(fun i=>R2.o.fr i);have Oh:=R2.o.c0;have Oi:=R2.o.c1;replace H1:=ae H1;replace F1:=ae (HF.o.trans F1))
 first
  | (refine bodyPost_ret (results_cell_row rfl _ _ (w.heap.size+1) _ _ _ _ rfl (R2.o.set ⟨2,(c.rd ib).n⟩).blk underlying62 rfl bC) rfl ?_;exact ⟨rfl,(H1.o.cf ((Cf.refl _ _ _).alloc (by omega) _)).cf (R2.o.cf HC.o.k (by omega) _ _),((F1.o.alloc (by omega) _).new (Nat.le_succ _) (by omega) _).new (Nat.le_succ _) (by omega) _⟩)
  | (refine bodyPost_ret (results_cell_row rfl _ _ (w.heap.size+1) _ _ _ _ rfl ((Below.heap_alloc _ _ _ (by simp;exact af R.o.blk)).trans (R.o.set ⟨2,(c.rd ib).n⟩).blk) underlying62 rfl bC) rfl ?_;exact ⟨rfl,(H1.o.cf (R.o.cf HC.o.k (by omega) _ _)).cf ((Cf.refl _ _ _).alloc (by simp;omega) _),((F1.o.new (Nat.le_succ _) (by omega) _).new (Nat.le_succ _) (by omega) _).alloc (by simp;omega) _⟩)
theorem zG (hH:Hs w0 g w p h) (hC:aK w0 w a c) (C:Cq w0 g h) (pS:0<=ib/\ib<c.locs.length) :
  χ 136 #[π p 0,π a.q 0,.agg #[ι 8,ι ia,ι ib,ι ic,ι ii,.slice Q nl q]] w fun e w'=>e=.returned (jh (aG h c ⟨8,ia,ib,ic,ii,args⟩))/\Hs w0 g w' p (givesH h c ⟨8,ia,ib,ic,ii,args⟩)/\Fr w0.heap.size g.T w w':=by
 obtain ⟨HF,HH,HA,HI,HR,HN,HC,hb,hq,hl⟩:=mU 8 ia ib ic ii Q nl q hH hC C
 clear hH hC C
 have eH:givesH h c ⟨8,ia,ib,ic,ii,args⟩=h.rdH c ib 2:=by simp [givesH]
 have eV:aG h c ⟨8,ia,ib,ic,ii,args⟩=⟨1,wrap32 (c.rd ib).n⟩:=by simp [aG]
 rw [eH,eV]
 clear eH eV
 go_enter func136,ntmps136
 go_wp2_with (first
  | (go_at_call 74;refine (bQ w0 g p h a c ib 2 _ HH.o HA.o HC.o pS).mono ?_;rintro e w1 ⟨rfl,H1,F1⟩;have R:=ae (HR.o.keep HC.o.k F1);have r0:=R.o.c0;have r1:=R.o.c1;have fz:=R.o.fr;have I1:=HI.o.keep HC.o.k F1;obtain ⟨i0,i1,i2,i3,i4,i5⟩:=I1.cs;replace I1:=ae I1;have N1:=HN.o.keep HC.o.k F1;have n0:=N1.c0;have n1:=N1.c1;replace N1:=ae N1;have hw1:=af I1.o.blk;have bX:=af N1.o.blk;have mP:w1.heap.size≠w.heap.size+1:=(by omega);have pT:w.heap.size+1≠w1.heap.size:=(by omega);have Od:∀o,(w1.alloc o).cell? ⟨w.heap.size+1,0,none⟩=some (ι 0):=(fun o=>((Bl.refl w1).alloc o).cell r0);have Oe:∀o,(w1.alloc o).cell? ⟨w.heap.size+1,1,none⟩=some (ι 0):=(fun o=>((Bl.refl w1).alloc o).cell r1);have R2:Θ (aC (w1.alloc (bD (c.rd ib))) (w.heap.size+1) aE):=⟨(Below.heap_alloc _ _ _ (af R.o.blk)).trans R.o.blk⟩;have Og:∀i,(w1.alloc (bD (c.rd ib))).frozen? ⟨w.heap.size+1,i,none⟩=false:=(fun i=>R2.o.fr i);have Oh:=R2.o.c0;have Oi:=R2.o.c1;replace H1:=ae H1;replace F1:=ae (HF.o.trans F1))
  | (go_at_call 50;refine (lE (c.rd ib).n _).mono ?_;rintro e w2 ⟨rfl,hw⟩;rw [hw];clear hw w2))
 first
  | (refine bodyPost_ret (results_cell_row rfl _ _ (w.heap.size+1) _ _ _ _ rfl (R2.o.set ⟨1,wrap32 (c.rd ib).n⟩).blk underlying62 rfl bC) rfl ?_;exact ⟨rfl,(H1.o.cf ((Cf.refl _ _ _).alloc (by omega) _)).cf (R2.o.cf HC.o.k (by omega) _ _),((F1.o.alloc (by omega) _).new (Nat.le_succ _) (by omega) _).new (Nat.le_succ _) (by omega) _⟩)
  | (refine bodyPost_ret (results_cell_row rfl _ _ (w.heap.size+1) _ _ _ _ rfl ((Below.heap_alloc _ _ _ (by simp;exact af R.o.blk)).trans (R.o.set ⟨1,wrap32 (c.rd ib).n⟩).blk) underlying62 rfl bC) rfl ?_;exact ⟨rfl,(H1.o.cf (R.o.cf HC.o.k (by omega) _ _)).cf ((Cf.refl _ _ _).alloc (by simp;omega) _),((F1.o.new (Nat.le_succ _) (by omega) _).new (Nat.le_succ _) (by omega) _).alloc (by simp;omega) _⟩)
end
theorem xH (w0:World) (g:Ad) (p:Nat) (h:Hp) (a:Ca) (c:aL) (ia ib ic ii:Int) (args:List Int) (Q:Option Addr) (nl q:Nat) (w:World) (hH:Hs w0 g w p h) (hC:aK w0 w a c) (C:Cq w0 g h) (hI:aU w0 g.I h.input) (hu:0<=h.sh.used) :
  χ 136 #[π p 0,π a.q 0,.agg #[ι 24,ι ia,ι ib,ι ic,ι ii,.slice Q nl q]] w fun e w'=>e=.returned (jh (aG h c ⟨24,ia,ib,ic,ii,args⟩))/\Hs w0 g w' p (givesH h c ⟨24,ia,ib,ic,ii,args⟩)/\Fr w0.heap.size g.T w w':=by
 obtain ⟨HF,HH,HA,HI,HR,HN,HC,hb,hq,hl⟩:=mU 24 ia ib ic ii Q nl q hH hC C
 clear hH hC C
 have eH:givesH h c ⟨24,ia,ib,ic,ii,args⟩=h.input':=by simp [givesH]
 have eV:aG h c ⟨24,ia,ib,ic,ii,args⟩=h.inV:=by simp [aG]
 rw [eH,eV]
 clear eH eV
 have Wl:=ae (And.intro hI hu)
 clear hI hu
 go_enter func136,ntmps136
 go_wp2_with (go_at_call 164;refine (NR w0 g HC.o.k p h _ HH.o Wl.o.1 Wl.o.2).mono ?_;rintro e w1 ⟨rfl,H1,F1⟩;have R:=ae (HR.o.keep HC.o.k F1);have r0:=R.o.c0;have r1:=R.o.c1;have fz:=R.o.fr;replace H1:=ae H1;replace F1:=ae (HF.o.trans F1))
 refine bodyPost_ret (results_cell_row rfl _ _ (w.heap.size+1) _ _ _ _ rfl (R.o.set h.inV).blk underlying62 rfl bC) rfl ?_
 exact ⟨rfl,H1.o.cf (R.o.cf HC.o.k (by omega) _ _),(F1.o.new (Nat.le_succ _) (by omega) _).new (Nat.le_succ _) (by omega) _⟩
theorem bH {w:World} {b b' i:Nat} {k n x:Value} (h:w.cell? ⟨b,i,none⟩=some x) (hb:b≠b'):((w.setCell ⟨b',0,none⟩ k).setCell ⟨b',1,none⟩ n).cell? ⟨b,i,none⟩=some x:=by
 rw [World.cell?_setCell_far _ _ _ _ (Ne.symm hb),World.cell?_setCell_far _ _ _ _ (Ne.symm hb)];exact h
section
variable (w0:World) (g:Ad) (p:Nat) (h:Hp) (a:Ca) (c:aL) (ia ib ic ii:Int) (args:List Int) (Q:Option Addr) (nl q:Nat) (w:World)
theorem xI (hH:Hs w0 g w p h) (hC:aK w0 w a c) (C:Cq w0 g h) (yG:0<=ib/\ib<h.file.classes.length) :
  χ 136 #[π p 0,π a.q 0,.agg #[ι 13,ι ia,ι ib,ι ic,ι ii,.slice Q nl q]] w fun e w'=>e=.returned (jh (aG h c ⟨13,ia,ib,ic,ii,args⟩))/\Hs w0 g w' p (givesH h c ⟨13,ia,ib,ic,ii,args⟩)/\Fr w0.heap.size g.T w w':=by
 obtain ⟨HF,HH,HA,HI,HR,HN,HC,hb,hq,hl⟩:=mU 13 ia ib ic ii Q nl q hH hC C
 clear hH hC C
 have eH:givesH h c ⟨13,ia,ib,ic,ii,args⟩=h.new ib:=by simp [givesH]
 have eV:aG h c ⟨13,ia,ib,ic,ii,args⟩=h.newV:=by simp [aG]
 rw [eH,eV]
 clear eH eV
 have YL:=ae yG
 have z2:=ae HI.o.cs.2.2.1
 clear yG
 go_enter func136,ntmps136
 go_wp2
 refine wp_region_held_drew (S:=fun w'=>κ w' w.heap.size 2 (ι ib)) (by kernel_rfl) ?_ (fun aa=>?_)
 ·exact z2.o
 iterate 5 (refine tn rfl (by kernel_rfl) (fun _ _ _ h=>h) (by intro _ h;go_split_ands;go_simp<;>with_reducible rfl) aa ?_;try simp only [aZ])
 refine aY (i:=5) (by kernel_rfl) rfl fun K hK=>?_
 go_simp
 go_at_call 161
 refine (vB w0 g HC.o.k p h ib _ (HH.o.drewN 1) HC.o.cw.cls HC.o.cw.tree YL.o HC.o.cw.le HC.o.cw.fl).mono ?_
 rintro e w1 ⟨rfl,H1,F1⟩
 have R:=ae ((HR.o.drewN 1).keep HC.o.k F1)
 have r0:=R.o.c0
 have r1:=R.o.c1
 have fz:=R.o.fr
 have I1:=ae ((cP.mk HI.o.blk:cP ((((w.alloc (.cells #[ι 13,ι ia,ι ib,ι ic,ι ii,.slice Q nl q] 55)).alloc eI).alloc eI).drew) _ _ _ _ _ _ _ _ _).keep HC.o.k F1)
 replace H1:=ae H1
 replace F1:=ae ((HF.o.drewN 1).trans F1)
 go_wp2_with fail
 refine hK.out _ _ (I1.o.cs.2.2.1) (fun ah=>?_)
 try simp only [aZ]
 refine aY (i:=6) (by kernel_rfl) rfl fun K hK=>?_
 go_wp2_with fail
 refine hK.out _ _ (bH I1.o.cs.2.2.1 (by omega)) (fun aH=>?_)
 try simp only [aZ]
 refine wpAnyH_done (by kernel_rfl) ?_ _
 go_wp2
 refine bodyPost_ret (results_cell_row rfl _ _ (w.heap.size+1) _ _ _ _ rfl (R.o.set h.newV).blk underlying62 rfl bC) rfl ?_
 exact ⟨rfl,H1.o.cf (R.o.cf HC.o.k (by omega) _ _),(F1.o.new (Nat.le_succ _) (by omega) _).new (Nat.le_succ _) (by omega) _⟩
theorem zH (hH:Hs w0 g w p h) (hC:aK w0 w a c) (C:Cq w0 g h) (pS:0<=ib/\ib<c.locs.length) (hrc:0<=ic/\ic<c.locs.length) (Oj:cJ (c.rd ib).n) (Ok:cJ (c.rd ic).n) :
  χ 136 #[π p 0,π a.q 0,.agg #[ι 5,ι ia,ι ib,ι ic,ι ii,.slice Q nl q]] w fun e w'=>e=.returned (jh (aG h c ⟨5,ia,ib,ic,ii,args⟩))/\Hs w0 g w' p (givesH h c ⟨5,ia,ib,ic,ii,args⟩)/\Fr w0.heap.size g.T w w':=by
 obtain ⟨nb,rfl⟩:∃nb:Nat,ib=nb:=⟨ib.toNat,by omega⟩
 obtain ⟨nc,rfl⟩:∃nc:Nat,ic=nc:=⟨ic.toNat,by omega⟩
 obtain ⟨HF,HH,HA,HI,HR,HN,HC,hb,hq,hl⟩:=mU 5 ia (nb:Int) (nc:Int) ii Q nl q hH hC C
 clear hH hC C
 have eH:givesH h c ⟨5,ia,(nb:Int),(nc:Int),ii,args⟩=h.reckH (c.rd (nb:Int)) (c.rd (nc:Int)) 1 ii:=by simp [givesH]
 have eV:aG h c ⟨5,ia,(nb:Int),(nc:Int),ii,args⟩=h.reckV (c.rd (nb:Int)) (c.rd (nc:Int)) 1 ii:=by simp [aG]
 rw [eH,eV]
 clear eH eV
 have QF:nb<c.locs.length:=by omega
 have mE:nc<c.locs.length:=by omega
 have eu:c.rd (nb:Int)=nth aE c.locs nb:=by unfold aL.rd;rw [Int.toNat_natCast]
 have ev:c.rd (nc:Int)=nth aE c.locs nc:=by unfold aL.rd;rw [Int.toNat_natCast]
 rw [eu] at Oj ⊢
 rw [ev] at Ok ⊢
 have T8:Θ (∀w',aK w0 w' a c->cP w' w.heap.size 5 ia (nb:Int) (nc:Int) ii Q nl q->(fun w'=>w'.cell? ⟨a.q,8,none⟩=some (.slice (some ⟨a.lb,0,none⟩) c.locs.length a.lc)/\w'.cell? ⟨w.heap.size,2,none⟩=some (ι (nb:Int))/\w'.cell? ⟨w.heap.size,3,none⟩=some (ι (nc:Int))/\w'.cell? ⟨w.heap.size,4,none⟩=some (ι ii)/\w'.cell? ⟨a.lb,nb*2,none⟩=some (ι (nth aE c.locs nb).kind)/\w'.cell? ⟨a.lb,nb*2+1,none⟩=some (ι (nth aE c.locs nb).n)/\w'.cell? ⟨a.lb,nc*2,none⟩=some (ι (nth aE c.locs nc).kind)/\w'.cell? ⟨a.lb,nc*2+1,none⟩=some (ι (nth aE c.locs nc).n)) w'):=fun w' A I=>⟨A.cells.c8,I.cs.2.2.1,I.cs.2.2.2.1,I.cs.2.2.2.2.1,A.loc.c0 QF,A.loc.c1 QF,A.loc.c0 mE,A.loc.c1 mE⟩
 have HU:=ae (And.intro Oj Ok)
 have hlen:=HA.o.loc.len
 generalize nth aE c.locs nb=u at *
 generalize nth aE c.locs nc=v at *
 have z2:=ae (T8.o _ HA.o HI.o)
 clear Oj Ok pS hrc eu ev
 go_enter func136,ntmps136
 go_wp2
 refine wp_region_held_drew (S:=fun w'=>κ w' a.q 8 (.slice (some ⟨a.lb,0,none⟩) c.locs.length a.lc)/\κ w' w.heap.size 2 (ι (nb:Int))/\κ w' w.heap.size 3 (ι (nc:Int))/\κ w' w.heap.size 4 (ι ii)/\κ w' a.lb (nb*2) (ι u.kind)/\κ w' a.lb (nb*2+1) (ι u.n)/\κ w' a.lb (nc*2) (ι v.kind)/\κ w' a.lb (nc*2+1) (ι v.n)) (by kernel_rfl) ?_ (fun aa=>?_)
 ·exact z2.o
 iterate 22 (refine tn rfl (by kernel_rfl) (fun _ _ _ h=>h) (by intro _ h;go_split_ands;go_simp<;>with_reducible rfl) aa ?_;try simp only [aZ])
 refine aY (i:=22) (by kernel_rfl) rfl fun K hK=>?_
 go_simp
 go_at_call 159
 refine (rr w0 g p h u v 1 ii _ (HH.o.drewN 1) HC.o.cw (by omega) HU.o.1 HU.o.2).mono ?_
 rintro e w1 ⟨rfl,H1,F1⟩
 have R:=ae ((HR.o.drewN 1).keep HC.o.k F1)
 have r0:=R.o.c0
 have r1:=R.o.c1
 have fz:=R.o.fr
 have I1:=ae ((cP.mk HI.o.blk:cP ((((w.alloc (.cells #[ι 5,ι ia,ι (nb:Int),ι (nc:Int),ι ii,.slice Q nl q] 55)).alloc eI).alloc eI).drew) _ _ _ _ _ _ _ _ _).keep HC.o.k F1)
 have A1:=ae (aK.fr (w:=(((w.alloc (.cells #[ι 5,ι ia,ι (nb:Int),ι (nc:Int),ι ii,.slice Q nl q] 55)).alloc eI).alloc eI).drew) ⟨HA.o.own,HA.o.ownl,HA.o.blk,⟨HA.o.loc.blk,HA.o.loc.len⟩,HA.o.me⟩ HC.o.k HC.o.n7 F1)
 have d8:=ae (T8.o _ A1.o I1.o)
 replace H1:=ae H1
 replace F1:=ae ((HF.o.drewN 1).trans F1)
 go_wp2_with fail
 refine hK.out _ _ (d8.o) (fun ah=>?_)
 try simp only [aZ]
 refine aY (i:=23) (by kernel_rfl) rfl fun K hK=>?_
 go_wp2_with fail
 refine hK.out _ _ (⟨bH d8.o.1 (by omega),bH d8.o.2.1 (by omega),bH d8.o.2.2.1 (by omega),bH d8.o.2.2.2.1 (by omega),bH d8.o.2.2.2.2.1 (by omega),bH d8.o.2.2.2.2.2.1 (by omega),bH d8.o.2.2.2.2.2.2.1 (by omega),bH d8.o.2.2.2.2.2.2.2 (by omega)⟩) (fun aH=>?_)
 try simp only [aZ]
 refine wpAnyH_done (by kernel_rfl) ?_ _
 go_wp2
 refine bodyPost_ret (results_cell_row rfl _ _ (w.heap.size+1) _ _ _ _ rfl (R.o.set (h.reckV u v 1 ii)).blk underlying62 rfl bC) rfl ?_
 exact ⟨rfl,H1.o.cf (R.o.cf HC.o.k (by omega) _ _),(F1.o.new (Nat.le_succ _) (by omega) _).new (Nat.le_succ _) (by omega) _⟩
theorem zI (hH:Hs w0 g w p h) (hC:aK w0 w a c) (C:Cq w0 g h) (pS:0<=ib/\ib<c.locs.length) (hrc:0<=ic/\ic<c.locs.length) (Oj:cJ (c.rd ib).n) (Ok:cJ (c.rd ic).n) :
  χ 136 #[π p 0,π a.q 0,.agg #[ι 6,ι ia,ι ib,ι ic,ι ii,.slice Q nl q]] w fun e w'=>e=.returned (jh (aG h c ⟨6,ia,ib,ic,ii,args⟩))/\Hs w0 g w' p (givesH h c ⟨6,ia,ib,ic,ii,args⟩)/\Fr w0.heap.size g.T w w':=by
 obtain ⟨nb,rfl⟩:∃nb:Nat,ib=nb:=⟨ib.toNat,by omega⟩
 obtain ⟨nc,rfl⟩:∃nc:Nat,ic=nc:=⟨ic.toNat,by omega⟩
 obtain ⟨HF,HH,HA,HI,HR,HN,HC,hb,hq,hl⟩:=mU 6 ia (nb:Int) (nc:Int) ii Q nl q hH hC C
 clear hH hC C
 have eH:givesH h c ⟨6,ia,(nb:Int),(nc:Int),ii,args⟩=h.reckH (c.rd (nb:Int)) (c.rd (nc:Int)) 2 ii:=by simp [givesH]
 have eV:aG h c ⟨6,ia,(nb:Int),(nc:Int),ii,args⟩=h.reckV (c.rd (nb:Int)) (c.rd (nc:Int)) 2 ii:=by simp [aG]
 rw [eH,eV]
 clear eH eV
 have QF:nb<c.locs.length:=by omega
 have mE:nc<c.locs.length:=by omega
 have eu:c.rd (nb:Int)=nth aE c.locs nb:=by unfold aL.rd;rw [Int.toNat_natCast]
 have ev:c.rd (nc:Int)=nth aE c.locs nc:=by unfold aL.rd;rw [Int.toNat_natCast]
 rw [eu] at Oj ⊢
 rw [ev] at Ok ⊢
 have T8:Θ (∀w',aK w0 w' a c->cP w' w.heap.size 6 ia (nb:Int) (nc:Int) ii Q nl q->(fun w'=>w'.cell? ⟨a.q,8,none⟩=some (.slice (some ⟨a.lb,0,none⟩) c.locs.length a.lc)/\w'.cell? ⟨w.heap.size,2,none⟩=some (ι (nb:Int))/\w'.cell? ⟨w.heap.size,3,none⟩=some (ι (nc:Int))/\w'.cell? ⟨w.heap.size,4,none⟩=some (ι ii)/\w'.cell? ⟨a.lb,nb*2,none⟩=some (ι (nth aE c.locs nb).kind)/\w'.cell? ⟨a.lb,nb*2+1,none⟩=some (ι (nth aE c.locs nb).n)/\w'.cell? ⟨a.lb,nc*2,none⟩=some (ι (nth aE c.locs nc).kind)/\w'.cell? ⟨a.lb,nc*2+1,none⟩=some (ι (nth aE c.locs nc).n)) w'):=fun w' A I=>⟨A.cells.c8,I.cs.2.2.1,I.cs.2.2.2.1,I.cs.2.2.2.2.1,A.loc.c0 QF,A.loc.c1 QF,A.loc.c0 mE,A.loc.c1 mE⟩
 have HU:=ae (And.intro Oj Ok)
 have hlen:=HA.o.loc.len
 generalize nth aE c.locs nb=u at *
 generalize nth aE c.locs nc=v at *
 have z2:=ae (T8.o _ HA.o HI.o)
 clear Oj Ok pS hrc eu ev
 go_enter func136,ntmps136
 go_wp2
 refine wp_region_held_drew (S:=fun w'=>κ w' a.q 8 (.slice (some ⟨a.lb,0,none⟩) c.locs.length a.lc)/\κ w' w.heap.size 2 (ι (nb:Int))/\κ w' w.heap.size 3 (ι (nc:Int))/\κ w' w.heap.size 4 (ι ii)/\κ w' a.lb (nb*2) (ι u.kind)/\κ w' a.lb (nb*2+1) (ι u.n)/\κ w' a.lb (nc*2) (ι v.kind)/\κ w' a.lb (nc*2+1) (ι v.n)) (by kernel_rfl) ?_ (fun aa=>?_)
 ·exact z2.o
 iterate 22 (refine tn rfl (by kernel_rfl) (fun _ _ _ h=>h) (by intro _ h;go_split_ands;go_simp<;>with_reducible rfl) aa ?_;try simp only [aZ])
 refine aY (i:=22) (by kernel_rfl) rfl fun K hK=>?_
 go_simp
 go_at_call 159
 refine (rr w0 g p h u v 2 ii _ (HH.o.drewN 1) HC.o.cw (by omega) HU.o.1 HU.o.2).mono ?_
 rintro e w1 ⟨rfl,H1,F1⟩
 have R:=ae ((HR.o.drewN 1).keep HC.o.k F1)
 have r0:=R.o.c0
 have r1:=R.o.c1
 have fz:=R.o.fr
 have I1:=ae ((cP.mk HI.o.blk:cP ((((w.alloc (.cells #[ι 6,ι ia,ι (nb:Int),ι (nc:Int),ι ii,.slice Q nl q] 55)).alloc eI).alloc eI).drew) _ _ _ _ _ _ _ _ _).keep HC.o.k F1)
 have A1:=ae (aK.fr (w:=(((w.alloc (.cells #[ι 6,ι ia,ι (nb:Int),ι (nc:Int),ι ii,.slice Q nl q] 55)).alloc eI).alloc eI).drew) ⟨HA.o.own,HA.o.ownl,HA.o.blk,⟨HA.o.loc.blk,HA.o.loc.len⟩,HA.o.me⟩ HC.o.k HC.o.n7 F1)
 have d8:=ae (T8.o _ A1.o I1.o)
 replace H1:=ae H1
 replace F1:=ae ((HF.o.drewN 1).trans F1)
 go_wp2_with fail
 refine hK.out _ _ (d8.o) (fun ah=>?_)
 try simp only [aZ]
 refine aY (i:=23) (by kernel_rfl) rfl fun K hK=>?_
 go_wp2_with fail
 refine hK.out _ _ (⟨bH d8.o.1 (by omega),bH d8.o.2.1 (by omega),bH d8.o.2.2.1 (by omega),bH d8.o.2.2.2.1 (by omega),bH d8.o.2.2.2.2.1 (by omega),bH d8.o.2.2.2.2.2.1 (by omega),bH d8.o.2.2.2.2.2.2.1 (by omega),bH d8.o.2.2.2.2.2.2.2 (by omega)⟩) (fun aH=>?_)
 try simp only [aZ]
 refine wpAnyH_done (by kernel_rfl) ?_ _
 go_wp2
 refine bodyPost_ret (results_cell_row rfl _ _ (w.heap.size+1) _ _ _ _ rfl (R.o.set (h.reckV u v 2 ii)).blk underlying62 rfl bC) rfl ?_
 exact ⟨rfl,H1.o.cf (R.o.cf HC.o.k (by omega) _ _),(F1.o.new (Nat.le_succ _) (by omega) _).new (Nat.le_succ _) (by omega) _⟩
end
end Go.Proofs.YtgiiapenmjollaaGreat
