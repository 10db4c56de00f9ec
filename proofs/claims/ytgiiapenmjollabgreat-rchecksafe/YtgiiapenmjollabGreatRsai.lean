import Derived.Test.YtgiiapenmjollabGreatRsae
namespace Go.Proofs.YtgiiapenmjollabGreat
set_option linter.all false
set_option maxHeartbeats 40000000
set_option maxRecDepth 100000
open Go.RowKit
structure Kept (h:Hp) (c:Cal) (d:Did):Prop where
 le:Le h d.h
 gh:Gh 0 d.h
 kd:Kd d.h
 gc:d.h.over=false→Gc d.h d.c
 m:d.c.m=c.m
 pc:d.c.pc=c.pc
 nx:0≤d.nx∧d.nx≤c.m.code.length
theorem must_over {h:Hp} {b:Bool} (ho:(h.must b).over=false):h.must b=h:=by
 have:=(must_go ho).1;unfold Hp.must;rw [if_pos this]
theorem rdH_le (h:Hp) (c:Cal) (a k:Int):Le h (h.rdH c a k):=must_le h _
theorem Gh.rdH {s:Nat} {h:Hp} (g:Gh s h) (c:Cal) (a k:Int):Gh s (h.rdH c a k):=g.must _
theorem Kd.rdH {h:Hp} (g:Kd h) (c:Cal) (a k:Int):Kd (h.rdH c a k):=g.must _
theorem rdH_go {h:Hp} {c:Cal} {a k:Int} (ho:(h.rdH c a k).over=false):(c.rd a).kind=k∧h.rdH c a k=h∧h.over=false :=
 ⟨of_decide_eq_true (must_go ho).1,must_over ho,(must_go ho).2⟩
theorem wr_m (h:Hp) (c:Cal) (a:Int) (v:Va):(wrP h c a v).m=c.m∧(wrP h c a v).pc=c.pc∧(wrP h c a v).giv=c.giv∧(wrP h c a v).cau=c.cau:=by unfold wrP;split<;>exact ⟨rfl,rfl,rfl,rfl⟩
theorem givesH_le (h:Hp) (c:Cal) (i:In):Le h (givesH h c i):=by
 unfold givesH
 split;exact Le.refl h
 split;exact rdH_le ..
 split;exact reckH_le ..
 split;exact reckH_le ..
 split;exact rdH_le ..
 split;exact rdH_le ..
 split;exact (rdH_le ..).trans (rdH_le ..)
 split;exact new_le ..
 split
 ·split
  ·exact rdH_le ..
  ·exact (rdH_le ..).trans (findH_le ..)
 split
 ·split
  ·exact rdH_le ..
  ·exact (rdH_le ..).trans (must_le ..)
 exact input_le h
theorem Gh.gives {s:Nat} {h:Hp} (g:Gh s h) (c:Cal) (i:In):Gh s (givesH h c i):=by
 unfold givesH
 split;exact g
 split;exact g.rdH ..
 split;exact g.reckH ..
 split;exact g.reckH ..
 split;exact g.rdH ..
 split;exact g.rdH ..
 split;exact (g.rdH ..).rdH ..
 split;exact g.new _
 split
 ·split
  ·exact g.rdH ..
  ·exact (g.rdH ..).findH ..
 split
 ·split
  ·exact g.rdH ..
  ·exact (g.rdH ..).must _
 exact g.input
theorem Kd.gives {h:Hp} (g:Kd h) (c:Cal) (i:In):Kd (givesH h c i):=by
 unfold givesH
 split;exact g
 split;exact g.rdH _ _ _
 split;exact g.reckH _ _ _ _
 split;exact g.reckH _ _ _ _
 split;exact g.rdH _ _ _
 split;exact g.rdH _ _ _
 split;exact (g.rdH _ _ _).rdH _ _ _
 split;exact g.new _
 split
 ·split
  ·exact g.rdH _ _ _
  ·exact (g.rdH _ _ _).findH _ _
 split
 ·split
  ·exact g.rdH _ _ _
  ·exact (g.rdH _ _ _).must _
 exact g.input
theorem reck_go {h:Hp} {a b:Va} {k op:Int} (hs:(h.reckH a b k op).stops=false) (ho:h.over=false) (hth:h.thrown=-1):(h.reckV a b k op).kind=k:=by
 unfold Hp.reckH at hs
 split at hs
 ·rename_i hm
  unfold Hp.reckV
  rw [if_pos hm]
 ·rename_i hm
  exfalso
  have hb:ofBoth a b k=false:=by
   cases hx:ofBoth a b k
   ·rfl
   ·exact absurd (by unfold Hp.mustB;rw [hx,ho];rfl) hm
  rw [hb] at hs
  simp [Hp.must,Hp.fin,ho,Hp.stops] at hs
def MayC (cs:List Cl):Prop:=∀c k:Int,0≤c∧c<cs.length→0≤k∧k<(nth cl0 cs c.toNat).fields.length→(fieldT cs c k).kind≠9
theorem givesV_ok {s:Nat} {h:Hp} {c:Cal} {i:In} {ms:List Me} {n:Nat} {rt:Int} (g:Gh s h) (kd:Kd h) (gc:Gc h c) (ho:h.over=false) (hth:h.thrown=-1) (mc:MayC h.file.classes) (ok:InOk h.file.classes ms n c.m.regs rt i) (iok:i.ok)
  (hop:i.op≤9∨i.op=13∨i.op=14∨i.op=17∨i.op=24) (hs:(givesH h c i).stops=false) :
  GdV (givesH h c i) (givesV h c i)∧(givesV h c i).kind≠9∧((givesV h c i).kind=2→i.a+1<c.m.regs):=by
 have hle:=givesH_le h c i
 have num:∀(k m:Int) (h':Hp),k≠3→I64 m→GdV h' ⟨k,m⟩:=fun k m h' h1 h2=>⟨fun e=>absurd e h1,h2⟩
 have hso:(givesH h c i).over=false:=by
  unfold Hp.stops at hs;rw [Bool.or_eq_false_iff] at hs;exact hs.1
 have h1:=ok.op.1
 rcases (by omega:i.op=1∨i.op=2∨i.op=3∨i.op=4∨i.op=5∨i.op=6∨i.op=7∨i.op=8∨i.op=9∨i.op=13∨i.op=14∨i.op=17∨i.op=24) with e|e|e|e|e|e|e|e|e|e|e|e|e
 ·have eV:givesV h c i=⟨1,i.n⟩:=by simp [givesV,e]
  rw [eV]
  exact ⟨num _ _ _ (by omega) iok.2.2.2.2,(by show (1:Int)≠9;omega),fun x=>by have:(1:Int)=2:=x;omega⟩
 ·have eV:givesV h c i=⟨2,i.n⟩:=by simp [givesV,e]
  rw [eV]
  exact ⟨num _ _ _ (by omega) iok.2.2.2.2,(by show (2:Int)≠9;omega),fun x=>ok.two (by omega)⟩
 ·have eV:givesV h c i=⟨3,-1⟩:=by simp [givesV,e]
  rw [eV]
  exact ⟨⟨fun _=>⟨Int.le_refl _,by show (-1:Int)<_;omega⟩,by show I64 (-1);unfold I64;omega⟩,(by decide),fun x=>absurd x (by decide)⟩
 ·have eV:givesV h c i=c.rd i.b:=by simp [givesV,e]
  have eH:givesH h c i=h.rdH c i.b i.c:=by simp [givesH,e]
  rw [eH] at hso hle
  have hk:=(rdH_go hso).1
  have hm:=ok.move e
  rw [eV,eH]
  exact ⟨(gc.rd (ok.b (by omega))).le hle,by omega,fun x=>ok.two (by omega)⟩
 ·have eV:givesV h c i=h.reckV (c.rd i.b) (c.rd i.c) 1 i.n:=by simp [givesV,e]
  have eH:givesH h c i=h.reckH (c.rd i.b) (c.rd i.c) 1 i.n:=by simp [givesH,e]
  rw [eH] at hs
  have hk:=reck_go hs ho hth
  rw [eV]
  exact ⟨reckV_gd _ _ _ _ _ _ (by omega) (gc.rd (ok.b (by omega))).num,by omega,fun x=>by omega⟩
 ·have eV:givesV h c i=h.reckV (c.rd i.b) (c.rd i.c) 2 i.n:=by simp [givesV,e]
  have eH:givesH h c i=h.reckH (c.rd i.b) (c.rd i.c) 2 i.n:=by simp [givesH,e]
  rw [eH] at hs
  have hk:=reck_go hs ho hth
  rw [eV]
  exact ⟨reckV_gd _ _ _ _ _ _ (by omega) (gc.rd (ok.b (by omega))).num,by omega,fun x=>ok.two (by omega)⟩
 ·have eV:givesV h c i=⟨2,(c.rd i.b).n⟩:=by simp [givesV,e]
  rw [eV]
  exact ⟨num _ _ _ (by omega) (gc.rd (ok.b (by omega))).num,(by show (2:Int)≠9;omega),fun x=>ok.two (by omega)⟩
 ·have eV:givesV h c i=⟨1,wrap32 (c.rd i.b).n⟩:=by simp [givesV,e]
  rw [eV]
  exact ⟨num _ _ _ (by omega) (i64_w32 _),(by show (1:Int)≠9;omega),fun x=>by have:(1:Int)=2:=x;omega⟩
 ·have eV:givesV h c i=⟨1,cmpV (c.rd i.b).n (c.rd i.c).n⟩:=by simp [givesV,e]
  rw [eV]
  exact ⟨num _ _ _ (by omega) (by unfold cmpV;split;(unfold I64;omega);split<;>(unfold I64;omega)),(by show (1:Int)≠9;omega),fun x=>by have:(1:Int)=2:=x;omega⟩
 ·have eV:givesV h c i=h.newV:=by simp [givesV,e]
  have eH:givesH h c i=h.new i.b:=by simp [givesH,e]
  rw [eV,eH]
  refine ⟨newV_gd h _,?_,?_⟩
  ·unfold Hp.newV;split
   ·decide
   ·show (3:Int)≠9;omega
  ·unfold Hp.newV;split
   ·intro x;exact absurd x (by decide)
   ·intro x;have:(3:Int)=2:=x;omega
 ·have eV:givesV h c i=(if (h.rdH c i.b 3).over=true then va0 else (h.rdH c i.b 3).getV (c.rd i.b) i.c i.n):=by simp [givesV,e]
  have eH:givesH h c i=(if (h.rdH c i.b 3).over=true then h.rdH c i.b 3 else (h.rdH c i.b 3).findH (c.rd i.b) i.c):=by simp [givesH,e]
  rw [eV,eH]
  rw [eH] at hs hso
  split
  ·rename_i hx;rw [if_pos hx] at hso;rw [hx] at hso;cases hso
  ·rename_i hx
   rw [if_neg hx] at hs hso
   obtain ⟨k1,k2,k3⟩:=rdH_go (by simpa using hx)
   rw [k2] at hs hso ⊢
   have gr:=gc.rd (ok.b (by omega))
   refine ⟨(getV_gd g _ _ _ gr).le (findH_le _ _ _),?_,?_⟩
   all_goals
    by_cases hn:h.findN (c.rd i.b) i.c i.n<0
   ·unfold Hp.getV;rw [if_pos hn];decide
   ·rw [getV_kind kd gr hn]
    have hf:=ok.fld (by omega)
    exact mc _ _ ⟨hf.1,hf.2.1⟩ ⟨hf.2.2.1,hf.2.2.2⟩
   ·unfold Hp.getV;rw [if_pos hn];intro x;exact absurd x (by decide)
   ·rw [getV_kind kd gr hn]
    intro x
    exact ok.two (Or.inr (Or.inr (Or.inr (Or.inr (Or.inr (Or.inr ⟨e,x⟩))))))
 ·have eV:givesV h c i=(if (h.rdH c i.b 3).over=true then va0 else (h.rdH c i.b 3).isV (c.rd i.b) i.c):=by simp [givesV,e]
  rw [eV]
  split
  ·exact ⟨gdV0 _,by decide,fun x=>absurd x (by decide)⟩
  ·exact ⟨num _ _ _ (by omega) (by split<;>(unfold I64;omega)),(by show (1:Int)≠9;omega),fun x=>by have:(1:Int)=2:=x;omega⟩
 ·have eV:givesV h c i=h.inV:=by simp [givesV,e]
  have eH:givesH h c i=h.input':=by simp [givesH,e]
  rw [eV,eH]
  refine ⟨(inV_gd g).le (input_le h),?_,fun x=>ok.two (by omega)⟩
  unfold Hp.inV;split
  ·decide
  ·show (2:Int)≠9;omega
theorem does_kept {h:Hp} {c:Cal} {i:In} {ms:List Me} {rt:Int} (gh:Gh 1 h) (kd:Kd h) (gc:Gc h c) (ho:h.over=false) (hth:h.thrown=-1) (mc:MayC h.file.classes) (ok:InOk h.file.classes ms c.m.code.length c.m.regs rt i) (iok:i.ok) (hc:i.op≠18) (hr:i.op≠20) (hp:0≤c.pc∧c.pc<c.m.code.length):Kept h c (doesP h c i):=by
 have hns:h.stops=false:=by unfold Hp.stops;rw [ho,hth];rfl
 have hnx:0≤c.pc+1∧c.pc+1≤c.m.code.length:=by omega
 have gl:∀h',Le h h'→Gc h' c.clr:=fun h' l=>gc.clr.le l
 unfold doesP
 split
 ·rename_i e
  exact ⟨Le.refl h,gh.less,kd,fun _=>gc.clr,rfl,rfl,by have:=ok.jump (Or.inl e);dsimp only;omega⟩
 split
 ·rename_i e
  have hj:=ok.jump (Or.inr (Or.inl e))
  unfold ifP
  exact ⟨rdH_le ..,(gh.rdH ..).less,kd.rdH _ _ _,fun _=>gl _ (rdH_le ..),rfl,rfl,by dsimp only;split<;>omega⟩
 split
 ·rename_i e
  have hj:=ok.jump (Or.inr (Or.inr e))
  unfold ifnP
  exact ⟨rdH_le ..,(gh.rdH ..).less,kd.rdH _ _ _,fun _=>gl _ (rdH_le ..),rfl,rfl,by dsimp only;split<;>omega⟩
 split
 ·rename_i e
  unfold putP
  dsimp only
  generalize (fieldT h.file.classes i.c i.n).kind=q
  have l2:=(rdH_le h c i.b 3).trans (rdH_le (h.rdH c i.b 3) c i.a q)
  have g2:=(gh.rdH c i.b 3).rdH c i.a q
  have k2:=(kd.rdH c i.b 3).rdH c i.a q
  have gv:=(gc.rd (ok.a (by omega))).le l2
  generalize (h.rdH c i.b 3).rdH c i.a q=h2 at l2 g2 k2 gv
  split
  ·exact ⟨l2,g2.less,k2,fun _=>gl _ l2,rfl,rfl,hnx⟩
  ·exact ⟨l2.trans (put_le ..),(g2.put _ _ _ _ gv).less,k2.put _ _ _ _,fun _=>gl _ (l2.trans (put_le ..)),rfl,rfl,hnx⟩
 split
 ·rename_i e
  unfold castP
  have l2:=rdH_le h c i.a 3
  have g2:=gh.rdH c i.a 3
  have k2:=kd.rdH c i.a 3
  generalize h.rdH c i.a 3=h2 at l2 g2 k2
  split
  ·exact ⟨l2,g2.less,k2,fun _=>gl _ l2,rfl,rfl,hnx⟩
  ·exact ⟨l2.trans (cast_le ..),(g2.cast _ _).less,k2.cast _ _,fun _=>gl _ (l2.trans (cast_le ..)),rfl,rfl,hnx⟩
 split
 ·rename_i e
  have hk:=ok.res e
  have ha:=ok.a (by omega)
  unfold resP
  refine ⟨must_le ..,(gh.must _).less,kd.must _,fun hov=>?_,?_,?_,hnx⟩
  ·dsimp only at hov ⊢
   have e1:=must_over hov
   have e2:c.giv.kind=i.b:=of_decide_eq_true (must_go hov).1
   rw [e1,if_pos (by unfold Hp.mustB;rw [ho,e2];simp)]
   exact gc.clr.wr (fun _=>⟨gc.giv,by omega,fun x=>ok.two (by omega)⟩) ha.1
  ·dsimp only;split
   ·exact (wr_m ..).1
   ·rfl
  ·dsimp only;split
   ·exact (wr_m ..).2.1
   ·rfl
 split
 ·rename_i e
  unfold thrP
  have l2:=rdH_le h c i.a 3
  have g2:=gh.rdH c i.a 3
  have k2:=kd.rdH c i.a 3
  have gv:=(gc.rd (ok.a (by omega))).le l2
  generalize h.rdH c i.a 3=h2 at l2 g2 k2 gv
  split
  ·exact ⟨l2,g2.less,k2,fun _=>gl _ l2,rfl,rfl,hnx⟩
  ·exact ⟨l2.trans (throw_le ..),(g2.throw _ gv).less,k2.throw _,fun _=>gl _ (l2.trans (throw_le ..)),rfl,rfl,hnx⟩
 split
 ·rename_i e
  have ha:=ok.a (by omega)
  unfold cauP
  refine ⟨must_le ..,(gh.must _).less,kd.must _,fun hov=>?_,?_,?_,hnx⟩
  ·dsimp only at hov ⊢
   have e1:=must_over hov
   have e2:c.cau.kind=3:=of_decide_eq_true (must_go hov).1
   rw [e1,if_pos (by unfold Hp.mustB isRef;rw [ho,e2];simp)]
   exact gc.clr.wr (fun _=>⟨gc.cau,by omega,fun x=>by omega⟩) ha.1
  ·dsimp only;split
   ·exact (wr_m ..).1
   ·rfl
  ·dsimp only;split
   ·exact (wr_m ..).2.1
   ·rfl
 split
 ·rename_i e
  unfold emitP
  have l2:=rdH_le h c i.a i.b
  have g2:=gh.rdH c i.a i.b
  have k2:=kd.rdH c i.a i.b
  generalize h.rdH c i.a i.b=h2 at l2 g2 k2
  split
  ·exact ⟨l2,g2.less,k2,fun _=>gl _ l2,rfl,rfl,hnx⟩
  ·exact ⟨l2.trans (emit_le ..),g2.emit _ _,k2.emit _ _,fun _=>gl _ (l2.trans (emit_le ..)),rfl,rfl,hnx⟩
 ·have hop:=ok.op
  have ha:=ok.a (by omega)
  unfold givesP
  refine ⟨givesH_le ..,(gh.gives ..).less,kd.gives _ _,fun _=>?_,(wr_m ..).1,(wr_m ..).2.1,hnx⟩
  exact (gl _ (givesH_le ..)).wr (fun hs=>givesV_ok gh kd gc ho hth mc ok iok (by omega) hs) ha.1
theorem of_kind {h:Hp} {v:Va} {t:Ty} (ho:h.of v t=true):v.kind=t.kind:=by
 unfold Hp.of at ho
 rw [Bool.and_eq_true] at ho
 exact of_decide_eq_true ho.1
theorem ty_kind {n:Nat} {t:Ty} (h:tyB n t=true):1≤t.kind∧t.kind≤3:=by
 have:=of_decide_eq_true h
 omega
theorem enter_sizes (h:Hp) (n:Nat):∀(l:List Va) (k:List Ty),l.length=k.length→h.enterL l k=true→(∀t∈k,tyB n t=true)→sizP l=slotsN k∧∀v∈l,1≤v.kind∧v.kind≤3
 | [],[],_,_,_=>⟨rfl,fun v hv=>by simp at hv⟩
 | [],_::_,hl,_,_=>by simp at hl
 | _::_,[],hl,_,_=>by simp at hl
 | v::l,t::k,hl,he,ht=>by
  unfold Hp.enterL at he
  rw [Bool.and_eq_true] at he
  have ih:=enter_sizes h n l k (by simpa using hl) he.2 (fun x hx=>ht x (List.mem_cons_of_mem _ hx))
  have hk:=of_kind he.1
  have htk:=ty_kind (ht t (List.mem_cons_self ..))
  refine ⟨?_,fun x hx=>?_⟩
  ·simp only [sizP,slotsN,ih.1,hk]
  ·rw [List.mem_cons] at hx
   rcases hx with rfl|hx
   ·omega
   ·exact ih.2 x hx
theorem siz_one (v:Va):sizP [v]=if v.kind=2 then 2 else 1:=by simp [sizP]
theorem args_kept (h:Hp):∀(l:List Va) (l0:List Va) (at':Nat),LocOk l0→(∀x∈l0,GdV h x)→(∀x∈l,GdV h x)→(∀v∈l,1≤v.kind∧v.kind≤3)→at'+sizP l≤l0.length →
  LocOk (argsP l0 at' l)∧(∀x∈argsP l0 at' l,GdV h x)∧(argsP l0 at' l).length=l0.length
 | [],l0,at',h1,h2,_,_,_=>⟨h1,h2,rfl⟩
 | v::l,l0,at',h1,h2,h3,h4,h5=>by
  have hv:=h3 v (List.mem_cons_self ..)
  have hk:=h4 v (List.mem_cons_self ..)
  have es:sizP (v::l)=(if v.kind=2 then 2 else 1)+sizP l:=rfl
  have ih:=args_kept h l (stoP l0 at' v) (at'+sizP [v]) (sto_ok h1 at' v (by omega) (fun e=>by rw [es,if_pos e] at h5;omega)) (sto_gd h2 hv at') (fun x hx=>h3 x (List.mem_cons_of_mem _ hx)) (fun x hx=>h4 x (List.mem_cons_of_mem _ hx)) (by rw [stoP_length,siz_one];rw [es] at h5;omega)
  refine ⟨ih.1,ih.2.1,?_⟩
  show (argsP (stoP l0 at' v) (at'+sizP [v]) l).length=_
  rw [ih.2.2,stoP_length]
theorem rep_ok (n:Nat):LocOk (List.replicate n va0):=by
 have key:∀i,nth va0 (List.replicate n va0) i=va0:=fun i=>by simp [nth,List.getD,List.getElem?_replicate];split<;>rfl
 exact ⟨fun i _ hk=>by rw [key] at hk;exact absurd hk (by decide),fun i _ hk=>by rw [key] at hk;exact absurd hk (by decide)⟩
theorem new_kept {h:Hp} {m:Me} {l:List Va} (hm:rmeB h.file.classes h.file.methods m=true) (hok:∀i∈m.code,i.ok) (hl:l.length=m.params.length) (hg:∀v∈l,GdV h v) (he:h.enterL l m.params=true):Gc h (newCal m l):=by
 obtain ⟨p1,p2,p3,p5,p6,p7,p8,p9,p10,p11⟩:=smeP hm
 obtain ⟨s1,s2⟩:=enter_sizes h h.file.classes.length l m.params hl he p9
 obtain ⟨k1,k2,k3⟩:=args_kept h l (List.replicate m.regs.toNat va0) 0 (rep_ok _) (fun x hx=>by rw [List.eq_of_mem_replicate hx];exact gdV0 h) hg s2 (by rw [List.length_replicate];omega)
 refine ⟨gdV0 h,gdV0 h,k2,k1,?_,hm,hok⟩
 show ((argsP (List.replicate m.regs.toNat va0) 0 l).length:Int)=m.regs
 rw [k3,List.length_replicate];omega
structure Left' (h:Hp) (r:Hp×Va) (d:Int):Prop where
 file:r.1.file=h.file
 input:r.1.input=h.input
 fuel:r.1.fuel=h.fuel
 objs:h.objs.length≤r.1.objs.length
 steps:h.sh.steps≤r.1.sh.steps
 calls:r.1.calls=h.calls-d
 gh:Gh 0 r.1
 kd:Kd r.1
 gv:GdV r.1 r.2
theorem leave_left {h h1:Hp} {v:Va} (l:Le h h1) (g:Gh 0 h1) (kd:Kd h1) (hc:1≤h.calls) (gv:GdV h1 v):Left' h (h1.leave,v) 1:=by
 have hcc:=l.calls
 have:=g.calls
 refine ⟨l.file,l.input,l.fuel,l.objs,l.steps,?_,?_,kd.same rfl rfl,⟨gv.ref,gv.num⟩⟩
 ·show h1.calls-1=_;omega
 ·exact ⟨fun o ho x hx=>⟨(g.held o ho x hx).ref,(g.held o ho x hx).num⟩,g.thr,g.used,g.steps,g.fuel,g.out,g.len,g.inp,by show 0≤h1.calls-1∧h1.calls-1≤20;omega⟩
theorem Left'.from {h h1:Hp} {r:Hp×Va} {d:Int} (l:Le h h1) (k:Left' h1 r d):Left' h r d :=
 ⟨k.file.trans l.file,k.input.trans l.input,k.fuel.trans l.fuel,Nat.le_trans l.objs k.objs,Int.le_trans l.steps k.steps,by rw [k.calls,l.calls],k.gh,k.kd,k.gv⟩
theorem Left'.le {h:Hp} {r:Hp×Va} (k:Left' h r 0):Le h r.1:=⟨k.file,k.input,k.fuel,k.objs,k.steps,by rw [k.calls];omega⟩
def Inv (h:Hp) (c:Cal):Prop:=h.over=false→h.thrown=-1∧Gc h c∧0≤c.pc∧c.pc≤c.m.code.length
def GoOk (f:Fi) (go:Hp→Cal→Hp×Va):Prop:=∀h c,h.file=f→Gh 0 h→Kd h→1≤h.calls→Inv h c→Left' h (go h c) 1
def MayF (f:Fi):Prop:=MayC f.classes∧∀m∈f.methods,rmeB f.classes f.methods m=true∧∀i∈m.code,i.ok
theorem run_kept {f:Fi} {go:Hp→Cal→Hp×Va} (G:GoOk f go) {h:Hp} {m:Me} {l:List Va} (hf:h.file=f) (gh:Gh 0 h) (kd:Kd h) (ho:h.over=false) (hth:h.thrown=-1) (hm:rmeB h.file.classes h.file.methods m=true) (hok:∀i∈m.code,i.ok) (hl:l.length=m.params.length) (hg:∀v∈l,GdV h v):Left' h (runP go h m l) 0:=by
 unfold runP
 split
 ·rename_i hb
  unfold Hp.enterB at hb
  rw [Bool.and_eq_true] at hb
  have hd:h.deep=false:=by simpa using hb.2
  have he:h.enterH m l={ h with calls:=h.calls+1 }:=by unfold Hp.enterH;rw [if_neg (by rw [hb.1];decide),if_neg (by rw [hd];decide)]
  rw [he]
  have hc:h.calls<20:=by unfold Hp.deep at hd;simpa using hd
  have hcc:=gh.calls
  have g1:Gh 0 { h with calls:=h.calls+1 }:=⟨fun o ho x hx=>⟨(gh.held o ho x hx).ref,(gh.held o ho x hx).num⟩,gh.thr,gh.used,gh.steps,gh.fuel,gh.out,gh.len,gh.inp,by dsimp only;omega⟩
  have gc:=new_kept hm hok hl hg hb.1
  have gc1:Gc { h with calls:=h.calls+1 } (newCal m l):=⟨⟨gc.giv.ref,gc.giv.num⟩,⟨gc.cau.ref,gc.cau.num⟩,fun v hv=>⟨(gc.locs v hv).ref,(gc.locs v hv).num⟩,gc.ok,gc.len,gc.me,gc.mok⟩
  have r:=G { h with calls:=h.calls+1 } (newCal m l) hf g1 (kd.same rfl rfl) (by dsimp only;omega) (fun _=>⟨hth,gc1,Int.le_refl _,by show (0:Int)≤_;omega⟩)
  exact ⟨r.file,r.input,r.fuel,r.objs,r.steps,by rw [r.calls];dsimp only;omega,r.gh,r.kd,r.gv⟩
 ·have le:Le h (h.enterH m l)∧Gh 0 (h.enterH m l)∧Kd (h.enterH m l):=by
   rename_i hb
   unfold Hp.enterB at hb
   unfold Hp.enterH
   split
   ·exact ⟨fin_le h 6,gh.fin 6,kd.fin 6⟩
   ·rename_i h1
    split
    ·exact ⟨fin_le h 5,gh.fin 5,kd.fin 5⟩
    ·rename_i h2
     exfalso;apply hb
     rw [Bool.and_eq_true]
     refine ⟨?_,?_⟩
     ·cases hx:h.enterL l m.params
      ·exact absurd hx h1
      ·rfl
     ·cases hx:h.deep
      ·rfl
      ·exact absurd hx h2
  exact ⟨le.1.file,le.1.input,le.1.fuel,le.1.objs,le.1.steps,by rw [le.1.calls];omega,le.2.1,le.2.2,gdV0 _⟩
theorem rds_length (c:Cal):∀(l:List Int) (k:List Ty),l.length=k.length→(c.rds l k).length=k.length
 | [],[],_=>rfl
 | [],_::_,h=>by simp at h
 | _::_,[],h=>by simp at h
 | a::l,t::k,h=>by
  show (c.rds l k).length+1=k.length+1
  rw [rds_length c l k (by simpa using h)]
theorem rds_gd {h:Hp} {c:Cal} (g:Gc h c):∀(l:List Int) (k:List Ty),(∀j,j<l.length→0≤nth (0:Int) l j∧nth (0:Int) l j<c.m.regs)→∀v∈c.rds l k,GdV h v
 | [],_,_,v,hv=>by simp [Cal.rds] at hv
 | _::_,[],_,v,hv=>by simp [Cal.rds] at hv
 | a::l,t::k,hl,v,hv=>by
  unfold Cal.rds at hv
  rw [List.mem_cons] at hv
  rcases hv with rfl|hv
  ·exact g.rd (hl 0 (by simp))
  ·exact rds_gd g l k (fun j hj=>hl (j+1) (by simp;omega)) v hv
theorem rdsH_le (c:Cal):∀(l:List Int) (k:List Ty) (h:Hp),Le h (h.rdsH c l k)
 | [],_,h=>Le.refl h
 | _::_,[],h=>Le.refl h
 | a::l,t::k,h=>(rdH_le h c a t.kind).trans (rdsH_le c l k _)
theorem Gh.rdsH {s:Nat} (c:Cal):∀(l:List Int) (k:List Ty) {h:Hp},Gh s h→Gh s (h.rdsH c l k)
 | [],_,h,g=>g
 | _::_,[],h,g=>g
 | a::l,t::k,h,g=>Gh.rdsH c l k (g.rdH c a t.kind)
theorem Kd.rdsH (c:Cal):∀(l:List Int) (k:List Ty) {h:Hp},Kd h→Kd (h.rdsH c l k)
 | [],_,h,g=>g
 | _::_,[],h,g=>g
 | a::l,t::k,h,g=>Kd.rdsH c l k (g.rdH c a t.kind)
theorem rdsH_go (c:Cal):∀(l:List Int) (k:List Ty) {h:Hp},(h.rdsH c l k).over=false→h.rdsH c l k=h
 | [],_,h,_=>rfl
 | _::_,[],h,_=>rfl
 | a::l,t::k,h,ho=>by
  have e:=rdsH_go c l k (h:=h.rdH c a t.kind) ho
  have ho':(h.rdH c a t.kind).over=false:=by rw [←e];exact ho
  show (h.rdH c a t.kind).rdsH c l k=h
  rw [e];exact (rdH_go ho').2.1
theorem call_kept {f:Fi} {go:Hp→Cal→Hp×Va} (G:GoOk f go) {h:Hp} {c:Cal} {i:In} {n:Nat} {rt:Int} (hf:h.file=f) (gh:Gh 0 h) (kd:Kd h) (gc:Gc h c) (ho:h.over=false) (hth:h.thrown=-1) (hmay:MayF h.file) (ok:InOk h.file.classes h.file.methods n c.m.regs rt i) (e:i.op=18) (hp:0≤c.pc∧c.pc<c.m.code.length):Kept h c (callP go h c i):=by
 have hnx:0≤c.pc+1∧c.pc+1≤c.m.code.length:=by omega
 obtain ⟨c1,c2,c3⟩:=ok.call e
 have hmm:=hmay.2 _ (nth_mem (d:=me0) (i:=i.a.toNat) (by omega:i.a.toNat<h.file.methods.length))
 unfold callP
 dsimp only
 generalize hM:nth me0 h.file.methods i.a.toNat=m at *
 have l1:=rdsH_le c i.args m.params h
 have g1:=Gh.rdsH c i.args m.params gh
 have k1:=Kd.rdsH c i.args m.params kd
 split
 ·exact ⟨l1,g1,k1,fun _=>gc.clr.le l1,rfl,rfl,hnx⟩
 ·rename_i hov
  have e1:=rdsH_go c i.args m.params (h:=h) (by simpa using hov)
  rw [e1] at *
  have r:=run_kept G hf gh kd ho hth hmm.1 hmm.2 (rds_length c _ _ c3) (rds_gd gc _ _ (ok.args e))
  have gl:=gc.clr.le r.le
  exact ⟨r.le,r.gh,r.kd,fun _=>⟨r.gv,gl.cau,gl.locs,gl.ok,gl.len,gl.me,gl.mok⟩,rfl,rfl,hnx⟩
theorem caught_at {h:Hp} {pc:Int} {n k:Nat}:∀l:List Hd,(∀x∈l,hdB k n x=true)→h.caughtL pc l=-1∨(0≤h.caughtL pc l∧h.caughtL pc l<n)
 | [],_=>Or.inl rfl
 | x::l,hx=>by
  unfold Hp.caughtL;split
  ·have:=of_decide_eq_true (hx x (List.mem_cons_self ..));right;omega
  ·exact caught_at l (fun y hy=>hx y (List.mem_cons_of_mem _ hy))
theorem next_kept {f:Fi} {go:Hp→Cal→Hp×Va} (G:GoOk f go) {h:Hp} {c:Cal} {d:Did} (hf:h.file=f) (k:Kept h c d) (hc:1≤h.calls):Left' h (nextP go d) 1:=by
 unfold nextP
 split
 ·exact leave_left k.le k.gh k.kd hc (gdV0 _)
 ·rename_i hov
  have hov':d.h.over=false:=by simpa using hov
  have gc:=k.gc hov'
  have hcc:=k.le.calls
  split
  ·rename_i ht
   split
   ·exact leave_left k.le k.gh k.kd hc (gdV0 _)
   ·rename_i hn
    have gt:Gh 0 { d.h with thrown:=-1 }:=k.gh.same rfl rfl rfl rfl rfl rfl rfl ⟨by dsimp only;omega,by dsimp only;omega⟩
    have lt:Le d.h { d.h with thrown:=-1 }:=⟨rfl,rfl,rfl,Nat.le_refl _,Int.le_refl _,rfl⟩
    have gv:GdV { d.h with thrown:=-1 } ⟨3,d.h.thrown⟩:=⟨fun _=>⟨by dsimp only;omega,k.gh.thr.2⟩,by have:=k.gh.thr;have:=k.gh.len;dsimp only;unfold I64;omega⟩
    have gl:=gc.le lt
    refine Left'.from (k.le.trans lt) (G _ _ (k.le.file.trans hf) gt (k.kd.same rfl rfl) (by show 1≤d.h.calls;omega) ?_)
    intro _
    refine ⟨rfl,⟨gl.giv,gv,gl.locs,gl.ok,gl.len,gl.me,gl.mok⟩,by show 0≤d.h.caughtL d.c.pc d.c.m.hands;omega,?_⟩
    have h1:=caught_at (h:=d.h) (pc:=d.c.pc) (n:=d.c.m.code.length) (k:=d.h.file.classes.length) d.c.m.hands (smeP gc.me).2.2.2.2.2.2.2.2.1
    show d.h.caughtL d.c.pc d.c.m.hands≤d.c.m.code.length
    omega
  ·rename_i ht
   have ht':d.h.thrown=-1:=by have:=k.gh.thr;omega
   refine Left'.from k.le (G _ _ (k.le.file.trans hf) k.gh k.kd (by omega) fun _=>⟨ht',gc.pc _,k.nx.1,?_⟩)
   show d.nx≤d.c.m.code.length
   rw [k.m];exact k.nx.2
theorem ret_kept {h:Hp} {c:Cal} {i:In} {cs:List Cl} {ms:List Me} {n:Nat} (gh:Gh 0 h) (kd:Kd h) (hc:1≤h.calls) (gc:Gc h c) (ok:InOk cs ms n c.m.regs c.m.ret.kind i) (e:i.op=20):Left' h (retP h c i) 1:=by
 unfold retP;split
 ·exact leave_left (Le.refl h) gh kd hc (gdV0 _)
 ·rename_i hr
  dsimp only
  have l1:=rdH_le h c i.a c.m.ret.kind
  have g1:=gh.rdH c i.a c.m.ret.kind
  have k1:=kd.rdH c i.a c.m.ret.kind
  generalize h.rdH c i.a c.m.ret.kind=h1 at l1 g1 k1
  have l2:=l1.trans (must_le h1 (!h1.over&&h1.of (c.rd i.a) c.m.ret))
  exact leave_left l2 (g1.must _) (k1.must _) hc ((gc.rd (ok.ret e hr)).le l2)
theorem code_ok {h:Hp} {c:Cal} (gc:Gc h c) (hp:0≤c.pc∧c.pc<c.m.code.length):InOk h.file.classes h.file.methods c.m.code.length c.m.regs c.m.ret.kind (nth in0 c.m.code c.pc.toNat)∧(nth in0 c.m.code c.pc.toNat).ok:=by
 have hlt:c.pc.toNat<c.m.code.length:=by omega
 have h8:=(smeP gc.me).2.2.2.2.2.2.1 _ (nth_mem (d:=in0) hlt)
 exact ⟨rin_ok h8,gc.mok _ (nth_mem hlt)⟩
theorem step_kept {f:Fi} {go:Hp→Cal→Hp×Va} (G:GoOk f go) {h:Hp} {c:Cal} (hf:h.file=f) (hmay:MayF f) (gh:Gh 1 h) (kd:Kd h) (hc:1≤h.calls) (ho:h.over=false) (hth:h.thrown=-1) (gc:Gc h c) (hp:0≤c.pc∧c.pc≤c.m.code.length):Left' h (stepP go h c) 1:=by
 unfold stepP;split
 ·exact leave_left (must_le _ _) (gh.must _).less (kd.must _) hc (gdV0 _)
 ·rename_i hm
  have hm':h.mustB (decide (c.pc<c.m.code.length))=true:=by simpa using hm
  have hlt:c.pc<c.m.code.length:=of_decide_eq_true (mustB_true hm').1
  obtain ⟨ok,iok⟩:=code_ok gc ⟨hp.1,hlt⟩
  split
  ·rename_i e
   exact ret_kept gh.less kd hc gc ok e
  ·rename_i er
   refine next_kept G hf (c:=c) ?_ hc
   split
   ·rename_i e
    exact call_kept G hf gh.less kd gc ho hth (hf▸hmay) ok e ⟨hp.1,hlt⟩
   ·rename_i e
    exact does_kept gh kd gc ho hth (hf▸hmay).1 ok iok e er ⟨hp.1,hlt⟩
theorem loop_kept (f:Fi) (hmay:MayF f):∀n:Nat,GoOk f (loopP n):=by
 intro n
 induction n with
 | zero =>
  intro h c hf gh kd hc hi
  show Left' h (h.step.leave,va0) 1
  refine leave_left (step_le h) ?_ kd.step hc (gdV0 _)
  cases hb:h.stepB
  ·exact gh.step0 hb
  ·exact (gh.step hb).less
 | succ n ih =>
  intro h c hf gh kd hc hi
  unfold loopP
  split
  ·rename_i hb
   exact leave_left (step_le h) (gh.step0 hb) kd.step hc (gdV0 _)
  ·rename_i hb
   have hb':h.stepB=true:=by simpa using hb
   have ho:h.over=false:=by unfold Hp.stepB at hb';simp at hb';exact hb'.1
   obtain ⟨hth,gc,hp⟩:=hi ho
   have hs:h.step={ h with sh:={ h.sh with steps:=h.sh.steps+1 } }:=by
    unfold Hp.stepB at hb';simp at hb'
    unfold Hp.step;rw [if_neg (by rw [ho];decide),if_neg (by omega)]
   have l:=step_le h
   refine Left'.from l (step_kept ih (l.file.trans hf) hmay (gh.step hb') kd.step (by rw [l.calls];exact hc) ?_ ?_ (gc.le l) hp)
   ·rw [hs];exact ho
   ·rw [hs];exact hth
structure As where
 slots:List Ty
 stk:List Ty
def losT (l:List Ty) (a:Nat):List Ty:=if (nth ty0 l a).kind=2 then l.set (a+1) ty0 else if (nth ty0 l a).kind=4 then l.set (a-1) ty0 else l
def wrT (l:List Ty) (a:Nat) (v:Ty):List Ty :=
 if v.kind=2 then (((losT (losT l a) (a+1)).set (a+1) ⟨4,0⟩).set a v) else (losT l a).set a v
theorem losT_length (l:List Ty) (a:Nat):(losT l a).length=l.length:=by unfold losT;split<;>(try split)<;>simp
theorem wrT_length (l:List Ty) (a:Nat) (v:Ty):(wrT l a v).length=l.length:=by unfold wrT;split<;>simp [losT_length]
def fitB (cs:List Cl) (v t:Ty):Bool:=decide (v.kind=t.kind)&&(decide (t.kind≠3)||(decide (v.cls=-1)||decide (joinN cs v.cls.toNat t.cls.toNat=t.cls.toNat)))
structure FitV (h:Hp) (t:Ty) (v:Va):Prop where
 one:t.kind=1→v.kind=1
 two:t.kind=2→v.kind=2
 ref:t.kind=3→v.kind=3∧(0≤v.n→v.n<h.objs.length∧belI h.file.classes (h.obj v.n).cls t.cls=true)
 sec:t.kind=4→v.kind=9
structure Ext (h h':Hp):Prop where
 file:h'.file=h.file
 len:h.objs.length≤h'.objs.length
 cls:∀n,n<h.objs.length→(nth ob0 h'.objs n).cls=(nth ob0 h.objs n).cls
theorem Ext.refl (h:Hp):Ext h h:=⟨rfl,Nat.le_refl _,fun _ _=>rfl⟩
theorem Ext.trans {a b c:Hp} (x:Ext a b) (y:Ext b c):Ext a c:=⟨y.file.trans x.file,Nat.le_trans x.len y.len,fun n hn=>(y.cls n (Nat.lt_of_lt_of_le hn x.len)).trans (x.cls n hn)⟩
theorem FitV.ext {h h':Hp} {t:Ty} {v:Va} (g:FitV h t v) (e:Ext h h'):FitV h' t v:=by
 refine ⟨g.one,g.two,fun hk=>⟨(g.ref hk).1,fun hn=>?_⟩,g.sec⟩
 obtain ⟨h1,h2⟩:=(g.ref hk).2 hn
 have hl:v.n.toNat<h.objs.length:=by omega
 have e1:(h'.obj v.n).cls=(h.obj v.n).cls:=e.cls _ hl
 refine ⟨by have:=e.len;omega,?_⟩
 rw [e.file,e1];exact h2
theorem Ext.same {h h':Hp} (e1:h'.file=h.file) (e2:h'.objs=h.objs):Ext h h':=⟨e1,by rw [e2];exact Nat.le_refl _,fun n _=>by rw [e2]⟩
def PairK (s:Int) (k:Nat→Int) (n:Nat):Prop:=(∀i,i<n→k i=2→i+1<n∧k (i+1)=s)∧(∀i,i<n→k i=s→1≤i∧k (i-1)=2)
def PairT (l:List Ty):Prop:=PairK 4 (fun i=>(nth ty0 l i).kind) l.length
def PairV (l:List Va):Prop:=PairK 9 (fun i=>(nth va0 l i).kind) l.length
def FitL (h:Hp) (ts:List Ty) (vs:List Va):Prop:=ts.length=vs.length∧∀j,j<ts.length→FitV h (nth ty0 ts j) (nth va0 vs j)
theorem FitL.ext {h h':Hp} {ts:List Ty} {vs:List Va} (g:FitL h ts vs) (e:Ext h h'):FitL h' ts vs:=⟨g.1,fun j hj=>(g.2 j hj).ext e⟩
theorem FitL.nil (h:Hp):FitL h [] []:=⟨rfl,fun j hj=>absurd hj (by simp)⟩
theorem nth_app_l {α:Type} {d:α} {a b:List α} {i:Nat} (hi:i<a.length):nth d (a++b) i=nth d a i:=by simp [nth,List.getD,List.getElem?_append_left hi]
theorem nth_app_r {α:Type} {d:α} {a b:List α} {i:Nat} (hi:a.length≤i):nth d (a++b) i=nth d b (i-a.length):=by simp [nth,List.getD,List.getElem?_append_right hi]
theorem nth_one {α:Type} {d x:α} {a:List α}:nth d (a++[x]) a.length=x:=by rw [nth_app_r (Nat.le_refl _)];simp [nth]
theorem nth_setI {α:Type} {d:α} {l:List α} {n i:Nat} {x:α} (h:n<l.length):nth d (l.set n x) i=if n=i then x else nth d l i:=by
 by_cases e:n=i
 ·subst e;rw [nth_set_eq h,if_pos rfl]
 ·rw [nth_set_ne e,if_neg e]
theorem joinN_bel {l:List Cl} (ht:Tree l) {c d:Nat} (hc:c<l.length) (hd:d<l.length) (h:joinN l c d=d):belN l c d=true:=by
 have:=join_there ht c d hc hd
 rw [h] at this
 exact bel_iff.2 this.1
theorem bel_trans {l:List Cl} (ht:Tree l) {c d e:Nat} (hc:c<l.length) (h1:belN l c d=true) (h2:belN l d e=true):belN l c e=true:=by
 rw [bel_iff] at *
 exact ((ups_mid ht c hc h1).1 h2).1
theorem belI_trans {l:List Cl} (ht:Tree l) {c:Int} {d e:Nat} (hd:d<l.length) (he:e<l.length) (h1:belI l c d=true) (h2:belN l d e=true):belI l c e=true:=by
 unfold belI clsI at *
 rw [Bool.and_eq_true,decide_eq_true_eq] at *
 refine ⟨by omega,?_⟩
 have:=h1.2
 rw [Int.toNat_natCast] at *
 exact bel_trans ht (by omega) this h2
def refOk (n:Nat) (t:Ty):Prop:=t.kind=3→t.cls=-1∨(0≤t.cls∧t.cls<n)
theorem fit_of {h:Hp} (ht:Tree h.file.classes) {v t:Ty} {x:Va} (g:FitV h v x) (hr:refOk h.file.classes.length v) (hty:tyB h.file.classes.length t=true) (hf:fitB h.file.classes v t=true):FitV h t x:=by
 unfold fitB at hf
 rw [Bool.and_eq_true,decide_eq_true_eq] at hf
 obtain ⟨hk,hf⟩:=hf
 have hty:=of_decide_eq_true hty
 refine ⟨fun e=>g.one (hk.trans e),fun e=>g.two (hk.trans e),fun e=>?_,fun e=>by omega⟩
 obtain ⟨h1,h2⟩:=g.ref (hk.trans e)
 refine ⟨h1,fun hn=>?_⟩
 obtain ⟨h3,h4⟩:=h2 hn
 refine ⟨h3,?_⟩
 have hv:=hr (hk.trans e)
 rcases hv with hv|hv
 ·exfalso
  unfold belI clsI at h4
  rw [Bool.and_eq_true,decide_eq_true_eq] at h4
  omega
 ·have hj:joinN h.file.classes v.cls.toNat t.cls.toNat=t.cls.toNat:=by
   simp at hf
   rcases hf with hf|hf|hf
   ·omega
   ·omega
   ·exact hf
  obtain ⟨c,hc⟩:∃c:Nat,v.cls=c:=⟨v.cls.toNat,by omega⟩
  obtain ⟨d,hd⟩:∃d:Nat,t.cls=d:=⟨t.cls.toNat,by omega⟩
  rw [hc] at h4
  rw [hc,hd,Int.toNat_natCast,Int.toNat_natCast] at hj
  rw [hd]
  exact belI_trans ht (by omega) (by omega) h4 (joinN_bel ht (by omega) (by omega) hj)
theorem FitV.of {h:Hp} {t:Ty} {x:Va} (g:FitV h t x) (hty:tyB h.file.classes.length t=true):h.of x t=true:=by
 have hty:=of_decide_eq_true hty
 unfold Hp.of
 by_cases h3:t.kind=3
 ·obtain ⟨h1,h2⟩:=g.ref h3
  by_cases hn:x.n<0
  ·simp [h1,h3,hn]
  ·have:=(h2 (by omega)).2
   simp [h1,h3,this]
 ·have:x.kind=t.kind:=by
   rcases hty with hty|⟨h1|h1,-⟩
   ·omega
   ·rw [g.one h1,h1]
   ·rw [g.two h1,h1]
  simp [this,h3]
def leT (cs:List Cl) (x u:Ty):Prop:=u.kind=0∨x=u∨(x.kind=3∧u.kind=3∧(x.cls=-1∨(0≤x.cls∧x.cls<cs.length∧0≤u.cls∧u.cls<cs.length∧belN cs x.cls.toNat u.cls.toNat=true)))
theorem leT.refl (cs:List Cl) (x:Ty):leT cs x x:=Or.inr (Or.inl rfl)
theorem leT.trans {cs:List Cl} (ht:Tree cs) {a b c:Ty} (h:leT cs a b) (k:leT cs b c):leT cs a c:=by
 rcases k with k|rfl|⟨k1,k2,k3⟩
 ·exact Or.inl k
 ·exact h
 ·rcases h with h|rfl|⟨h1,h2,h3⟩
  ·omega
  ·exact Or.inr (Or.inr ⟨k1,k2,k3⟩)
  ·refine Or.inr (Or.inr ⟨h1,k2,?_⟩)
   rcases h3 with h3|h3
   ·exact Or.inl h3
   ·rcases k3 with k3|k3
    ·omega
    ·exact Or.inr ⟨h3.1,h3.2.1,k3.2.2.1,k3.2.2.2.1,bel_trans ht (by omega) h3.2.2.2.2 k3.2.2.2.2⟩
theorem leT.fit {h:Hp} (ht:Tree h.file.classes) {x u:Ty} {v:Va} (l:leT h.file.classes x u) (g:FitV h x v):FitV h u v:=by
 rcases l with l|rfl|⟨l1,l2,l3⟩
 ·exact ⟨fun e=>by omega,fun e=>by omega,fun e=>by omega,fun e=>by omega⟩
 ·exact g
 ·refine ⟨fun e=>by omega,fun e=>by omega,fun _=>?_,fun e=>by omega⟩
  obtain ⟨h1,h2⟩:=g.ref l1
  refine ⟨h1,fun hn=>?_⟩
  obtain ⟨h3,h4⟩:=h2 hn
  refine ⟨h3,?_⟩
  rcases l3 with l3|⟨a1,a2,a3,a4,a5⟩
  ·exfalso
   unfold belI clsI at h4
   rw [Bool.and_eq_true,decide_eq_true_eq] at h4
   omega
  ·obtain ⟨c,hc⟩:∃c:Nat,x.cls=c:=⟨x.cls.toNat,by omega⟩
   obtain ⟨d,hd⟩:∃d:Nat,u.cls=d:=⟨u.cls.toNat,by omega⟩
   rw [hc] at h4 a5
   rw [hd] at a5 ⊢
   rw [Int.toNat_natCast,Int.toNat_natCast] at a5
   exact belI_trans ht (by omega) (by omega) h4 a5
def leL (cs:List Cl) (a b:List Ty):Prop:=a.length=b.length∧∀j,j<a.length→leT cs (nth ty0 a j) (nth ty0 b j)
theorem leL.refl (cs:List Cl) (a:List Ty):leL cs a a:=⟨rfl,fun j _=>leT.refl cs _⟩
theorem leL.trans {cs:List Cl} (ht:Tree cs) {a b c:List Ty} (h:leL cs a b) (k:leL cs b c):leL cs a c:=⟨h.1.trans k.1,fun j hj=>(h.2 j hj).trans ht (k.2 j (by rw [←h.1];exact hj))⟩
theorem leL.fit {h:Hp} (ht:Tree h.file.classes) {a b:List Ty} {vs:List Va} (l:leL h.file.classes a b) (g:FitL h a vs):FitL h b vs:=⟨l.1.symm.trans g.1,fun j hj=>(l.2 j (by rw [l.1];exact hj)).fit ht (g.2 j (by rw [l.1];exact hj))⟩
def leA (cs:List Cl) (a b:As):Prop:=leL cs a.slots b.slots∧leL cs a.stk b.stk
theorem leA.refl (cs:List Cl) (a:As):leA cs a a:=⟨leL.refl cs _,leL.refl cs _⟩
theorem leA.trans {cs:List Cl} (ht:Tree cs) {a b c:As} (h:leA cs a b) (k:leA cs b c):leA cs a c:=⟨h.1.trans ht k.1,h.2.trans ht k.2⟩
theorem FitV.any (h:Hp) (v:Va):FitV h ty0 v:=⟨fun e=>absurd e (by decide),fun e=>absurd e (by decide),fun e=>absurd e (by decide),fun e=>absurd e (by decide)⟩
theorem losP_nth (l:List Va) (a i:Nat) (ha:a<l.length) (P:PairV l):nth va0 (losP l a) i=if i=a then va0 else if ((nth va0 l a).kind=9∧i+1=a)∨((nth va0 l a).kind=2∧i=a+1) then va0 else nth va0 l i:=by
 unfold losP
 by_cases h9:(nth va0 l a).kind=9
 ·have:=P.2 a ha h9
  rw [if_pos h9,nth_setI (by simp;exact ha)]
  by_cases e:a=i
  ·rw [if_pos e,if_pos e.symm]
  ·rw [if_neg e,if_neg (fun x=>e x.symm),nth_setI (by omega)]
   by_cases e2:a-1=i
   ·rw [if_pos e2,if_pos (Or.inl ⟨h9,by omega⟩)]
   ·rw [if_neg e2,if_neg (by omega)]
 ·rw [if_neg h9]
  by_cases h2:(nth va0 l a).kind=2
  ·have:=P.1 a ha h2
   rw [if_pos h2,nth_setI (by simp;exact ha)]
   by_cases e:a=i
   ·rw [if_pos e,if_pos e.symm]
   ·rw [if_neg e,if_neg (fun x=>e x.symm),nth_setI (by omega)]
    by_cases e2:a+1=i
    ·rw [if_pos e2,if_pos (Or.inr ⟨h2,by omega⟩)]
    ·rw [if_neg e2,if_neg (by omega)]
  ·rw [if_neg h2,nth_setI ha]
   by_cases e:a=i
   ·rw [if_pos e,if_pos e.symm]
   ·rw [if_neg e,if_neg (fun x=>e x.symm),if_neg (by omega)]
theorem losT_nth (l:List Ty) (a i:Nat) (ha:a<l.length) (P:PairT l):nth ty0 (losT l a) i=if ((nth ty0 l a).kind=4∧i+1=a)∨((nth ty0 l a).kind=2∧i=a+1) then ty0 else nth ty0 l i:=by
 unfold losT
 by_cases h2:(nth ty0 l a).kind=2
 ·have:=P.1 a ha h2
  rw [if_pos h2,nth_setI (by omega)]
  by_cases e:a+1=i
  ·rw [if_pos e,if_pos (Or.inr ⟨h2,by omega⟩)]
  ·rw [if_neg e,if_neg (by omega)]
 ·rw [if_neg h2]
  by_cases h4:(nth ty0 l a).kind=4
  ·have:=P.2 a ha h4
   rw [if_pos h4,nth_setI (by omega)]
   by_cases e:a-1=i
   ·rw [if_pos e,if_pos (Or.inl ⟨h4,by omega⟩)]
   ·rw [if_neg e,if_neg (by omega)]
  ·rw [if_neg h4,if_neg (by omega)]
theorem va0_kind:va0.kind=0:=rfl
theorem ty0_kind:ty0.kind=0:=rfl
theorem losP_pair {l:List Va} {a:Nat} (ha:a<l.length) (P:PairV l):PairV (losP l a):=by
 have e:=fun i=>losP_nth l a i ha P
 refine ⟨fun i hi hk=>?_,fun i hi hk=>?_⟩
 ·rw [losP_length] at hi ⊢
  have hk:(nth va0 (losP l a) i).kind=2:=hk
  show i+1<l.length∧(nth va0 (losP l a) (i+1)).kind=9
  rw [e] at hk ⊢
  by_cases h1:i=a
  ·rw [if_pos h1,va0_kind] at hk;omega
  rw [if_neg h1] at hk
  by_cases h2:((nth va0 l a).kind=9∧i+1=a)∨((nth va0 l a).kind=2∧i=a+1)
  ·rw [if_pos h2,va0_kind] at hk;omega
  rw [if_neg h2] at hk
  have:=P.1 i hi hk
  refine ⟨this.1,?_⟩
  have h9:(nth va0 l (i+1)).kind=9:=this.2
  by_cases h3:i+1=a
  ·subst h3;exact absurd (Or.inl ⟨h9,rfl⟩) h2
  rw [if_neg h3]
  by_cases h4:((nth va0 l a).kind=9∧i+1+1=a)∨((nth va0 l a).kind=2∧i+1=a+1)
  ·exfalso
   rcases h4 with ⟨h4,h5⟩|⟨h4,h5⟩
   ·subst h5
    have:=(P.2 (i+1+1) ha h4).2
    have h6:(nth va0 l (i+1)).kind=2:=this
    omega
   ·omega
  rw [if_neg h4];exact h9
 ·rw [losP_length] at hi
  have hk:(nth va0 (losP l a) i).kind=9:=hk
  show 1≤i∧(nth va0 (losP l a) (i-1)).kind=2
  rw [e] at hk ⊢
  by_cases h1:i=a
  ·rw [if_pos h1,va0_kind] at hk;omega
  rw [if_neg h1] at hk
  by_cases h2:((nth va0 l a).kind=9∧i+1=a)∨((nth va0 l a).kind=2∧i=a+1)
  ·rw [if_pos h2,va0_kind] at hk;omega
  rw [if_neg h2] at hk
  have:=P.2 i hi hk
  have h22:(nth va0 l (i-1)).kind=2:=this.2
  refine ⟨this.1,?_⟩
  by_cases h3:i-1=a
  ·subst h3;exact absurd (Or.inr ⟨h22,by omega⟩) h2
  rw [if_neg h3]
  by_cases h4:((nth va0 l a).kind=9∧i-1+1=a)∨((nth va0 l a).kind=2∧i-1=a+1)
  ·exfalso
   rcases h4 with ⟨h4,h5⟩|⟨h4,h5⟩
   ·omega
   ·have:=(P.1 a ha h4).2
    have h6:(nth va0 l (a+1)).kind=9:=this
    rw [←h5] at h6;omega
  rw [if_neg h4];exact h22
theorem losT_nth2 (l:List Ty) (a i:Nat) (ha:a<l.length) (P:PairT l) (hi:i≠a):nth ty0 (losT l a) i=ty0∨nth ty0 (losT l a) i=nth ty0 l i:=by
 rw [losT_nth l a i ha P];split
 ·exact Or.inl rfl
 ·exact Or.inr rfl
theorem los_fit {h:Hp} {ts:List Ty} {vs:List Va} {a:Nat} (g:FitL h ts vs) (ha:a<ts.length) (T:PairT ts) (P:PairV vs) (j:Nat) (hj:j<ts.length) (hja:j≠a):FitV h (nth ty0 (losT ts a) j) (nth va0 (losP vs a) j):=by
 have hl:=g.1
 rw [losT_nth ts a j ha T,losP_nth vs a j (by omega) P,if_neg hja]
 by_cases h1:((nth ty0 ts a).kind=4∧j+1=a)∨((nth ty0 ts a).kind=2∧j=a+1)
 ·rw [if_pos h1];exact FitV.any h _
 rw [if_neg h1]
 by_cases h2:((nth va0 vs a).kind=9∧j+1=a)∨((nth va0 vs a).kind=2∧j=a+1)
 ·rw [if_pos h2]
  have gj:=g.2 j hj
  rcases h2 with ⟨h2,h3⟩|⟨h2,h3⟩
  ·-- the long's first slot is lost
   have hv:(nth va0 vs j).kind=2:=by have:=(P.2 a (by omega) h2).2;rw [show j=a-1 by omega];exact this
   have k1:(nth ty0 ts j).kind≠1:=fun e=>by have:=gj.one e;omega
   have k2:(nth ty0 ts j).kind≠2:=fun e=>by
    have:=(T.1 j hj e).2
    have h4:(nth ty0 ts (j+1)).kind=4:=this
    rw [h3] at h4
    exact h1 (Or.inl ⟨h4,h3⟩)
   have k3:(nth ty0 ts j).kind≠3:=fun e=>by have:=(gj.ref e).1;omega
   have k4:(nth ty0 ts j).kind≠4:=fun e=>by have:=gj.sec e;omega
   exact ⟨fun e=>absurd e k1,fun e=>absurd e k2,fun e=>absurd e k3,fun e=>absurd e k4⟩
  ·have hv:(nth va0 vs j).kind=9:=by have:=(P.1 a (by omega) h2).2;rw [h3];exact this
   have k1:(nth ty0 ts j).kind≠1:=fun e=>by have:=gj.one e;omega
   have k2:(nth ty0 ts j).kind≠2:=fun e=>by have:=gj.two e;omega
   have k3:(nth ty0 ts j).kind≠3:=fun e=>by have:=(gj.ref e).1;omega
   have k4:(nth ty0 ts j).kind≠4:=fun e=>by
    have:=(T.2 j hj e).2
    have h4:(nth ty0 ts (j-1)).kind=2:=this
    rw [show j-1=a by omega] at h4
    exact h1 (Or.inr ⟨h4,h3⟩)
   exact ⟨fun e=>absurd e k1,fun e=>absurd e k2,fun e=>absurd e k3,fun e=>absurd e k4⟩
 ·rw [if_neg h2];exact g.2 j hj
theorem losT_pair {l:List Ty} {a:Nat} (ha:a<l.length) (P:PairT l):PairT ((losT l a).set a ty0):=by
 have e:∀i,nth ty0 ((losT l a).set a ty0) i=if a=i then ty0 else nth ty0 (losT l a) i:=fun i=>nth_setI (by rw [losT_length];exact ha)
 have e':=fun i=>losT_nth l a i ha P
 refine ⟨fun i hi hk=>?_,fun i hi hk=>?_⟩
 ·rw [List.length_set,losT_length] at hi ⊢
  have hk:(nth ty0 ((losT l a).set a ty0) i).kind=2:=hk
  show i+1<l.length∧(nth ty0 ((losT l a).set a ty0) (i+1)).kind=4
  rw [e] at hk ⊢
  by_cases h1:a=i
  ·rw [if_pos h1,ty0_kind] at hk;omega
  rw [if_neg h1,e'] at hk
  by_cases h2:((nth ty0 l a).kind=4∧i+1=a)∨((nth ty0 l a).kind=2∧i=a+1)
  ·rw [if_pos h2,ty0_kind] at hk;omega
  rw [if_neg h2] at hk
  have:=P.1 i hi hk
  refine ⟨this.1,?_⟩
  have h9:(nth ty0 l (i+1)).kind=4:=this.2
  by_cases h3:a=i+1
  ·subst h3;exact absurd (Or.inl ⟨h9,rfl⟩) h2
  rw [if_neg h3,e']
  by_cases h4:((nth ty0 l a).kind=4∧i+1+1=a)∨((nth ty0 l a).kind=2∧i+1=a+1)
  ·exfalso
   rcases h4 with ⟨h4,h5⟩|⟨h4,h5⟩
   ·subst h5
    have:=(P.2 (i+1+1) ha h4).2
    have h6:(nth ty0 l (i+1)).kind=2:=this
    omega
   ·omega
  rw [if_neg h4];exact h9
 ·rw [List.length_set,losT_length] at hi
  have hk:(nth ty0 ((losT l a).set a ty0) i).kind=4:=hk
  show 1≤i∧(nth ty0 ((losT l a).set a ty0) (i-1)).kind=2
  rw [e] at hk ⊢
  by_cases h1:a=i
  ·rw [if_pos h1,ty0_kind] at hk;omega
  rw [if_neg h1,e'] at hk
  by_cases h2:((nth ty0 l a).kind=4∧i+1=a)∨((nth ty0 l a).kind=2∧i=a+1)
  ·rw [if_pos h2,ty0_kind] at hk;omega
  rw [if_neg h2] at hk
  have:=P.2 i hi hk
  have h22:(nth ty0 l (i-1)).kind=2:=this.2
  refine ⟨this.1,?_⟩
  by_cases h3:a=i-1
  ·subst h3;exact absurd (Or.inr ⟨h22,by omega⟩) h2
  rw [if_neg h3,e']
  by_cases h4:((nth ty0 l a).kind=4∧i-1+1=a)∨((nth ty0 l a).kind=2∧i-1=a+1)
  ·exfalso
   rcases h4 with ⟨h4,h5⟩|⟨h4,h5⟩
   ·omega
   ·have:=(P.1 a ha h4).2
    have h6:(nth ty0 l (a+1)).kind=4:=this
    rw [←h5] at h6;omega
  rw [if_neg h4];exact h22
theorem losT_two (l:List Ty) (a:Nat) (ha:a+1<l.length) (P:PairT l) (i:Nat) (hi:i≠a):nth ty0 (losT (losT l a) (a+1)) i=nth ty0 (losT ((losT l a).set a ty0) (a+1)) i:=by
 have e:∀i,nth ty0 ((losT l a).set a ty0) i=if a=i then ty0 else nth ty0 (losT l a) i:=fun i=>nth_setI (by rw [losT_length];omega)
 have e1:nth ty0 ((losT l a).set a ty0) (a+1)=nth ty0 (losT l a) (a+1):=by rw [e,if_neg (by omega)]
 unfold losT
 rw [show (if (nth ty0 l a).kind=2 then l.set (a+1) ty0 else if (nth ty0 l a).kind=4 then l.set (a-1) ty0 else l)=losT l a from rfl]
 rw [e1]
 split
 ·by_cases h:a+2<l.length
  ·rw [nth_setI (by rw [losT_length];exact h),nth_setI (by simp [losT_length];exact h),e,if_neg (c:=a=i) (fun x=>hi x.symm)]
  ·rw [List.set_eq_of_length_le (by rw [losT_length];omega),List.set_eq_of_length_le (by simp [losT_length];omega),e,if_neg (fun x=>hi x.symm)]
 ·split
  ·rw [nth_setI (by rw [losT_length];omega),nth_setI (by simp [losT_length];omega),e,if_neg (c:=a=i) (fun x=>hi x.symm)]
  ·rw [e,if_neg (fun x=>hi x.symm)]
theorem sto_fit {h:Hp} {ts:List Ty} {vs:List Va} {a:Nat} {t:Ty} {v:Va} (g:FitL h ts vs) (T:PairT ts) (P:PairV vs) (ha:a<ts.length) (ha2:t.kind=2→a+1<ts.length) (hk:v.kind=t.kind) (ht:t.kind≠4) (hv9:v.kind≠9) (hv:FitV h t v):FitL h (wrT ts a t) (stoP vs a v):=by
 have hl:=g.1
 refine ⟨by rw [wrT_length,stoP_length];exact hl,fun j hj=>?_⟩
 rw [wrT_length] at hj
 unfold wrT stoP
 by_cases h2:t.kind=2
 ·rw [if_pos h2,if_pos (hk.trans h2)]
  have ha2:=ha2 h2
  rw [nth_setI (d:=ty0) (by rw [List.length_set,losT_length,losT_length];exact ha),nth_setI (d:=va0) (by rw [List.length_set,losP_length,losP_length];omega)]
  by_cases e:a=j
  ·rw [if_pos e,if_pos e];exact hv
  rw [if_neg e,if_neg e,nth_setI (d:=ty0) (by rw [losT_length,losT_length];exact ha2),nth_setI (d:=va0) (by rw [losP_length,losP_length];omega)]
  by_cases e2:a+1=j
  ·rw [if_pos e2,if_pos e2];exact ⟨fun x=>absurd x (by decide),fun x=>absurd x (by decide),fun x=>absurd x (by decide),fun _=>rfl⟩
  rw [if_neg e2,if_neg e2,losT_two ts a ha2 T j (fun x=>e x.symm)]
  have gset:FitL h ((losT ts a).set a ty0) (losP vs a):=by
   refine ⟨by rw [List.length_set,losT_length,losP_length];exact hl,fun i hi=>?_⟩
   rw [List.length_set,losT_length] at hi
   rw [nth_setI (by rw [losT_length];exact ha)]
   by_cases ei:a=i
   ·rw [if_pos ei];exact FitV.any h _
   ·rw [if_neg ei];exact los_fit g ha T P i hi (fun x=>ei x.symm)
  exact los_fit gset (by rw [List.length_set,losT_length];exact ha2) (losT_pair ha T) (losP_pair (by omega) P) j (by rw [List.length_set,losT_length];exact hj) (fun x=>e2 x.symm)
 ·rw [if_neg h2,if_neg (by omega),nth_setI (d:=ty0) (by rw [losT_length];exact ha),nth_setI (d:=va0) (by rw [losP_length];omega)]
  by_cases e:a=j
  ·rw [if_pos e,if_pos e];exact hv
  ·rw [if_neg e,if_neg e];exact los_fit g ha T P j hj (fun x=>e x.symm)
end Go.Proofs.YtgiiapenmjollabGreat
