import Derived.Test.YtgiiapenmjollabGreatRlak
namespace Go.Proofs.YtgiiapenmjollabGreat
set_option linter.all false
set_option maxHeartbeats 40000000
set_option maxRecDepth 100000
open Go.RowKit
structure Kept (h:Hp) (c:Cal) (d:Did):Prop where
 le:Le h d.h
 gh:Gh 0 d.h
 kd:Kd d.h
 gc:d.h.over=false→Gc d.h d.c
 m:d.c.m=c.m
 pc:d.c.pc=c.pc
 nx:0≤d.nx∧d.nx≤c.m.code.length
theorem must_over {h:Hp} {b:Bool} (ho:(h.must b).over=false):h.must b=h:=by
 have:=(must_go ho).1;unfold Hp.must;rw [if_pos this]
theorem rdH_le (h:Hp) (c:Cal) (a k:Int):Le h (h.rdH c a k):=must_le h _
theorem Gh.rdH {s:Nat} {h:Hp} (g:Gh s h) (c:Cal) (a k:Int):Gh s (h.rdH c a k):=g.must _
theorem Kd.rdH {h:Hp} (g:Kd h) (c:Cal) (a k:Int):Kd (h.rdH c a k):=g.must _
theorem rdH_go {h:Hp} {c:Cal} {a k:Int} (ho:(h.rdH c a k).over=false):(c.rd a).kind=k∧h.rdH c a k=h∧h.over=false :=
 ⟨of_decide_eq_true (must_go ho).1,must_over ho,(must_go ho).2⟩
theorem wr_m (h:Hp) (c:Cal) (a:Int) (v:Va):(wrP h c a v).m=c.m∧(wrP h c a v).pc=c.pc∧(wrP h c a v).giv=c.giv∧(wrP h c a v).cau=c.cau:=by unfold wrP;split<;>exact ⟨rfl,rfl,rfl,rfl⟩
theorem givesH_le (h:Hp) (c:Cal) (i:In):Le h (givesH h c i):=by
 unfold givesH
 split;exact Le.refl h
 split;exact rdH_le ..
 split;exact reckH_le ..
 split;exact reckH_le ..
 split;exact rdH_le ..
 split;exact rdH_le ..
 split;exact (rdH_le ..).trans (rdH_le ..)
 split;exact new_le ..
 split
 ·split
  ·exact rdH_le ..
  ·exact (rdH_le ..).trans (findH_le ..)
 split
 ·split
  ·exact rdH_le ..
  ·exact (rdH_le ..).trans (must_le ..)
 exact input_le h
theorem Gh.gives {s:Nat} {h:Hp} (g:Gh s h) (c:Cal) (i:In):Gh s (givesH h c i):=by
 unfold givesH
 split;exact g
 split;exact g.rdH ..
 split;exact g.reckH ..
 split;exact g.reckH ..
 split;exact g.rdH ..
 split;exact g.rdH ..
 split;exact (g.rdH ..).rdH ..
 split;exact g.new _
 split
 ·split
  ·exact g.rdH ..
  ·exact (g.rdH ..).findH ..
 split
 ·split
  ·exact g.rdH ..
  ·exact (g.rdH ..).must _
 exact g.input
theorem Kd.gives {h:Hp} (g:Kd h) (c:Cal) (i:In):Kd (givesH h c i):=by
 unfold givesH
 split;exact g
 split;exact g.rdH _ _ _
 split;exact g.reckH _ _ _ _
 split;exact g.reckH _ _ _ _
 split;exact g.rdH _ _ _
 split;exact g.rdH _ _ _
 split;exact (g.rdH _ _ _).rdH _ _ _
 split;exact g.new _
 split
 ·split
  ·exact g.rdH _ _ _
  ·exact (g.rdH _ _ _).findH _ _
 split
 ·split
  ·exact g.rdH _ _ _
  ·exact (g.rdH _ _ _).must _
 exact g.input
theorem reck_go {h:Hp} {a b:Va} {k op:Int} (hs:(h.reckH a b k op).stops=false) (ho:h.over=false) (hth:h.thrown=-1):(h.reckV a b k op).kind=k:=by
 unfold Hp.reckH at hs
 split at hs
 ·rename_i hm
  unfold Hp.reckV
  rw [if_pos hm]
 ·rename_i hm
  exfalso
  have hb:ofBoth a b k=false:=by
   cases hx:ofBoth a b k
   ·rfl
   ·exact absurd (by unfold Hp.mustB;rw [hx,ho];rfl) hm
  rw [hb] at hs
  simp [Hp.must,Hp.fin,ho,Hp.stops] at hs
def MayC (cs:List Cl):Prop:=∀c k:Int,0≤c∧c<cs.length→0≤k∧k<(nth cl0 cs c.toNat).fields.length→(fieldT cs c k).kind≠9
theorem givesV_ok {s:Nat} {h:Hp} {c:Cal} {i:In} {ms:List Me} {n:Nat} {rt:Int} (g:Gh s h) (kd:Kd h) (gc:Gc h c) (ho:h.over=false) (hth:h.thrown=-1) (mc:MayC h.file.classes) (ok:InOk h.file.classes ms n c.m.regs rt i) (iok:i.ok)
  (hop:i.op≤9∨i.op=13∨i.op=14∨i.op=17∨i.op=24) (hs:(givesH h c i).stops=false) :
  GdV (givesH h c i) (givesV h c i)∧(givesV h c i).kind≠9∧((givesV h c i).kind=2→i.a+1<c.m.regs):=by
 have hle:=givesH_le h c i
 have num:∀(k m:Int) (h':Hp),k≠3→I64 m→GdV h' ⟨k,m⟩:=fun k m h' h1 h2=>⟨fun e=>absurd e h1,h2⟩
 have hso:(givesH h c i).over=false:=by
  unfold Hp.stops at hs;rw [Bool.or_eq_false_iff] at hs;exact hs.1
 have h1:=ok.op.1
 rcases (by omega:i.op=1∨i.op=2∨i.op=3∨i.op=4∨i.op=5∨i.op=6∨i.op=7∨i.op=8∨i.op=9∨i.op=13∨i.op=14∨i.op=17∨i.op=24) with e|e|e|e|e|e|e|e|e|e|e|e|e
 ·have eV:givesV h c i=⟨1,i.n⟩:=by simp [givesV,e]
  rw [eV]
  exact ⟨num _ _ _ (by omega) iok.2.2.2.2,(by show (1:Int)≠9;omega),fun x=>by have:(1:Int)=2:=x;omega⟩
 ·have eV:givesV h c i=⟨2,i.n⟩:=by simp [givesV,e]
  rw [eV]
  exact ⟨num _ _ _ (by omega) iok.2.2.2.2,(by show (2:Int)≠9;omega),fun x=>ok.two (by omega)⟩
 ·have eV:givesV h c i=⟨3,-1⟩:=by simp [givesV,e]
  rw [eV]
  exact ⟨⟨fun _=>⟨Int.le_refl _,by show (-1:Int)<_;omega⟩,by show I64 (-1);unfold I64;omega⟩,(by decide),fun x=>absurd x (by decide)⟩
 ·have eV:givesV h c i=c.rd i.b:=by simp [givesV,e]
  have eH:givesH h c i=h.rdH c i.b i.c:=by simp [givesH,e]
  rw [eH] at hso hle
  have hk:=(rdH_go hso).1
  have hm:=ok.move e
  rw [eV,eH]
  exact ⟨(gc.rd (ok.b (by omega))).le hle,by omega,fun x=>ok.two (by omega)⟩
 ·have eV:givesV h c i=h.reckV (c.rd i.b) (c.rd i.c) 1 i.n:=by simp [givesV,e]
  have eH:givesH h c i=h.reckH (c.rd i.b) (c.rd i.c) 1 i.n:=by simp [givesH,e]
  rw [eH] at hs
  have hk:=reck_go hs ho hth
  rw [eV]
  exact ⟨reckV_gd _ _ _ _ _ _ (by omega) (gc.rd (ok.b (by omega))).num,by omega,fun x=>by omega⟩
 ·have eV:givesV h c i=h.reckV (c.rd i.b) (c.rd i.c) 2 i.n:=by simp [givesV,e]
  have eH:givesH h c i=h.reckH (c.rd i.b) (c.rd i.c) 2 i.n:=by simp [givesH,e]
  rw [eH] at hs
  have hk:=reck_go hs ho hth
  rw [eV]
  exact ⟨reckV_gd _ _ _ _ _ _ (by omega) (gc.rd (ok.b (by omega))).num,by omega,fun x=>ok.two (by omega)⟩
 ·have eV:givesV h c i=⟨2,(c.rd i.b).n⟩:=by simp [givesV,e]
  rw [eV]
  exact ⟨num _ _ _ (by omega) (gc.rd (ok.b (by omega))).num,(by show (2:Int)≠9;omega),fun x=>ok.two (by omega)⟩
 ·have eV:givesV h c i=⟨1,wrap32 (c.rd i.b).n⟩:=by simp [givesV,e]
  rw [eV]
  exact ⟨num _ _ _ (by omega) (i64_w32 _),(by show (1:Int)≠9;omega),fun x=>by have:(1:Int)=2:=x;omega⟩
 ·have eV:givesV h c i=⟨1,cmpV (c.rd i.b).n (c.rd i.c).n⟩:=by simp [givesV,e]
  rw [eV]
  exact ⟨num _ _ _ (by omega) (by unfold cmpV;split;(unfold I64;omega);split<;>(unfold I64;omega)),(by show (1:Int)≠9;omega),fun x=>by have:(1:Int)=2:=x;omega⟩
 ·have eV:givesV h c i=h.newV:=by simp [givesV,e]
  have eH:givesH h c i=h.new i.b:=by simp [givesH,e]
  rw [eV,eH]
  refine ⟨newV_gd h _,?_,?_⟩
  ·unfold Hp.newV;split
   ·decide
   ·show (3:Int)≠9;omega
  ·unfold Hp.newV;split
   ·intro x;exact absurd x (by decide)
   ·intro x;have:(3:Int)=2:=x;omega
 ·have eV:givesV h c i=(if (h.rdH c i.b 3).over=true then va0 else (h.rdH c i.b 3).getV (c.rd i.b) i.c i.n):=by simp [givesV,e]
  have eH:givesH h c i=(if (h.rdH c i.b 3).over=true then h.rdH c i.b 3 else (h.rdH c i.b 3).findH (c.rd i.b) i.c):=by simp [givesH,e]
  rw [eV,eH]
  rw [eH] at hs hso
  split
  ·rename_i hx;rw [if_pos hx] at hso;rw [hx] at hso;cases hso
  ·rename_i hx
   rw [if_neg hx] at hs hso
   obtain ⟨k1,k2,k3⟩:=rdH_go (by simpa using hx)
   rw [k2] at hs hso ⊢
   have gr:=gc.rd (ok.b (by omega))
   refine ⟨(getV_gd g _ _ _ gr).le (findH_le _ _ _),?_,?_⟩
   all_goals
    by_cases hn:h.findN (c.rd i.b) i.c i.n<0
   ·unfold Hp.getV;rw [if_pos hn];decide
   ·rw [getV_kind kd gr hn]
    have hf:=ok.fld (by omega)
    exact mc _ _ ⟨hf.1,hf.2.1⟩ ⟨hf.2.2.1,hf.2.2.2⟩
   ·unfold Hp.getV;rw [if_pos hn];intro x;exact absurd x (by decide)
   ·rw [getV_kind kd gr hn]
    intro x
    exact ok.two (Or.inr (Or.inr (Or.inr (Or.inr (Or.inr (Or.inr ⟨e,x⟩))))))
 ·have eV:givesV h c i=(if (h.rdH c i.b 3).over=true then va0 else (h.rdH c i.b 3).isV (c.rd i.b) i.c):=by simp [givesV,e]
  rw [eV]
  split
  ·exact ⟨gdV0 _,by decide,fun x=>absurd x (by decide)⟩
  ·exact ⟨num _ _ _ (by omega) (by split<;>(unfold I64;omega)),(by show (1:Int)≠9;omega),fun x=>by have:(1:Int)=2:=x;omega⟩
 ·have eV:givesV h c i=h.inV:=by simp [givesV,e]
  have eH:givesH h c i=h.input':=by simp [givesH,e]
  rw [eV,eH]
  refine ⟨(inV_gd g).le (input_le h),?_,fun x=>ok.two (by omega)⟩
  unfold Hp.inV;split
  ·decide
  ·show (2:Int)≠9;omega
theorem does_kept {h:Hp} {c:Cal} {i:In} {ms:List Me} {rt:Int} (gh:Gh 1 h) (kd:Kd h) (gc:Gc h c) (ho:h.over=false) (hth:h.thrown=-1) (mc:MayC h.file.classes) (ok:InOk h.file.classes ms c.m.code.length c.m.regs rt i) (iok:i.ok) (hc:i.op≠18) (hr:i.op≠20) (hp:0≤c.pc∧c.pc<c.m.code.length):Kept h c (doesP h c i):=by
 have hns:h.stops=false:=by unfold Hp.stops;rw [ho,hth];rfl
 have hnx:0≤c.pc+1∧c.pc+1≤c.m.code.length:=by omega
 have gl:∀h',Le h h'→Gc h' c.clr:=fun h' l=>gc.clr.le l
 unfold doesP
 split
 ·rename_i e
  exact ⟨Le.refl h,gh.less,kd,fun _=>gc.clr,rfl,rfl,by have:=ok.jump (Or.inl e);dsimp only;omega⟩
 split
 ·rename_i e
  have hj:=ok.jump (Or.inr (Or.inl e))
  unfold ifP
  exact ⟨rdH_le ..,(gh.rdH ..).less,kd.rdH _ _ _,fun _=>gl _ (rdH_le ..),rfl,rfl,by dsimp only;split<;>omega⟩
 split
 ·rename_i e
  have hj:=ok.jump (Or.inr (Or.inr e))
  unfold ifnP
  exact ⟨rdH_le ..,(gh.rdH ..).less,kd.rdH _ _ _,fun _=>gl _ (rdH_le ..),rfl,rfl,by dsimp only;split<;>omega⟩
 split
 ·rename_i e
  unfold putP
  dsimp only
  generalize (fieldT h.file.classes i.c i.n).kind=q
  have l2:=(rdH_le h c i.b 3).trans (rdH_le (h.rdH c i.b 3) c i.a q)
  have g2:=(gh.rdH c i.b 3).rdH c i.a q
  have k2:=(kd.rdH c i.b 3).rdH c i.a q
  have gv:=(gc.rd (ok.a (by omega))).le l2
  generalize (h.rdH c i.b 3).rdH c i.a q=h2 at l2 g2 k2 gv
  split
  ·exact ⟨l2,g2.less,k2,fun _=>gl _ l2,rfl,rfl,hnx⟩
  ·exact ⟨l2.trans (put_le ..),(g2.put _ _ _ _ gv).less,k2.put _ _ _ _,fun _=>gl _ (l2.trans (put_le ..)),rfl,rfl,hnx⟩
 split
 ·rename_i e
  unfold castP
  have l2:=rdH_le h c i.a 3
  have g2:=gh.rdH c i.a 3
  have k2:=kd.rdH c i.a 3
  generalize h.rdH c i.a 3=h2 at l2 g2 k2
  split
  ·exact ⟨l2,g2.less,k2,fun _=>gl _ l2,rfl,rfl,hnx⟩
  ·exact ⟨l2.trans (cast_le ..),(g2.cast _ _).less,k2.cast _ _,fun _=>gl _ (l2.trans (cast_le ..)),rfl,rfl,hnx⟩
 split
 ·rename_i e
  have hk:=ok.res e
  have ha:=ok.a (by omega)
  unfold resP
  refine ⟨must_le ..,(gh.must _).less,kd.must _,fun hov=>?_,?_,?_,hnx⟩
  ·dsimp only at hov ⊢
   have e1:=must_over hov
   have e2:c.giv.kind=i.b:=of_decide_eq_true (must_go hov).1
   rw [e1,if_pos (by unfold Hp.mustB;rw [ho,e2];simp)]
   exact gc.clr.wr (fun _=>⟨gc.giv,by omega,fun x=>ok.two (by omega)⟩) ha.1
  ·dsimp only;split
   ·exact (wr_m ..).1
   ·rfl
  ·dsimp only;split
   ·exact (wr_m ..).2.1
   ·rfl
 split
 ·rename_i e
  unfold thrP
  have l2:=rdH_le h c i.a 3
  have g2:=gh.rdH c i.a 3
  have k2:=kd.rdH c i.a 3
  have gv:=(gc.rd (ok.a (by omega))).le l2
  generalize h.rdH c i.a 3=h2 at l2 g2 k2 gv
  split
  ·exact ⟨l2,g2.less,k2,fun _=>gl _ l2,rfl,rfl,hnx⟩
  ·exact ⟨l2.trans (throw_le ..),(g2.throw _ gv).less,k2.throw _,fun _=>gl _ (l2.trans (throw_le ..)),rfl,rfl,hnx⟩
 split
 ·rename_i e
  have ha:=ok.a (by omega)
  unfold cauP
  refine ⟨must_le ..,(gh.must _).less,kd.must _,fun hov=>?_,?_,?_,hnx⟩
  ·dsimp only at hov ⊢
   have e1:=must_over hov
   have e2:c.cau.kind=3:=of_decide_eq_true (must_go hov).1
   rw [e1,if_pos (by unfold Hp.mustB isRef;rw [ho,e2];simp)]
   exact gc.clr.wr (fun _=>⟨gc.cau,by omega,fun x=>by omega⟩) ha.1
  ·dsimp only;split
   ·exact (wr_m ..).1
   ·rfl
  ·dsimp only;split
   ·exact (wr_m ..).2.1
   ·rfl
 split
 ·rename_i e
  unfold emitP
  have l2:=rdH_le h c i.a i.b
  have g2:=gh.rdH c i.a i.b
  have k2:=kd.rdH c i.a i.b
  generalize h.rdH c i.a i.b=h2 at l2 g2 k2
  split
  ·exact ⟨l2,g2.less,k2,fun _=>gl _ l2,rfl,rfl,hnx⟩
  ·exact ⟨l2.trans (emit_le ..),g2.emit _ _,k2.emit _ _,fun _=>gl _ (l2.trans (emit_le ..)),rfl,rfl,hnx⟩
 ·have hop:=ok.op
  have ha:=ok.a (by omega)
  unfold givesP
  refine ⟨givesH_le ..,(gh.gives ..).less,kd.gives _ _,fun _=>?_,(wr_m ..).1,(wr_m ..).2.1,hnx⟩
  exact (gl _ (givesH_le ..)).wr (fun hs=>givesV_ok gh kd gc ho hth mc ok iok (by omega) hs) ha.1
theorem of_kind {h:Hp} {v:Va} {t:Ty} (ho:h.of v t=true):v.kind=t.kind:=by
 unfold Hp.of at ho
 rw [Bool.and_eq_true] at ho
 exact of_decide_eq_true ho.1
theorem ty_kind {n:Nat} {t:Ty} (h:tyB n t=true):1≤t.kind∧t.kind≤3:=by
 have:=of_decide_eq_true h
 omega
theorem enter_sizes (h:Hp) (n:Nat):∀(l:List Va) (k:List Ty),l.length=k.length→h.enterL l k=true→(∀t∈k,tyB n t=true)→sizP l=slotsN k∧∀v∈l,1≤v.kind∧v.kind≤3
 | [],[],_,_,_=>⟨rfl,fun v hv=>by simp at hv⟩
 | [],_::_,hl,_,_=>by simp at hl
 | _::_,[],hl,_,_=>by simp at hl
 | v::l,t::k,hl,he,ht=>by
  unfold Hp.enterL at he
  rw [Bool.and_eq_true] at he
  have ih:=enter_sizes h n l k (by simpa using hl) he.2 (fun x hx=>ht x (List.mem_cons_of_mem _ hx))
  have hk:=of_kind he.1
  have htk:=ty_kind (ht t (List.mem_cons_self ..))
  refine ⟨?_,fun x hx=>?_⟩
  ·simp only [sizP,slotsN,ih.1,hk]
  ·rw [List.mem_cons] at hx
   rcases hx with rfl|hx
   ·omega
   ·exact ih.2 x hx
theorem siz_one (v:Va):sizP [v]=if v.kind=2 then 2 else 1:=by simp [sizP]
theorem args_kept (h:Hp):∀(l:List Va) (l0:List Va) (at':Nat),LocOk l0→(∀x∈l0,GdV h x)→(∀x∈l,GdV h x)→(∀v∈l,1≤v.kind∧v.kind≤3)→at'+sizP l≤l0.length →
  LocOk (argsP l0 at' l)∧(∀x∈argsP l0 at' l,GdV h x)∧(argsP l0 at' l).length=l0.length
 | [],l0,at',h1,h2,_,_,_=>⟨h1,h2,rfl⟩
 | v::l,l0,at',h1,h2,h3,h4,h5=>by
  have hv:=h3 v (List.mem_cons_self ..)
  have hk:=h4 v (List.mem_cons_self ..)
  have es:sizP (v::l)=(if v.kind=2 then 2 else 1)+sizP l:=rfl
  have ih:=args_kept h l (stoP l0 at' v) (at'+sizP [v]) (sto_ok h1 at' v (by omega) (fun e=>by rw [es,if_pos e] at h5;omega)) (sto_gd h2 hv at') (fun x hx=>h3 x (List.mem_cons_of_mem _ hx)) (fun x hx=>h4 x (List.mem_cons_of_mem _ hx)) (by rw [stoP_length,siz_one];rw [es] at h5;omega)
  refine ⟨ih.1,ih.2.1,?_⟩
  show (argsP (stoP l0 at' v) (at'+sizP [v]) l).length=_
  rw [ih.2.2,stoP_length]
theorem rep_ok (n:Nat):LocOk (List.replicate n va0):=by
 have key:∀i,nth va0 (List.replicate n va0) i=va0:=fun i=>by simp [nth,List.getD,List.getElem?_replicate];split<;>rfl
 exact ⟨fun i _ hk=>by rw [key] at hk;exact absurd hk (by decide),fun i _ hk=>by rw [key] at hk;exact absurd hk (by decide)⟩
theorem new_kept {h:Hp} {m:Me} {l:List Va} (hm:rmeB h.file.classes h.file.methods m=true) (hok:∀i∈m.code,i.ok) (hl:l.length=m.params.length) (hg:∀v∈l,GdV h v) (he:h.enterL l m.params=true):Gc h (newCal m l):=by
 obtain ⟨p1,p2,p3,p5,p6,p7,p8,p9,p10,p11⟩:=smeP hm
 obtain ⟨s1,s2⟩:=enter_sizes h h.file.classes.length l m.params hl he p9
 obtain ⟨k1,k2,k3⟩:=args_kept h l (List.replicate m.regs.toNat va0) 0 (rep_ok _) (fun x hx=>by rw [List.eq_of_mem_replicate hx];exact gdV0 h) hg s2 (by rw [List.length_replicate];omega)
 refine ⟨gdV0 h,gdV0 h,k2,k1,?_,hm,hok⟩
 show ((argsP (List.replicate m.regs.toNat va0) 0 l).length:Int)=m.regs
 rw [k3,List.length_replicate];omega
structure Left' (h:Hp) (r:Hp×Va) (d:Int):Prop where
 file:r.1.file=h.file
 input:r.1.input=h.input
 fuel:r.1.fuel=h.fuel
 objs:h.objs.length≤r.1.objs.length
 steps:h.sh.steps≤r.1.sh.steps
 calls:r.1.calls=h.calls-d
 gh:Gh 0 r.1
 kd:Kd r.1
 gv:GdV r.1 r.2
theorem Left'.from {h h1:Hp} {r:Hp×Va} {d:Int} (l:Le h h1) (k:Left' h1 r d):Left' h r d :=
 ⟨k.file.trans l.file,k.input.trans l.input,k.fuel.trans l.fuel,Nat.le_trans l.objs k.objs,Int.le_trans l.steps k.steps,by rw [k.calls,l.calls],k.gh,k.kd,k.gv⟩
theorem Left'.le {h:Hp} {r:Hp×Va} (k:Left' h r 0):Le h r.1:=⟨k.file,k.input,k.fuel,k.objs,k.steps,by rw [k.calls];omega⟩
def MayF (f:Fi):Prop:=MayC f.classes∧∀m∈f.methods,rmeB f.classes f.methods m=true∧∀i∈m.code,i.ok
theorem rds_length (c:Cal):∀(l:List Int) (k:List Ty),l.length=k.length→(c.rds l k).length=k.length
 | [],[],_=>rfl
 | [],_::_,h=>by simp at h
 | _::_,[],h=>by simp at h
 | a::l,t::k,h=>by
  show (c.rds l k).length+1=k.length+1
  rw [rds_length c l k (by simpa using h)]
theorem rds_gd {h:Hp} {c:Cal} (g:Gc h c):∀(l:List Int) (k:List Ty),(∀j,j<l.length→0≤nth (0:Int) l j∧nth (0:Int) l j<c.m.regs)→∀v∈c.rds l k,GdV h v
 | [],_,_,v,hv=>by simp [Cal.rds] at hv
 | _::_,[],_,v,hv=>by simp [Cal.rds] at hv
 | a::l,t::k,hl,v,hv=>by
  unfold Cal.rds at hv
  rw [List.mem_cons] at hv
  rcases hv with rfl|hv
  ·exact g.rd (hl 0 (by simp))
  ·exact rds_gd g l k (fun j hj=>hl (j+1) (by simp;omega)) v hv
theorem caught_at {h:Hp} {pc:Int} {n k:Nat}:∀l:List Hd,(∀x∈l,hdB k n x=true)→h.caughtL pc l=-1∨(0≤h.caughtL pc l∧h.caughtL pc l<n)
 | [],_=>Or.inl rfl
 | x::l,hx=>by
  unfold Hp.caughtL;split
  ·have:=of_decide_eq_true (hx x (List.mem_cons_self ..));right;omega
  ·exact caught_at l (fun y hy=>hx y (List.mem_cons_of_mem _ hy))
theorem code_ok {h:Hp} {c:Cal} (gc:Gc h c) (hp:0≤c.pc∧c.pc<c.m.code.length):InOk h.file.classes h.file.methods c.m.code.length c.m.regs c.m.ret.kind (nth in0 c.m.code c.pc.toNat)∧(nth in0 c.m.code c.pc.toNat).ok:=by
 have hlt:c.pc.toNat<c.m.code.length:=by omega
 have h8:=(smeP gc.me).2.2.2.2.2.2.1 _ (nth_mem (d:=in0) hlt)
 exact ⟨rin_ok h8,gc.mok _ (nth_mem hlt)⟩
structure Mo where
 fin:Bool
 how:Int
 v:Va
 h:Hp
 cs:List Cal
def goM (h:Hp) (cs:List Cal):Mo:=⟨false,0,va0,h,cs⟩
def endM (how:Int) (v:Va) (h:Hp):Mo:=⟨true,how,v,h,[]⟩
def unwM (h:Hp):List Cal→Mo
 | []=>endM 2 ⟨3,h.thrown⟩ h
 | c::cs=>if h.caughtL c.pc c.m.hands<0 then unwM h.leave cs
  else goM { h with thrown:=-1 } ({ c with giv:=va0,cau:=⟨3,h.thrown⟩,pc:=h.caughtL c.pc c.m.hands }::cs)
def backM (h:Hp) (v:Va):List Cal→Mo
 | []=>endM 1 v h
 | c::cs=>goM h ({ c with giv:=v,cau:=va0,pc:=c.pc+1 }::cs)
def retM (h:Hp) (c:Cal) (cs:List Cal) (i:In):Mo :=
 if c.m.ret.kind=0 then backM h.leave va0 cs
 else if h.of (c.rd i.a) c.m.ret=true then backM h.leave (c.rd i.a) cs
 else endM 6 va0 h
def calM (h:Hp) (c:Cal) (cs:List Cal) (i:In):Mo :=
 let m:=nth me0 h.file.methods i.a.toNat
 if h.enterL (c.rds i.args m.params) m.params=false then endM 6 va0 h
 else if h.deep=true then endM 5 va0 h
 else goM { h with calls:=h.calls+1 } (newCal m (c.rds i.args m.params)::c::cs)
def didM (d:Did) (cs:List Cal):Mo :=
 if d.h.over=true then endM d.h.sh.fin va0 d.h
 else if 0≤d.h.thrown then unwM d.h (d.c::cs)
 else goM d.h ({ d.c with pc:=d.nx }::cs)
def stepM (h:Hp) (c:Cal) (cs:List Cal):Mo :=
 if ¬c.pc<c.m.code.length then endM 6 va0 h
 else if (nth in0 c.m.code c.pc.toNat).op=20 then retM h c cs (nth in0 c.m.code c.pc.toNat)
 else if (nth in0 c.m.code c.pc.toNat).op=18 then calM h c cs (nth in0 c.m.code c.pc.toNat)
 else didM (doesP h c (nth in0 c.m.code c.pc.toNat)) cs
def runM:Nat→Hp→List Cal→Mo
 | 0,h,cs=>endM 0 va0 h
 | n+1,h,[]=>endM 0 va0 h
 | n+1,h,c::cs=>if h.stepB=false then endM 0 va0 h
  else if (stepM h.step c cs).fin=true then stepM h.step c cs
  else runM n (stepM h.step c cs).h (stepM h.step c cs).cs
def finS (o:Mo):Sh :=
 if o.how=2 then ⟨2,0,(o.h.obj o.v.n).cls,o.h.sh.out,o.h.sh.used,o.h.sh.steps⟩
 else ⟨o.how,if o.v.kind=3 then 0 else o.v.n,0,o.h.sh.out,o.h.sh.used,o.h.sh.steps⟩
def Enough (k:Nat) (h:Hp):Prop:=h.fuel-h.sh.steps≤k
theorem does_le (h:Hp) (c:Cal) (i:In):Le h (doesP h c i).h:=by
 have m:=fun b=>must_le h b
 unfold doesP
 split
 ·exact Le.refl h
 split
 ·exact m _
 split
 ·exact m _
 split
 ·unfold putP;dsimp only;split
  ·exact (m _).trans (must_le _ _)
  ·exact ((m _).trans (must_le _ _)).trans (put_le _ _ _ _ _)
 split
 ·unfold castP;dsimp only;split
  ·exact m _
  ·exact (m _).trans (cast_le _ _ _)
 split
 ·exact m _
 split
 ·unfold thrP;dsimp only;split
  ·exact m _
  ·exact (m _).trans (throw_le _ _)
 split
 ·exact m _
 split
 ·unfold emitP;dsimp only;split
  ·exact m _
  ·exact (m _).trans (emit_le _ _ _)
 ·exact givesH_le h c i
theorem does_m (h:Hp) (c:Cal) (i:In):(doesP h c i).c.m=c.m∧(doesP h c i).c.pc=c.pc∧(doesP h c i).c.giv=va0:=by
 unfold doesP
 split
 ·exact ⟨rfl,rfl,rfl⟩
 split
 ·exact ⟨rfl,rfl,rfl⟩
 split
 ·exact ⟨rfl,rfl,rfl⟩
 split
 ·exact ⟨rfl,rfl,rfl⟩
 split
 ·exact ⟨rfl,rfl,rfl⟩
 split
 ·unfold resP;dsimp only;split
  ·exact ⟨(wr_m ..).1,(wr_m ..).2.1,(wr_m ..).2.2.1⟩
  ·exact ⟨rfl,rfl,rfl⟩
 split
 ·exact ⟨rfl,rfl,rfl⟩
 split
 ·unfold cauP;dsimp only;split
  ·exact ⟨(wr_m ..).1,(wr_m ..).2.1,(wr_m ..).2.2.1⟩
  ·exact ⟨rfl,rfl,rfl⟩
 split
 ·exact ⟨rfl,rfl,rfl⟩
 ·exact ⟨(wr_m ..).1,(wr_m ..).2.1,(wr_m ..).2.2.1⟩
structure Lf (h h':Hp):Prop where
 fuel:h'.fuel=h.fuel
 steps:h.sh.steps≤h'.sh.steps
theorem Lf.refl (h:Hp):Lf h h:=⟨rfl,Int.le_refl _⟩
theorem Lf.trans {a b c:Hp} (h:Lf a b) (k:Lf b c):Lf a c:=⟨k.fuel.trans h.fuel,Int.le_trans h.steps k.steps⟩
theorem Le.lf {h h':Hp} (l:Le h h'):Lf h h':=⟨l.fuel,l.steps⟩
theorem Lf.enough {h h':Hp} (l:Lf h h') {k:Nat} (e:Enough k h):Enough k h':=by
 have:=l.fuel;have:=l.steps;unfold Enough at *;omega
theorem leave_lf (h:Hp):Lf h h.leave:=⟨rfl,Int.le_refl _⟩
theorem unw_lf:∀(cs:List Cal) (h:Hp),Lf h (unwM h cs).h
 | [],h=>Lf.refl h
 | c::cs,h=>by
  unfold unwM
  split
  ·exact (leave_lf h).trans (unw_lf cs h.leave)
  ·exact ⟨rfl,Int.le_refl _⟩
theorem back_lf (h:Hp) (v:Va) (cs:List Cal):Lf h (backM h v cs).h:=by
 cases cs with
 | nil=>exact Lf.refl h
 | cons c cs =>
  exact Lf.refl h
theorem step_lf (h:Hp) (c:Cal) (cs:List Cal):Lf h (stepM h c cs).h:=by
 unfold stepM
 split
 ·exact Lf.refl h
 split
 ·unfold retM
  split
  ·exact (leave_lf h).trans (back_lf _ _ _)
  split
  ·exact (leave_lf h).trans (back_lf _ _ _)
  ·exact Lf.refl h
 split
 ·unfold calM
  dsimp only
  split
  ·exact Lf.refl h
  split
  ·exact Lf.refl h
  ·exact ⟨rfl,Int.le_refl _⟩
 ·unfold didM
  have hl:=(does_le h c (nth in0 c.m.code c.pc.toNat)).lf
  split
  ·exact hl
  split
  ·exact hl.trans (unw_lf _ _)
  ·exact hl
theorem stepB_steps {h:Hp} (hb:h.stepB=true):h.step.sh.steps=h.sh.steps+1∧h.step.fuel=h.fuel∧h.step.over=false∧h.step.thrown=h.thrown∧h.step.file=h.file∧h.step.calls=h.calls:=by
 unfold Hp.stepB at hb
 simp at hb
 have e:h.step={ h with sh:={ h.sh with steps:=h.sh.steps+1 } }:=by
  unfold Hp.step
  rw [if_neg (by rw [hb.1];decide),if_neg (by omega)]
 rw [e]
 exact ⟨rfl,rfl,hb.1,rfl,rfl,rfl⟩
theorem stepB_no {k:Nat} {h:Hp} (e:Enough 0 h):h.stepB=false:=by
 unfold Enough at e
 unfold Hp.stepB
 have:¬h.sh.steps<h.fuel:=by omega
 simp [this]
theorem enough_step {k:Nat} {h:Hp} (e:Enough (k+1) h) (hb:h.stepB=true):Enough k h.step:=by
 obtain ⟨h1,h2,-⟩:=stepB_steps hb
 unfold Enough at *
 omega
def NoTwo (h:Hp):Prop:=h.over=true→h.sh.fin≠2
theorem two_safe:Safe NoTwo :=
 ⟨fun h e he p=>by
   unfold Hp.fin;split
   ·exact p
   ·intro _;show e≠2;omega,
  fun h o p=>p,fun h t p=>p,fun h n p=>p,fun h p=>p⟩
theorem does_two (h:Hp) (c:Cal) (i:In) (hf:NoTwo h):NoTwo (doesP h c i).h:=two_safe.does hf c i
theorem Gc.objs {h h':Hp} {c:Cal} (g:Gc h c) (e1:h'.objs=h.objs) (e2:h'.file=h.file):Gc h' c :=
 ⟨⟨fun e=>by rw [e1];exact g.giv.ref e,g.giv.num⟩,⟨fun e=>by rw [e1];exact g.cau.ref e,g.cau.num⟩,fun v hv=>⟨fun e=>by rw [e1];exact (g.locs v hv).ref e,(g.locs v hv).num⟩,g.ok,g.len,by rw [e2];exact g.me,g.mok⟩
def IC (h:Hp) (cs:List Cal):Prop:=∀c∈cs,Gc h c∧0≤c.pc∧c.pc<c.m.code.length
theorem IC.objs {h h':Hp} {cs:List Cal} (g:IC h cs) (e1:h'.objs=h.objs) (e2:h'.file=h.file):IC h' cs:=fun c hc=>⟨(g c hc).1.objs e1 e2,(g c hc).2⟩
theorem IC.le {h h':Hp} {cs:List Cal} (g:IC h cs) (l:Le h h'):IC h' cs:=fun c hc=>⟨(g c hc).1.le l,(g c hc).2⟩
structure IM (f:Fi) (inp:List Int) (h:Hp) (cs:List Cal):Prop where
 file:h.file=f
 input:h.input=inp
 may:MayF f
 gh:Gh 0 h
 kd:Kd h
 over:h.over=false
 thr:h.thrown=-1
 calls:h.calls=cs.length
 ex:∃c cs',cs=c::cs'∧Gc h c∧0≤c.pc∧c.pc≤c.m.code.length∧IC h cs'
theorem unw_inv (f:Fi) (inp:List Int) (hmay:MayF f):∀(cs:List Cal) (h:Hp),h.file=f→h.input=inp→Gh 0 h→Kd h→h.over=false→0≤h.thrown→h.calls=cs.length→IC h cs→(unwM h cs).fin=false→IM f inp (unwM h cs).h (unwM h cs).cs∧(unwM h cs).h.sh=h.sh∧(unwM h cs).h.fuel=h.fuel
 | [],h,_,_,_,_,_,_,_,_,hfin=>by cases hfin
 | c::cs,h,hf,hin,gh,kd,ho,ht,hc,hI,hfin=>by
  have hg:=hI c List.mem_cons_self
  have hlen:h.calls=(cs.length:Int)+1:=by rw [hc];simp
  by_cases hcl:h.caughtL c.pc c.m.hands<0
  ·have e:unwM h (c::cs)=unwM h.leave cs:=if_pos hcl
   rw [e] at hfin ⊢
   have hcb:=gh.calls
   have gl:Gh 0 h.leave:=⟨fun o ho x hx=>⟨fun e=>(gh.held o ho x hx).ref e,(gh.held o ho x hx).num⟩,gh.thr,gh.used,gh.steps,gh.fuel,gh.out,gh.len,gh.inp,by show 0≤h.calls-1∧h.calls-1≤20;omega⟩
   exact unw_inv f inp hmay cs h.leave hf hin gl (kd.same rfl rfl) ho ht (by show h.calls-1=_;omega) (IC.objs (fun x hx=>hI x (List.mem_cons_of_mem _ hx)) rfl rfl) hfin
  ·have e:unwM h (c::cs)=goM { h with thrown:=-1 } ({ c with giv:=va0,cau:=⟨3,h.thrown⟩,pc:=h.caughtL c.pc c.m.hands }::cs):=by
    show (if _ then _ else _)=_
    rw [if_neg hcl]
   rw [e]
   have gt:Gh 0 { h with thrown:=-1 }:=gh.same rfl rfl rfl rfl rfl rfl rfl ⟨by dsimp only;omega,by dsimp only;omega⟩
   have g1:=hg.1.objs (h':={ h with thrown:=-1 }) rfl rfl
   have h1:=caught_at (h:=h) (pc:=c.pc) (n:=c.m.code.length) (k:=h.file.classes.length) c.m.hands (smeP hg.1.me).2.2.2.2.2.2.2.2.1
   refine ⟨⟨hf,hin,hmay,gt,kd.same rfl rfl,ho,rfl,by show h.calls=_;rw [hc];simp [goM],_,cs,rfl,⟨gdV0 _,?_,g1.locs,g1.ok,g1.len,g1.me,g1.mok⟩,by show 0≤h.caughtL c.pc c.m.hands;omega,by show h.caughtL c.pc c.m.hands≤c.m.code.length;omega,IC.objs (fun x hx=>hI x (List.mem_cons_of_mem _ hx)) rfl rfl⟩,rfl,rfl⟩
   exact ⟨fun _=>⟨by dsimp only;omega,gh.thr.2⟩,by have:=gh.thr;have:=gh.len;dsimp only;unfold I64;omega⟩
theorem step_inv {f:Fi} {inp:List Int} {h:Hp} {c:Cal} {cs:List Cal} (hf:h.file=f) (hinp:h.input=inp) (hmay:MayF f) (gh:Gh 1 h) (kd:Kd h) (ho:h.over=false) (hth:h.thrown=-1) (hc:h.calls=(c::cs).length) (gc:Gc h c) (hp:0≤c.pc∧c.pc≤c.m.code.length) (hI:IC h cs) (hfin:(stepM h c cs).fin=false) :
  IM f inp (stepM h c cs).h (stepM h c cs).cs:=by
 have hlen:h.calls=(cs.length:Int)+1:=by rw [hc];simp
 have hcb:=gh.calls
 unfold stepM at hfin ⊢
 by_cases hlt:c.pc<c.m.code.length
 ·rw [if_neg (by simpa using hlt)] at hfin ⊢
  obtain ⟨ok,iok⟩:=code_ok gc ⟨hp.1,hlt⟩
  generalize hin:nth in0 c.m.code c.pc.toNat=i at *
  by_cases h20:i.op=20
  ·rw [if_pos h20] at hfin ⊢
   have gl:Gh 0 h.leave:=⟨fun o ho x hx=>⟨fun e=>(gh.held o ho x hx).ref e,(gh.held o ho x hx).num⟩,gh.thr,gh.used,gh.steps,gh.fuel,by have:=gh.out;show (h.sh.out.length:Int)+((0:Nat):Int)≤h.sh.steps;omega,gh.len,gh.inp,by show 0≤h.calls-1∧h.calls-1≤20;omega⟩
   have hback:∀v,GdV h v→(backM h.leave v cs).fin=false→IM f inp (backM h.leave v cs).h (backM h.leave v cs).cs:=fun v gv hfn=>by
    cases cs with
    | nil=>cases hfn
    | cons c2 cs2 =>
     have h2:=hI c2 List.mem_cons_self
     have hr:IC h.leave cs2:=IC.objs (fun x hx=>hI x (List.mem_cons_of_mem _ hx)) rfl rfl
     have hcl:h.leave.calls=((c2::cs2).length:Int):=by show h.calls-1=_;omega
     have h3:=h2.1.objs (h':=h.leave) rfl rfl
     exact ⟨hf,hinp,hmay,gl,kd.same rfl rfl,ho,hth,hcl,_,cs2,rfl,⟨⟨fun e=>gv.ref e,gv.num⟩,gdV0 _,h3.locs,h3.ok,h3.len,h3.me,h3.mok⟩,by show 0≤c2.pc+1;have:=h2.2.1;omega,by show c2.pc+1≤c2.m.code.length;have:=h2.2.2;omega,hr⟩
   unfold retM at hfin ⊢
   by_cases hr0:c.m.ret.kind=0
   ·rw [if_pos hr0] at hfin ⊢;exact hback _ (gdV0 _) hfin
   ·rw [if_neg hr0] at hfin ⊢
    by_cases hof:h.of (c.rd i.a) c.m.ret=true
    ·rw [if_pos hof] at hfin ⊢;exact hback _ (gc.rd (ok.ret h20 hr0)) hfin
    ·rw [if_neg hof] at hfin;cases hfin
  ·rw [if_neg h20] at hfin ⊢
   by_cases h19:i.op=18
   ·rw [if_pos h19] at hfin ⊢
    unfold calM at hfin ⊢
    dsimp only at hfin ⊢
    obtain ⟨c1,c2,c3⟩:=ok.call h19
    have hmm:=(hf▸hmay:MayF h.file).2 _ (nth_mem (d:=me0) (i:=i.a.toNat) (by omega:i.a.toNat<h.file.methods.length))
    generalize hM:nth me0 h.file.methods i.a.toNat=m at *
    by_cases he:h.enterL (c.rds i.args m.params) m.params=false
    ·rw [if_pos he] at hfin;cases hfin
    rw [if_neg he] at hfin ⊢
    by_cases hd:h.deep=true
    ·rw [if_pos hd] at hfin;cases hfin
    rw [if_neg hd] at hfin ⊢
    have hd':h.calls<20:=by unfold Hp.deep at hd;simp at hd;exact hd
    have g2:Gh 0 { h with calls:=h.calls+1 }:=⟨fun o ho x hx=>⟨fun e=>(gh.held o ho x hx).ref e,(gh.held o ho x hx).num⟩,gh.thr,gh.used,gh.steps,gh.fuel,by have:=gh.out;show (h.sh.out.length:Int)+((0:Nat):Int)≤h.sh.steps;omega,gh.len,gh.inp,by show 0≤h.calls+1∧h.calls+1≤20;omega⟩
    have gn:Gc h (newCal m (c.rds i.args m.params)):=new_kept hmm.1 hmm.2 (rds_length c _ _ c3) (rds_gd gc _ _ (ok.args h19)) (by simpa using he)
    refine ⟨hf,hinp,hmay,g2,kd.same rfl rfl,ho,hth,by show h.calls+1=_;rw [hc];simp [goM],_,c::cs,rfl,gn.objs rfl rfl,Int.le_refl _,by show (0:Int)≤m.code.length;omega,?_⟩
    intro x hx
    rcases List.mem_cons.1 hx with rfl|hx
    ·exact ⟨gc.objs rfl rfl,hp.1,hlt⟩
    ·exact (IC.objs (h':={ h with calls:=h.calls+1 }) hI rfl rfl) x hx
   ·rw [if_neg h19] at hfin ⊢
    have k:=does_kept gh kd gc ho hth (hf▸hmay:MayF h.file).1 ok iok h19 h20 ⟨hp.1,hlt⟩
    generalize doesP h c i=d at *
    unfold didM at hfin ⊢
    by_cases hov:d.h.over=true
    ·rw [if_pos hov] at hfin;cases hfin
    rw [if_neg hov] at hfin ⊢
    have hov':d.h.over=false:=by simpa using hov
    have gd:=k.gc hov'
    have hdc:d.h.calls=((d.c::cs).length:Int):=by rw [k.le.calls,hlen];simp
    by_cases hthr:0≤d.h.thrown
    ·rw [if_pos hthr] at hfin ⊢
     refine (unw_inv f inp hmay (d.c::cs) d.h (k.le.file.trans hf) (k.le.input.trans hinp) k.gh k.kd hov' hthr hdc ?_ hfin).1
     intro x hx
     rcases List.mem_cons.1 hx with rfl|hx
     ·exact ⟨gd,by rw [k.pc];exact hp.1,by rw [k.pc,k.m];exact hlt⟩
     ·exact hI.le k.le x hx
    ·rw [if_neg hthr] at hfin ⊢
     have ht':d.h.thrown=-1:=by have:=k.gh.thr;omega
     exact ⟨k.le.file.trans hf,k.le.input.trans hinp,hmay,k.gh,k.kd,hov',ht',hdc,_,cs,rfl,gd.pc _,k.nx.1,by show d.nx≤d.c.m.code.length;rw [k.m];exact k.nx.2,hI.le k.le⟩
 ·rw [if_pos hlt] at hfin
  cases hfin
def NoThr (h:Hp):Prop:=h.over=true→h.sh.fin≠2
theorem does_noThr {h:Hp} (n:NoThr h) (c:Cal) (i:In):NoThr (doesP h c i).h:=does_two h c i n
theorem does_locs {h:Hp} (ht:h.thrown=-1) (c:Cal) (i:In) (hx:0≤(doesP h c i).h.thrown):(doesP h c i).c.locs=c.locs:=by
 unfold doesP at hx ⊢
 split
 ·rfl
 split
 ·rfl
 split
 ·rfl
 split
 ·rfl
 split
 ·rfl
 split
 ·rename_i h1 h2 h3 h4 h5 h6
  rw [if_neg h1,if_neg h2,if_neg h3,if_neg h4,if_neg h5,if_pos h6] at hx
  unfold resP at hx
  dsimp only at hx
  rw [must_thrown,ht] at hx
  omega
 split
 ·rfl
 split
 ·rename_i h1 h2 h3 h4 h5 h6 h7 h8
  rw [if_neg h1,if_neg h2,if_neg h3,if_neg h4,if_neg h5,if_neg h6,if_neg h7,if_pos h8] at hx
  unfold cauP at hx
  dsimp only at hx
  rw [must_thrown,ht] at hx
  omega
 split
 ·rfl
 ·rename_i h1 h2 h3 h4 h5 h6 h7 h8 h9
  rw [if_neg h1,if_neg h2,if_neg h3,if_neg h4,if_neg h5,if_neg h6,if_neg h7,if_neg h8,if_neg h9] at hx
  unfold givesP at hx ⊢
  dsimp only at hx ⊢
  unfold wrP
  rw [if_pos (by unfold Hp.stops;simp [hx])]
  rfl
theorem unw_same {h:Hp} {c c':Cal} {cs:List Cal} (e1:c'.m=c.m) (e2:c'.pc=c.pc) (e3:c'.locs=c.locs):unwM h (c'::cs)=unwM h (c::cs):=by
 show (if _ then _ else _)=(if _ then _ else _)
 rw [e1,e2,e3]
theorem enter_all (h:Hp):∀(vs:List Va) (ts:List Ty),vs.length=ts.length→(h.enterL vs ts=true↔∀k,k<ts.length→h.of (nth va0 vs k) (nth ty0 ts k)=true)
 | [],[],_=>⟨fun _ k hk=>absurd hk (Nat.not_lt_zero _),fun _=>rfl⟩
 | [],t::ts,e=>by simp at e
 | v::vs,[],e=>by simp at e
 | v::vs,t::ts,e=>by
  have ih:=enter_all h vs ts (by simpa using e)
  show (h.of v t&&h.enterL vs ts)=true↔_
  rw [Bool.and_eq_true,ih]
  constructor
  ·rintro ⟨a,b⟩ k hk
   cases k with
   | zero=>exact a
   | succ k=>exact b k (by simpa using hk)
  ·intro a
   exact ⟨a 0 (by simp),fun k hk=>a (k+1) (by simpa using hk)⟩
structure Ed (f:Fi) (inp:List Int) (o:Mo):Prop where
 file:o.h.file=f
 input:o.h.input=inp
 len:o.h.objs.length≤100
 thr:o.how=2→o.v.kind=3∧0≤o.v.n∧o.v.n<o.h.objs.length
theorem ed_end {f:Fi} {inp:List Int} {h:Hp} (hf:h.file=f) (hi:h.input=inp) (hl:h.objs.length≤100) {how:Int} (hn:how≠2) (v:Va):Ed f inp (endM how v h):=⟨hf,hi,hl,fun e=>absurd e hn⟩
theorem unw_ed (f:Fi) (inp:List Int):∀(cs:List Cal) (h:Hp),h.file=f→h.input=inp→h.objs.length≤100→0≤h.thrown∧h.thrown<h.objs.length→(unwM h cs).fin=true→Ed f inp (unwM h cs)
 | [],h,hf,hi,hl,ht,_=>⟨hf,hi,hl,fun _=>⟨rfl,ht.1,ht.2⟩⟩
 | c::cs,h,hf,hi,hl,ht,hfin=>by
  by_cases hcl:h.caughtL c.pc c.m.hands<0
  ·have e:unwM h (c::cs)=unwM h.leave cs:=if_pos hcl
   rw [e] at hfin ⊢
   exact unw_ed f inp cs h.leave hf hi hl ht hfin
  ·have e:unwM h (c::cs)=goM { h with thrown:=-1 } ({ c with giv:=va0,cau:=⟨3,h.thrown⟩,pc:=h.caughtL c.pc c.m.hands }::cs):=by
    show (if _ then _ else _)=_
    rw [if_neg hcl]
   rw [e] at hfin
   cases hfin
theorem back_ed {f:Fi} {inp:List Int} {h:Hp} (hf:h.file=f) (hi:h.input=inp) (hl:h.objs.length≤100) (v:Va) (cs:List Cal) (hfin:(backM h v cs).fin=true):Ed f inp (backM h v cs):=by
 cases cs with
 | nil=>exact ed_end hf hi hl (by decide) _
 | cons c cs =>
  cases hfin
theorem step_ed {f:Fi} {inp:List Int} {h:Hp} {c:Cal} {cs:List Cal} (hf:h.file=f) (hinp:h.input=inp) (gh:Gh 1 h) (kd:Kd h) (mc:MayC h.file.classes) (ho:h.over=false) (hth:h.thrown=-1) (gc:Gc h c) (hp:0≤c.pc∧c.pc≤c.m.code.length) (hfin:(stepM h c cs).fin=true) :
  Ed f inp (stepM h c cs):=by
 unfold stepM at hfin ⊢
 by_cases hlt:c.pc<c.m.code.length
 ·rw [if_neg (by simpa using hlt)] at hfin ⊢
  obtain ⟨ok,iok⟩:=code_ok gc ⟨hp.1,hlt⟩
  generalize hin:nth in0 c.m.code c.pc.toNat=i at *
  by_cases h20:i.op=20
  ·rw [if_pos h20] at hfin ⊢
   unfold retM at hfin ⊢
   by_cases hr0:c.m.ret.kind=0
   ·rw [if_pos hr0] at hfin ⊢;exact back_ed (h:=h.leave) hf hinp gh.len _ _ hfin
   ·rw [if_neg hr0] at hfin ⊢
    by_cases hof:h.of (c.rd i.a) c.m.ret=true
    ·rw [if_pos hof] at hfin ⊢;exact back_ed (h:=h.leave) hf hinp gh.len _ _ hfin
    ·rw [if_neg hof];exact ed_end hf hinp gh.len (by decide) _
  ·rw [if_neg h20] at hfin ⊢
   by_cases h19:i.op=18
   ·rw [if_pos h19] at hfin ⊢
    unfold calM at hfin ⊢
    dsimp only at hfin ⊢
    generalize hM:nth me0 h.file.methods i.a.toNat=m at *
    by_cases he:h.enterL (c.rds i.args m.params) m.params=false
    ·rw [if_pos he];exact ed_end hf hinp gh.len (by decide) _
    rw [if_neg he] at hfin ⊢
    by_cases hd:h.deep=true
    ·rw [if_pos hd];exact ed_end hf hinp gh.len (by decide) _
    rw [if_neg hd] at hfin
    cases hfin
   ·rw [if_neg h19] at hfin ⊢
    have k:=does_kept gh kd gc ho hth mc ok iok h19 h20 ⟨hp.1,hlt⟩
    have hnt:NoThr (doesP h c i).h:=does_noThr (fun e=>by rw [ho] at e;cases e) c i
    generalize doesP h c i=d at *
    have hl:=k.gh.len
    unfold didM at hfin ⊢
    by_cases hov:d.h.over=true
    ·rw [if_pos hov];exact ed_end (k.le.file.trans hf) (k.le.input.trans hinp) hl (hnt hov) _
    rw [if_neg hov] at hfin ⊢
    by_cases hthr:0≤d.h.thrown
    ·rw [if_pos hthr] at hfin ⊢
     exact unw_ed f inp (d.c::cs) d.h (k.le.file.trans hf) (k.le.input.trans hinp) hl ⟨hthr,k.gh.thr.2⟩ hfin
    ·rw [if_neg hthr] at hfin;cases hfin
 ·rw [if_pos (by simpa using hlt)];exact ed_end hf hinp gh.len (by decide) _
theorem run_ed {f:Fi} {inp:List Int}:∀(n:Nat) (h:Hp) (cs:List Cal),IM f inp h cs→Ed f inp (runM n h cs)∧(runM n h cs).fin=true
 | 0,h,cs,im=>⟨ed_end im.file im.input im.gh.len (by decide) _,rfl⟩
 | n+1,h,[],im=>by obtain ⟨c,cs,e,-⟩:=im.ex;cases e
 | n+1,h,c::cs,im=>by
  obtain ⟨c',cs',e,gc,hp0,hp1,hI⟩:=im.ex
  simp only [List.cons.injEq] at e
  obtain ⟨rfl,rfl⟩:=e
  rw [runM]
  cases hb:h.stepB with
  | false=>rw [if_pos rfl];exact ⟨ed_end im.file im.input im.gh.len (by decide) _,rfl⟩
  | true =>
   rw [if_neg (by decide)]
   obtain ⟨q1,q2,q3,q4,q5,q6⟩:=stepB_steps hb
   have sl:=step_le h
   have gh1:=im.gh.step hb
   by_cases hfin:(stepM h.step c cs).fin=true
   ·rw [if_pos hfin]
    exact ⟨step_ed (q5.trans im.file) (sl.input.trans im.input) gh1 im.kd.step (by rw [q5,im.file];exact im.may.1) q3 (q4.trans im.thr) (gc.le sl) ⟨hp0,hp1⟩ hfin,hfin⟩
   ·rw [if_neg hfin]
    exact run_ed n _ _ (step_inv (q5.trans im.file) (sl.input.trans im.input) im.may gh1 im.kd.step q3 (q4.trans im.thr) (q6.trans im.calls) (gc.le sl) ⟨hp0,hp1⟩ (hI.le sl) (by simpa using hfin))
end Go.Proofs.YtgiiapenmjollabGreat
