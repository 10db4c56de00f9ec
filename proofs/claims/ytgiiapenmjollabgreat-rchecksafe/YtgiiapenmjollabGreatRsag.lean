import Derived.Test.YtgiiapenmjollabGreatRsaf
import Derived.Deep.RegionWith
namespace Go.Proofs.YtgiiapenmjollabGreat
set_option linter.all false
set_option maxHeartbeats 40000000
set_option maxRecDepth 100000
open Go.RowKit
theorem all_to {P:Nat→Prop} {q:Nat} (h:∀j,j<q→P j) (hq:P q):∀j,j<q+1→P j:=fun j hj=>by
 by_cases hj':j<q
 ·exact h j hj'
 ·have:j=q:=by omega
  subst this;exact hq
def isAt (c k:Int) (x:Hel):Bool:=decide (x.cls=c∧x.fld=k)
theorem heldAt_found {l:List Hel} {c k:Int} {q:Nat} (hq:q<l.length) (h:∀j,j<q→isAt c k (nth hel0 l j)=false) (hx:isAt c k (nth hel0 l q)=true):heldAt l c k=(q:Nat):=by
 have:l.findIdx? (fun x=>decide (x.cls=c∧x.fld=k))=some q:=by
  rw [List.findIdx?_eq_some_iff_getElem]
  refine ⟨hq,by rw [nth_get hq] at hx;exact hx,fun j hj=>?_⟩
  have:=h j hj
  rw [nth_get (by omega)] at this
  unfold isAt at this
  rw [this];decide
 unfold heldAt;rw [this]
theorem heldAt_none {l:List Hel} {c k:Int} (h:∀j,j<l.length→isAt c k (nth hel0 l j)=false):heldAt l c k=-1:=by
 have:l.findIdx? (fun x=>decide (x.cls=c∧x.fld=k))=none:=by
  rw [List.findIdx?_eq_none_iff]
  intro x hx
  obtain ⟨j,hj,rfl⟩:=List.getElem_of_mem hx
  have:=h j hj
  rw [nth_get hj] at this
  exact this
 unfold heldAt;rw [this]
theorem he_cells:∀(l:List Hel) (j:Nat),j<l.length→(heCells l)[j*4]?=some (.int .i64 (nth hel0 l j).cls)∧(heCells l)[j*4+1]?=some (.int .i64 (nth hel0 l j).fld)∧(heCells l)[j*4+2]?=some (.int .i64 (nth hel0 l j).v.kind)∧(heCells l)[j*4+3]?=some (.int .i64 (nth hel0 l j).v.n)
 | [],j,h=>by simp at h
 | x::l,0,_=>by simp [heCells,nth]
 | x::l,j+1,h=>by
  have:=he_cells l j (by simpa using h)
  have e:(j+1)*4=j*4+1+1+1+1:=by omega
  rw [e]
  simpa [heCells,nth] using this
theorem held_cells {w0 w:World} {g:Ad} {p:Nat} {h:Hp} {vo vx:Value} {hv:List Value} (H:HpAt w0 g w p h vo vx hv) {n:Nat} (hn:n<h.objs.length) :
  ∃gb cap U uc,vo=.slice (some ⟨gb,0,none⟩) h.objs.length cap∧h.objs.length≤maxLen∧w.cell? ⟨gb,n*2,none⟩=some (.int .i64 (nth ob0 h.objs n).cls)∧w.cell? ⟨gb,n*2+1,none⟩=some (.slice U (nth ob0 h.objs n).held.length uc)
   ∧ (nth hv0 hv n)=.slice U (nth ob0 h.objs n).held.length uc∧(nth ob0 h.objs n).held.length≤maxLen∧((nth ob0 h.objs n).held.length=0∨∃hb,U=some ⟨hb,0,none⟩∧(∀i,w.frozen? ⟨hb,i,none⟩=false)∧∀j,j<(nth ob0 h.objs n).held.length →
    w.cell? ⟨hb,j*4,none⟩=some (.int .i64 (nth hel0 (nth ob0 h.objs n).held j).cls)∧w.cell? ⟨hb,j*4+1,none⟩=some (.int .i64 (nth hel0 (nth ob0 h.objs n).held j).fld)
    ∧ w.cell? ⟨hb,j*4+2,none⟩=some (.int .i64 (nth hel0 (nth ob0 h.objs n).held j).v.kind)∧w.cell? ⟨hb,j*4+3,none⟩=some (.int .i64 (nth hel0 (nth ob0 h.objs n).held j).v.n)):=by
 obtain ⟨gb,cap,hvo,-,hm,hc⟩:=obs_cell H.obs (by omega)
 have hh:=H.obs.held n hn
 obtain ⟨c1,c2⟩:=hc n hn
 rcases hh.2 with ⟨e,e0⟩|⟨hb,uc,cur,e,h2,h3,h4,h5,h6,h7⟩
 ·rw [e] at c2
  exact ⟨gb,cap,none,0,hvo,hm,c1,by rw [c2,e0],by rw [e,e0],by rw [e0];exact Nat.zero_le _,Or.inl e0⟩
 ·rw [e] at c2
  refine ⟨gb,cap,_,uc,hvo,hm,c1,c2,e,by omega,Or.inr ⟨hb,rfl,fun i=>free_blk h3 i,fun j hj=>?_⟩⟩
  have hx:=he_cells _ j hj
  have key:∀i,i<(nth ob0 h.objs n).held.length*4→w.cell? ⟨hb,i,none⟩=(heCells (nth ob0 h.objs n).held)[i]?:=fun i hi=>by
   rw [cell_blk h3,←h7,List.getElem?_take,if_pos hi];simp
  exact ⟨(key _ (by omega)).trans hx.1,(key _ (by omega)).trans hx.2.1,(key _ (by omega)).trans hx.2.2.1,(key _ (by omega)).trans hx.2.2.2⟩
theorem find_any (w0:World) (g:Ad) (p:Nat) (h:Hp) (r:Va) (c f:Int) (w:World) (hH:Hs w0 g w p h) (C:Cw w0 g h) (hr3:r.kind=3→r.n<h.objs.length) :
  Calls Tryz.prog 227 #[.pointer (some ⟨p,0,none⟩),vaV r,.int .i64 c,.int .i64 f] w fun e w'=>e=.returned (.int .i64 (h.findN r c f))∧Hs w0 g w' p (h.findH r c)∧Fr w0.heap.size g.T w w':=by
 have hbs:=hH.base
 have HF:Hid (Fr w0.heap.size g.T w (w.alloc (vaO r))):=(Fr.refl _ _ w).alloc hbs _
 have HH:Hid (Hs w0 g (w.alloc (vaO r)) p h):=hH.cf ((Cf.refl _ _ w).alloc hbs _)
 have HV:Hid (VaBox (w.alloc (vaO r)) w.heap.size r):=VaBox.new w r
 have HC:Hid (Cw w0 g h):=C
 have HR3:Hid (r.kind=3→r.n<h.objs.length):=hr3
 clear hH C hr3
 obtain ⟨O,hO⟩:∃O,h.of r ⟨3,c⟩=O:=⟨_,rfl⟩
 cases hm:h.mustB O
 ·have e1:h.findN r c f=-1:=by unfold Hp.findN;rw [hO,if_neg (by rw [hm];decide)]
  have e2:h.findH r c=h.must O:=by unfold Hp.findH;rw [hO,if_neg (by rw [hm];decide)]
  rw [e1,e2]
  clear e1 e2
  go_enter Tryz.func227,Tryz.ntmps227
  go_wp2_with (first
   | (go_at_call 87;refine (of_any w0 g p h r ⟨3,c⟩ _ HH.out HC.out.cls HC.out.tree HR3.out).mono ?_;rintro e w1 ⟨he,h1,f1,-⟩;rw [hO] at he;subst he)
   | (go_at_call 85;refine (must_any w0 g HC.out.k p h O _ h1).mono ?_;rintro e w2 ⟨he,h2,f2⟩;rw [hm] at he;subst he))
  go_ret
  exact ⟨rfl,h2,(HF.out.trans f1).trans f2⟩
 ·obtain ⟨rfl,hov,hmu⟩:=mustB_true hm
  have hrk:=of_ref hO
  have hrn:=HR3.out hrk
  have HMU:Hid (h.must true=h):=hmu
  clear hmu hov
  by_cases hn:r.n<0
  ·have e1:h.findN r c f=-1:=by unfold Hp.findN;rw [hO,if_pos hm,if_pos hn]
   have e2:h.findH r c=h.raise 1:=by unfold Hp.findH;rw [hO,if_pos hm,if_pos hn]
   rw [e1,e2]
   clear e1 e2 hrk
   go_enter Tryz.func227,Tryz.ntmps227
   go_wp2_with (first
    | (go_at_call 87;refine (of_any w0 g p h r ⟨3,c⟩ _ HH.out HC.out.cls HC.out.tree HR3.out).mono ?_;rintro e w1 ⟨he,h1,f1,-⟩;rw [hO] at he;subst he)
    | (go_at_call 85;refine (must_any w0 g HC.out.k p h true _ h1).mono ?_;rintro e w2 ⟨he,h2,f2⟩;rw [hm] at he;subst he;rw [HMU.out] at h2;have r1:=((HV.out.keep HC.out.k f1).keep HC.out.k f2).c1)
    | (go_at_call 226;refine (raise_any w0 g p h 1 _ h2 HC.out (by omega)).mono ?_;rintro e w3 ⟨rfl,h3,f3⟩))
   go_ret
   exact ⟨rfl,h3,((HF.out.trans f1).trans f2).trans f3⟩
  ·have e1:h.findN r c f=heldAt (nth ob0 h.objs r.n.toNat).held c f:=by unfold Hp.findN;rw [hO,if_pos hm,if_neg hn];rfl
   have e2:h.findH r c=h:=by unfold Hp.findH;rw [hO,if_pos hm,if_neg hn]
   rw [e1,e2]
   clear e1 e2 hrk
   obtain ⟨rk,rn⟩:=r
   dsimp only at *
   obtain ⟨n,rfl⟩:∃n:Nat,rn=n:=⟨rn.toNat,by omega⟩
   rw [Int.toNat_natCast]
   have hnl:n<h.objs.length:=by omega
   have hn0:(0:Int)≤(n:Int):=by omega
   have hn1:(n:Int)<(h.objs.length:Int):=by omega
   have HFD:Hid (∀q,q<(nth ob0 h.objs n).held.length→(∀j,j<q→isAt c f (nth hel0 (nth ob0 h.objs n).held j)=false)→isAt c f (nth hel0 (nth ob0 h.objs n).held q)=true→heldAt (nth ob0 h.objs n).held c f=(q:Nat)):=fun q=>heldAt_found
   have HND:Hid ((∀j,j<(nth ob0 h.objs n).held.length→isAt c f (nth hel0 (nth ob0 h.objs n).held j)=false)→heldAt (nth ob0 h.objs n).held c f=-1):=heldAt_none
   obtain ⟨R,hR⟩:∃R,heldAt (nth ob0 h.objs n).held c f=R:=⟨_,rfl⟩
   rw [hR] at HFD HND ⊢
   clear hR hn
   go_enter Tryz.func227,Tryz.ntmps227
   go_wp2_with (first
    | (go_at_call 87;refine (of_any w0 g p h ⟨rk,n⟩ ⟨3,c⟩ _ HH.out HC.out.cls HC.out.tree HR3.out).mono ?_;rintro e w1 ⟨he,h1,f1,-⟩;rw [hO] at he;subst he)
    | (go_at_call 85;refine (must_any w0 g HC.out.k p h true _ h1).mono ?_;rintro e w2 ⟨he,h2,f2⟩;rw [hm] at he;subst he;rw [HMU.out] at h2;have r1:=((HV.out.keep HC.out.k f1).keep HC.out.k f2).c1;obtain ⟨vo,vx,hv,H⟩:=h2;have HA:Hid (HpAt w0 g w2 p h vo vx hv):=H;obtain ⟨gb,cap,U,uc,hvo,hom,o1,o2,hu,hum,hheld⟩:=held_cells H hnl;have c2:=H.cells.c2;rw [hvo] at c2;clear H hvo hu;unfold maxLen at hom hum))
   go_quiet (fail)
   go_wp2
   go_loop [10] (fun i=>∃q:Nat,q≤(nth ob0 h.objs n).held.length∧i=.int .i64 q∧Hid (∀j,j<q→isAt c f (nth hel0 (nth ob0 h.objs n).held j)=false)) (fun i=>(nth ob0 h.objs n).held.length-(intOf i).toNat)
   case atStart=>exact ⟨0,Nat.zero_le _,rfl,fun j hj=>absurd hj (Nat.not_lt_zero _)⟩
   case round =>
    obtain ⟨q,hq,rfl,hgq⟩:=hrel
    by_cases hql:q<(nth ob0 h.objs n).held.length
    ·rcases hheld with h0|⟨hb,rfl,-,hcell⟩
     ·omega
     obtain ⟨x0,x1,-,-⟩:=hcell q hql
     have HX:=HFD.out q hql hgq.out
     have HXX:Hid (isAt c f (nth hel0 (nth ob0 h.objs n).held q)=true→R=(q:Nat)):=HX
     clear hcell HX
     have hdef:isAt c f (nth hel0 (nth ob0 h.objs n).held q)=decide ((nth hel0 (nth ob0 h.objs n).held q).cls=c∧(nth hel0 (nth ob0 h.objs n).held q).fld=f):=rfl
     have HDEF:Hid (isAt c f (nth hel0 (nth ob0 h.objs n).held q)=decide ((nth hel0 (nth ob0 h.objs n).held q).cls=c∧(nth hel0 (nth ob0 h.objs n).held q).fld=f)):=hdef
     clear hdef
     by_cases a1:(nth hel0 (nth ob0 h.objs n).held q).cls=c
     ·have d1:((nth hel0 (nth ob0 h.objs n).held q).cls==c)=true:=by simpa using a1
      by_cases a2:(nth hel0 (nth ob0 h.objs n).held q).fld=f
      ·have d2:((nth hel0 (nth ob0 h.objs n).held q).fld==f)=true:=by simpa using a2
       have HRQ:Hid (R=(q:Nat)):=HXX.out (by rw [HDEF.out,decide_eq_true ⟨a1,a2⟩])
       clear a1 a2
       go_wp2
       go_ret
       exact ⟨ret_int HRQ.out.symm,⟨vo,vx,hv,HA.out.drewN _⟩,(((HF.out.trans f1).trans f2)).drewN _⟩
      ·have d2:((nth hel0 (nth ob0 h.objs n).held q).fld==f)=false:=by simpa using a2
       have HN:Hid (isAt c f (nth hel0 (nth ob0 h.objs n).held q)=false):=by rw [HDEF.out,decide_eq_false (fun z=>a2 z.2)];rfl
       clear a1 a2
       go_wp2
       go_round
       case rel=>exact ⟨q+1,by omega,by go_num,all_to hgq.out HN.out⟩
       case measure=>simp [intOf];omega
     ·have d1:((nth hel0 (nth ob0 h.objs n).held q).cls==c)=false:=by simpa using a1
      have HN:Hid (isAt c f (nth hel0 (nth ob0 h.objs n).held q)=false):=by rw [HDEF.out,decide_eq_false (fun z=>a1 z.1)];rfl
      clear a1
      go_wp2
      go_round
      case rel=>exact ⟨q+1,by omega,by go_num,all_to hgq.out HN.out⟩
      case measure=>simp [intOf];omega
    ·obtain rfl:q=(nth ob0 h.objs n).held.length:=by omega
     have HRQ:Hid (R=-1):=HND.out hgq.out
     go_wp2
     go_ret
     exact ⟨ret_int HRQ.out.symm,⟨vo,vx,hv,HA.out.drewN _⟩,(((HF.out.trans f1).trans f2)).drewN _⟩
theorem find_pos {h:Hp} {r:Va} {c f:Int} (hr3:r.kind=3→r.n<h.objs.length) (hp:¬h.findN r c f<0) :
  h.findH r c=h∧r.kind=3∧∃n q:Nat,r.n=n∧n<h.objs.length∧h.findN r c f=q∧q<(nth ob0 h.objs n).held.length:=by
 unfold Hp.findN at hp
 by_cases hm:h.mustB (h.of r ⟨3,c⟩)=true
 ·rw [if_pos hm] at hp
  by_cases hn:r.n<0
  ·rw [if_pos hn] at hp;omega
  ·rw [if_neg hn] at hp
   have hk:=of_ref (mustB_true hm).1
   have hl:=hr3 hk
   rcases heldAt_lt (h.obj r.n).held c f with h1|⟨q,hq,h1⟩
   ·rw [h1] at hp;omega
   ·refine ⟨by unfold Hp.findH;rw [if_pos hm,if_neg hn],hk,r.n.toNat,q,by omega,by omega,by unfold Hp.findN;rw [if_pos hm,if_neg hn];exact h1,hq⟩
 ·rw [if_neg hm] at hp;omega
theorem two_new (w:World) (v u:Va):VaBox ((w.alloc (vaO v)).alloc (vaO u)) w.heap.size v∧VaBox ((w.alloc (vaO v)).alloc (vaO u)) (w.heap.size+1) u:=by
 have h1:(w.alloc (vaO v)).heap.size=w.heap.size+1:=World.size_alloc ..
 refine ⟨⟨?_⟩,⟨?_⟩⟩
 ·rw [Below.heap_alloc _ _ _ (by omega)];exact blk_new _ _ _
 ·rw [←h1];exact blk_new _ _ _
theorem get_any (w0:World) (g:Ad) (p:Nat) (h:Hp) (r:Va) (c f:Int) (w:World) (hH:Hs w0 g w p h) (C:Cw w0 g h) (hr3:r.kind=3→r.n<h.objs.length) :
  Calls Tryz.prog 231 #[.pointer (some ⟨p,0,none⟩),vaV r,.int .i64 c,.int .i64 f] w fun e w'=>e=.returned (vaV (h.getV r c f))∧Hs w0 g w' p (h.findH r c)∧Fr w0.heap.size g.T w w':=by
 have hbs:=hH.base
 have HF:Hid (Fr w0.heap.size g.T w ((w.alloc (vaO r)).alloc vzO)):=((Fr.refl _ _ w).alloc hbs _).alloc (by simp;omega) _
 have HH:Hid (Hs w0 g ((w.alloc (vaO r)).alloc vzO) p h):=hH.cf (((Cf.refl _ _ w).alloc hbs _).alloc (by simp;omega) _)
 have HV:Hid (VaBox ((w.alloc (vaO r)).alloc vzO) w.heap.size r):=(two_new w r va0).1
 have HR:Hid (VaBox ((w.alloc (vaO r)).alloc vzO) (w.heap.size+1) va0):=(two_new w r va0).2
 have HC:Hid (Cw w0 g h):=C
 have HR3:Hid (r.kind=3→r.n<h.objs.length):=hr3
 clear hH C
 have hbs':w0.heap.size≤w.heap.size+1:=by omega
 have hle':w.heap.size≤w.heap.size+1:=by omega
 by_cases hneg:h.findN r c f<0
 ·have e1:h.getV r c f=va0:=by unfold Hp.getV;rw [if_pos hneg]
  rw [e1]
  clear e1 hr3
  obtain ⟨N,hN⟩:∃N,h.findN r c f=N:=⟨_,rfl⟩
  rw [hN] at hneg
  go_enter Tryz.func231,Tryz.ntmps231
  go_wp2_with (go_at_call 227;refine (find_any w0 g p h r c f _ HH.out HC.out HR3.out).mono ?_;rintro e w1 ⟨he,h1,f1⟩;rw [hN] at he;subst he;have b1:=HR.out.keep HC.out.k f1;have r0:=b1.c0;have r1:=b1.c1;have r2:=b1.fr 0;have r3:=b1.fr 1;have HB1:Hid (VaBox w1 (w.heap.size+1) va0):=b1;clear b1)
  (try simp only [Exit.inBlock,Exit.then])
  refine bodyPost_ret (results_cell_row rfl _ _ (w.heap.size+1) _ _ _ _ rfl (HB1.out.set va0).blk Tryz.underlying82 rfl info_va) rfl ?_
  exact ⟨rfl,h1.cf (HB1.out.cf HC.out.k hbs' _ _),(((HF.out.trans f1).new hle' hbs' _).new hle' hbs' _)⟩
 ·obtain ⟨e2,hk,n,q,hrn,hnl,hfq,hql⟩:=find_pos hr3 hneg
  have e1:h.getV r c f=(nth hel0 (nth ob0 h.objs n).held q).v:=by unfold Hp.getV Hp.obj;rw [if_neg hneg,hfq,hrn];rfl
  rw [e1,e2]
  have HE2:Hid (h.findH r c=h):=e2
  have HFQ:Hid (h.findN r c f=q):=hfq
  obtain ⟨rk,rn⟩:=r
  dsimp only at *
  subst hrn
  clear e1 e2 hfq hneg hr3 hk
  have hn0:(0:Int)≤(n:Int):=by omega
  have hn1:(n:Int)<(h.objs.length:Int):=by omega
  have hq0:(0:Int)≤(q:Int):=by omega
  have hq1:(q:Int)<((nth ob0 h.objs n).held.length:Int):=by omega
  go_enter Tryz.func231,Tryz.ntmps231
  go_wp2_with (go_at_call 227;refine (find_any w0 g p h ⟨rk,n⟩ c f _ HH.out HC.out HR3.out).mono ?_;rintro e w1 ⟨he,h1,f1⟩;rw [HFQ.out] at he;subst he;rw [HE2.out] at h1;have b1:=HR.out.keep HC.out.k f1;have r0:=b1.c0;have r1:=b1.c1;have r2:=b1.fr 0;have r3:=b1.fr 1;have HB1:Hid (VaBox w1 (w.heap.size+1) va0):=b1;clear b1;have x1:=(HV.out.keep HC.out.k f1).c1;obtain ⟨vo,vx,hv,H⟩:=h1;have HA:Hid (HpAt w0 g w1 p h vo vx hv):=H;obtain ⟨gb,cap,U,uc,hvo,hom,o1,o2,hu,hum,hheld⟩:=held_cells H hnl;have c2:=H.cells.c2;rw [hvo] at c2;clear H hvo hu;unfold maxLen at hom hum)
  rcases hheld with h0|⟨hb,rfl,-,hcell⟩
  ·omega
  obtain ⟨-,-,y2,y3⟩:=hcell q hql
  clear hcell o1
  go_region
  all_goals go_wp2
  all_goals
   (try simp only [Exit.inBlock,Exit.then])
   refine bodyPost_ret (results_cell_row rfl _ _ (w.heap.size+1) _ _ _ _ rfl (HB1.out.set (nth hel0 (nth ob0 h.objs n).held q).v).blk Tryz.underlying82 rfl info_va) rfl ?_
   exact ⟨rfl,⟨vo,vx,hv,HA.out.cf ((HB1.out.cf HC.out.k hbs' _ _).drew)⟩,(((HF.out.trans f1).new hle' hbs' _).new hle' hbs' _).drew⟩
theorem heCells_set:∀(l:List Hel) (q:Nat) (v:Va),q<l.length→heCells (l.set q { nth hel0 l q with v:=v })=((heCells l).set (q*4+2) (.int .i64 v.kind)).set (q*4+3) (.int .i64 v.n)
 | [],q,v,h=>by simp at h
 | x::l,0,v,_=>by simp [heCells,nth]
 | x::l,q+1,v,h=>by
  have:=heCells_set l q v (by simpa using h)
  have e2:(q+1)*4+2=q*4+2+1+1+1+1:=by omega
  have e3:(q+1)*4+3=q*4+3+1+1+1+1:=by omega
  have en:nth hel0 (x::l) (q+1)=nth hel0 l q:=by simp [nth]
  rw [e2,e3,en]
  simp [heCells,this]
theorem obCells_set:∀(l:List Ob) (hv:List Value) (n:Nat) (o:Ob),o.cls=(nth ob0 l n).cls→obCells (l.set n o) hv=obCells l hv
 | [],hv,n,o,_=>by simp
 | x::l,[],n,o,_=>by cases n<;>simp [obCells]
 | x::l,v::hv,0,o,h=>by simp [nth] at h;simp [obCells,h]
 | x::l,v::hv,n+1,o,h=>by
  have en:nth ob0 (x::l) (n+1)=nth ob0 l n:=by simp [nth]
  rw [en] at h
  simp [obCells,obCells_set l hv n o h]
theorem row_apart {w:World} {base:Nat} {e:TypeId} {size n:Nat} {v:Value} {xs:List Value} (ho:w.ownsRow base e size v n xs) {b i:Nat} (hb:v.ownBlock≠some b) (u:Value):(w.setCell ⟨b,i,none⟩ u).ownsRow base e size v n xs:=by
 refine ⟨ho.1,?_⟩
 rcases ho.2 with h0|⟨gb,cap,cur,h1,h2,h3,h4⟩
 ·exact Or.inl h0
 ·refine Or.inr ⟨gb,cap,cur,h1,h2,?_,h4⟩
  rw [block_far]
  ·exact h3
  ·rintro rfl;apply hb;rw [h1];rfl
theorem HpAt.heldSet {w0 w:World} {g:Ad} {p:Nat} {h:Hp} {vo vx:Value} {hv:List Value} (H:HpAt w0 g w p h vo vx hv) (k:Tk g.T) {n q hb uc:Nat} (hn:n<h.objs.length) (hq:q<(nth ob0 h.objs n).held.length)
  (hu:nth hv0 hv n=.slice (some ⟨hb,0,none⟩) (nth ob0 h.objs n).held.length uc) (v:Va) :
  HpAt w0 g ((w.setCell ⟨hb,q*4+2,none⟩ (.int .i64 v.kind)).setCell ⟨hb,q*4+3,none⟩ (.int .i64 v.n)) p (h.setV n q v) vo vx hv
  ∧ Fr w0.heap.size g.T w ((w.setCell ⟨hb,q*4+2,none⟩ (.int .i64 v.kind)).setCell ⟨hb,q*4+3,none⟩ (.int .i64 v.n)):=by
 have hh:=H.obs.held n hn
 rw [hu] at hh
 have hblk:∃cur,w.heap[hb]?=some (.cells cur 285 (0,0))∧w0.heap.size≤hb:=by
  rcases hh.2 with ⟨e,-⟩|⟨gb,cap,cur,e,h2,h3,h4⟩
  ·simp at e
  ·simp at e;obtain ⟨rfl,-⟩:=e;exact ⟨cur,h3,h2⟩
 obtain ⟨cur,hcur,hB⟩:=hblk
 have hcur2:=block_set (i:=q*4+2) hcur (.int .i64 v.kind)
 have hT:heapT g.T 285:=.inr (.inr (.inl rfl))
 refine ⟨⟨H.own,?_,Below.setCell (Below.setCell H.bl hB _) hB _,?_,?_,?_,?_,?_⟩,((Fr.refl _ _ w).set hcur hT hB _).set hcur2 hT hB _⟩
 ·have hne:p≠hb:=by rintro rfl;have:=H.blk;rw [hcur] at this;simp at this;exact k.h this.2.symm
  rw [block_far hne,block_far hne];exact H.blk
 ·exact row_far (row_far H.out hcur (by decide) _) hcur2 (by decide) _
 ·simp [Hp.setV,H.obs.len]
 ·have e:obCells (h.setV n q v).objs hv=obCells h.objs hv:=obCells_set _ _ _ _ rfl
  rw [e]
  have hl:(h.setV n q v).objs.length=h.objs.length:=by simp [Hp.setV]
  rw [hl]
  exact row_far (row_far H.obs.row hcur (by decide) _) hcur2 (by decide) _
 ·intro i hi
  have hl:(h.setV n q v).objs.length=h.objs.length:=by simp [Hp.setV]
  rw [hl] at hi
  by_cases hin:n=i
  ·subst hin
   have e:(nth ob0 (h.setV n q v).objs n).held=(nth ob0 h.objs n).held.set q { nth hel0 (nth ob0 h.objs n).held q with v:=v }:=by unfold Hp.setV;rw [nth_set_eq hn]
   rw [e,hu,heCells_set _ _ _ hq]
   have s1:=hh.stored (q*4+2) (.int .i64 v.kind)
   have s2:=s1.1.stored (q*4+3) (.int .i64 v.n)
   simpa using s2.1
  ·have e:nth ob0 (h.setV n q v).objs i=nth ob0 h.objs i:=by unfold Hp.setV;exact nth_set_ne hin
   rw [e]
   have ha:(nth hv0 hv i).ownBlock≠some hb:=by
    have:=H.obs.apart i n hi hn (Ne.symm hin)
    rw [hu] at this
    rcases this with h1|h1
    ·rw [h1];simp
    ·exact h1
   exact row_apart (row_apart (H.obs.held i hi) ha _) ha _
 ·have hl:(h.setV n q v).objs.length=h.objs.length:=by simp [Hp.setV]
  rw [hl]
  exact H.obs.apart
theorem field_cells {w:World} {A:Option Addr} {cs:List Cl} (h:ClsAt w A cs) {c f:Nat} (hc:c<cs.length) (hf:f<(nth cl0 cs c).fields.length) :
  ∃b off F fo uc,A=some ⟨b,off,none⟩∧w.cell? ⟨b,off+c*2+1,none⟩=some (.slice (some ⟨F,fo,none⟩) (nth cl0 cs c).fields.length uc)∧cs.length≤maxLen∧(nth cl0 cs c).fields.length≤maxLen
   ∧ w.cell? ⟨F,fo+f*2,none⟩=some (.int .i64 (nth ty0 (nth cl0 cs c).fields f).kind)∧w.cell? ⟨F,fo+f*2+1,none⟩=some (.int .i64 (nth ty0 (nth cl0 cs c).fields f).cls):=by
 rcases h.2 with h0|⟨b,off,rfl,hcell⟩
 ·omega
 obtain ⟨-,-,A',uc,hfl,hty⟩:=hcell c hc
 rcases hty.2 with h0|⟨F,fo,rfl,htc⟩
 ·omega
 exact ⟨b,off,F,fo,uc,rfl,hfl,h.1,hty.1,(htc f hf).1,(htc f hf).2.1⟩
theorem fin_file (h:Hp) (e:Int):(h.fin e).file=h.file∧(h.fin e).input=h.input:=by unfold Hp.fin;split<;>exact ⟨rfl,rfl⟩
theorem must_file (h:Hp) (b:Bool):(h.must b).file=h.file∧(h.must b).input=h.input:=by
 unfold Hp.must;split
 ·exact ⟨rfl,rfl⟩
 ·exact fin_file h 6
theorem Hs.bl {w0 w:World} {g:Ad} {p:Nat} {h:Hp} (H:Hs w0 g w p h):Bl w0 w:=by
 obtain ⟨vo,vx,hv,H⟩:=H
 exact H.bl
theorem Hs.c0 {w0 w:World} {g:Ad} {p:Nat} {h h':Hp} (H:Hs w0 g w p h') (he:h'.file=h.file):w.cell? ⟨p,0,none⟩=some (.slice g.A h.file.classes.length g.a):=by
 obtain ⟨vo,vx,hv,H⟩:=H
 rw [←he];exact H.cells.c0
theorem put_any (w0:World) (g:Ad) (p:Nat) (h:Hp) (r:Va) (c f:Nat) (v:Va) (w:World) (hH:Hs w0 g w p h) (C:Cw w0 g h) (hr3:r.kind=3→r.n<h.objs.length) (hv3:v.kind=3→v.n<h.objs.length)
  (hc:c<h.file.classes.length) (hf:f<(nth cl0 h.file.classes c).fields.length) :
  Calls Tryz.prog 164 #[.pointer (some ⟨p,0,none⟩),vaV r,.int .i64 (c:Int),.int .i64 (f:Int),vaV v] w fun e w'=>e=.returned (.tuple #[])∧Hs w0 g w' p (h.put r c f v)∧Fr w0.heap.size g.T w w':=by
 have hbs:=hH.base
 have HF:Hid (Fr w0.heap.size g.T w ((w.alloc (vaO r)).alloc (vaO v))):=((Fr.refl _ _ w).alloc hbs _).alloc (by simp;omega) _
 have HH:Hid (Hs w0 g ((w.alloc (vaO r)).alloc (vaO v)) p h):=hH.cf (((Cf.refl _ _ w).alloc hbs _).alloc (by simp;omega) _)
 have HV:Hid (VaBox ((w.alloc (vaO r)).alloc (vaO v)) w.heap.size r):=(two_new w r v).1
 have HU:Hid (VaBox ((w.alloc (vaO r)).alloc (vaO v)) (w.heap.size+1) v):=(two_new w r v).2
 have HC:Hid (Cw w0 g h):=C
 have HR3:Hid (r.kind=3→r.n<h.objs.length):=hr3
 have HV3:Hid (v.kind=3→v.n<h.objs.length):=hv3
 have hbl2:Bl w0 ((w.alloc (vaO r)).alloc (vaO v)):=HH.out.bl
 obtain ⟨b,off,F,fo,uc,hgA,y0,hcm,hfm,y1,y2⟩:=field_cells C.cls hc hf
 have HY0:Hid (w0.cell? ⟨b,off+c*2+1,none⟩=some (.slice (some ⟨F,fo,none⟩) (nth cl0 h.file.classes c).fields.length uc)):=y0
 have HY1:Hid (w0.cell? ⟨F,fo+f*2,none⟩=some (.int .i64 (nth ty0 (nth cl0 h.file.classes c).fields f).kind)):=y1
 have HY2:Hid (w0.cell? ⟨F,fo+f*2+1,none⟩=some (.int .i64 (nth ty0 (nth cl0 h.file.classes c).fields f).cls)):=y2
 replace y0:=hbl2.cell y0
 replace y1:=hbl2.cell y1
 replace y2:=hbl2.cell y2
 unfold maxLen at hcm hfm
 have c0:((w.alloc (vaO r)).alloc (vaO v)).cell? ⟨p,0,none⟩=some (.slice (some ⟨b,off,none⟩) h.file.classes.length g.a):=by rw [HH.out.c0 rfl,hgA]
 have u0:=HU.out.c0
 have u1:=HU.out.c1
 have hc0:(0:Int)≤(c:Int):=by omega
 have hc1:(c:Int)<(h.file.classes.length:Int):=by omega
 have hf0:(0:Int)≤(f:Int):=by omega
 have hf1:(f:Int)<((nth cl0 h.file.classes c).fields.length:Int):=by omega
 clear hH C hr3 hv3
 have hft:fieldT h.file.classes (c:Int) (f:Int)=nth ty0 (nth cl0 h.file.classes c).fields f:=by unfold fieldT;rw [Int.toNat_natCast,Int.toNat_natCast]
 generalize hT:nth ty0 (nth cl0 h.file.classes c).fields f=t at *
 obtain ⟨O,hO⟩:∃O,h.of v t=O:=⟨_,rfl⟩
 have HO:Hid (h.of v t=O):=hO
 have HA0:Hid (g.A=some ⟨b,off,none⟩):=hgA
 clear hT hgA
 have hput:h.put r c f v=if h.mustB O=true then (if h.findN r c f<0 then h.findH r c else (h.findH r c).setV r.n.toNat (h.findN r c f).toNat v) else h.must O:=by
  unfold Hp.put;rw [hft,hO]
 rw [hput]
 clear hput hft hO
 cases hm:h.mustB O
 ·rw [if_neg (by decide)]
  go_enter Tryz.func164,Tryz.ntmps164
  go_wp2
  go_region_held3 (fun w'=>w'.cell? ⟨p,0,none⟩=some (.slice (some ⟨b,off,none⟩) h.file.classes.length g.a)∧w'.cell? ⟨w.heap.size+1,0,none⟩=some (.int .i64 v.kind)∧w'.cell? ⟨w.heap.size+1,1,none⟩=some (.int .i64 v.n)∧w'.cell? ⟨b,off+c*2+1,none⟩=some (.slice (some ⟨F,fo,none⟩) (nth cl0 h.file.classes c).fields.length uc)∧w'.cell? ⟨F,fo+f*2,none⟩=some (.int .i64 t.kind)∧w'.cell? ⟨F,fo+f*2+1,none⟩=some (.int .i64 t.cls))
   (go_keep)
   (first
    | (go_at_call 87;refine (of_any w0 g p h v t _ (by first|exact HH.out.cf (Cf.drew (Cf.refl _ _ _))|exact HH.out) HC.out.cls HC.out.tree HV3.out).mono ?_;rintro e w1 ⟨he,h1,f1,b1⟩;rw [HO.out] at he;subst he;have e0:=b1.cell c0;have e1:=b1.cell u0;have e2:=b1.cell u1;have e3:=b1.cell y0;have e4:=b1.cell y1;have e5:=b1.cell y2)
    | (go_at_call 85;refine (must_any w0 g HC.out.k p h O _ h1).mono ?_;rintro e w2 ⟨he,h2,f2⟩;rw [hm] at he;subst he;have a0:=h2.c0 (must_file h O).1;rw [HA0.out] at a0;have bu:=(HU.out.keep HC.out.k (Fr.trans (Fr.drew (Fr.refl _ _ _)) f1)).keep HC.out.k f2;have a1:=bu.c0;have a2:=bu.c1;clear bu;have a3:=h2.bl.cell HY0.out;have a4:=h2.bl.cell HY1.out;have a5:=h2.bl.cell HY2.out))
  go_wp2
  (try simp only [Exit.inBlock,Exit.then])
  first|exact bodyPost_ret (results_none rfl _ _ _) rfl ⟨rfl,h2,(HF.out.drew.trans f1).trans f2⟩|(go_end0;exact ⟨rfl,h2,(HF.out.drew.trans f1).trans f2⟩)
 ·obtain ⟨rfl,hov,hmu⟩:=mustB_true hm
  have HMU:Hid (h.must true=h):=hmu
  clear hmu hov
  rw [if_pos rfl]
  by_cases hneg:h.findN r c f<0
  ·rw [if_pos hneg]
   obtain ⟨N,hN⟩:∃N,h.findN r c f=N:=⟨_,rfl⟩
   have HN:Hid (h.findN r c f=N):=hN
   rw [hN] at hneg
   clear hN
   go_enter Tryz.func164,Tryz.ntmps164
   go_wp2
   go_region_held3 (fun w'=>w'.cell? ⟨p,0,none⟩=some (.slice (some ⟨b,off,none⟩) h.file.classes.length g.a)∧w'.cell? ⟨w.heap.size+1,0,none⟩=some (.int .i64 v.kind)∧w'.cell? ⟨w.heap.size+1,1,none⟩=some (.int .i64 v.n)∧w'.cell? ⟨b,off+c*2+1,none⟩=some (.slice (some ⟨F,fo,none⟩) (nth cl0 h.file.classes c).fields.length uc)∧w'.cell? ⟨F,fo+f*2,none⟩=some (.int .i64 t.kind)∧w'.cell? ⟨F,fo+f*2+1,none⟩=some (.int .i64 t.cls))
    (go_keep)
    (first
     | (go_at_call 87;refine (of_any w0 g p h v t _ (by first|exact HH.out.cf (Cf.drew (Cf.refl _ _ _))|exact HH.out) HC.out.cls HC.out.tree HV3.out).mono ?_;rintro e w1 ⟨he,h1,f1,b1⟩;rw [HO.out] at he;subst he;have e0:=b1.cell c0;have e1:=b1.cell u0;have e2:=b1.cell u1;have e3:=b1.cell y0;have e4:=b1.cell y1;have e5:=b1.cell y2)
     | (go_at_call 85;refine (must_any w0 g HC.out.k p h true _ h1).mono ?_;rintro e w2 ⟨he,h2,f2⟩;rw [hm] at he;subst he;have a0:=h2.c0 (must_file h true).1;rw [HA0.out] at a0;have bu:=(HU.out.keep HC.out.k (Fr.trans (Fr.drew (Fr.refl _ _ _)) f1)).keep HC.out.k f2;have a1:=bu.c0;have a2:=bu.c1;clear bu;have a3:=h2.bl.cell HY0.out;have a4:=h2.bl.cell HY1.out;have a5:=h2.bl.cell HY2.out))
   rw [HMU.out] at h2
   have x0:=((HV.out.keep HC.out.k (Fr.trans (Fr.drew (Fr.refl _ _ _)) f1)).keep HC.out.k f2).c0
   have x1:=((HV.out.keep HC.out.k (Fr.trans (Fr.drew (Fr.refl _ _ _)) f1)).keep HC.out.k f2).c1
   go_wp2_with (go_at_call 227;refine (find_any w0 g p h r c f _ h2 HC.out HR3.out).mono ?_;rintro e w3 ⟨he,h3,f3⟩;rw [HN.out] at he;subst he)
   go_end0
   exact ⟨rfl,h3,((HF.out.drew.trans f1).trans f2).trans f3⟩
  ·rw [if_neg hneg]
   obtain ⟨e2,hk,n,q,hrn,hnl,hfq,hql⟩:=find_pos HR3.out hneg
   rw [e2,hrn,hfq,Int.toNat_natCast,Int.toNat_natCast]
   have HE2:Hid (h.findH r c=h):=e2
   have HFQ:Hid (h.findN r c f=q):=hfq
   obtain ⟨rk,rn⟩:=r
   dsimp only at *
   subst hrn
   clear e2 hfq hneg hk
   have hn0:(0:Int)≤(n:Int):=by omega
   have hn1:(n:Int)<(h.objs.length:Int):=by omega
   have hq0:(0:Int)≤(q:Int):=by omega
   have hq1:(q:Int)<((nth ob0 h.objs n).held.length:Int):=by omega
   go_enter Tryz.func164,Tryz.ntmps164
   go_wp2
   go_region_held3 (fun w'=>w'.cell? ⟨p,0,none⟩=some (.slice (some ⟨b,off,none⟩) h.file.classes.length g.a)∧w'.cell? ⟨w.heap.size+1,0,none⟩=some (.int .i64 v.kind)∧w'.cell? ⟨w.heap.size+1,1,none⟩=some (.int .i64 v.n)∧w'.cell? ⟨b,off+c*2+1,none⟩=some (.slice (some ⟨F,fo,none⟩) (nth cl0 h.file.classes c).fields.length uc)∧w'.cell? ⟨F,fo+f*2,none⟩=some (.int .i64 t.kind)∧w'.cell? ⟨F,fo+f*2+1,none⟩=some (.int .i64 t.cls))
    (go_keep)
    (first
     | (go_at_call 87;refine (of_any w0 g p h v t _ (by first|exact HH.out.cf (Cf.drew (Cf.refl _ _ _))|exact HH.out) HC.out.cls HC.out.tree HV3.out).mono ?_;rintro e w1 ⟨he,h1,f1,b1⟩;rw [HO.out] at he;subst he;have e0:=b1.cell c0;have e1:=b1.cell u0;have e2:=b1.cell u1;have e3:=b1.cell y0;have e4:=b1.cell y1;have e5:=b1.cell y2)
     | (go_at_call 85;refine (must_any w0 g HC.out.k p h true _ h1).mono ?_;rintro e w2 ⟨he,h2,f2⟩;rw [hm] at he;subst he;have a0:=h2.c0 (must_file h true).1;rw [HA0.out] at a0;have bu:=(HU.out.keep HC.out.k (Fr.trans (Fr.drew (Fr.refl _ _ _)) f1)).keep HC.out.k f2;have a1:=bu.c0;have a2:=bu.c1;clear bu;have a3:=h2.bl.cell HY0.out;have a4:=h2.bl.cell HY1.out;have a5:=h2.bl.cell HY2.out))
   rw [HMU.out] at h2
   have x0:=((HV.out.keep HC.out.k (Fr.trans (Fr.drew (Fr.refl _ _ _)) f1)).keep HC.out.k f2).c0
   have x1:=((HV.out.keep HC.out.k (Fr.trans (Fr.drew (Fr.refl _ _ _)) f1)).keep HC.out.k f2).c1
   have HVK:Hid (VaBox w2 w.heap.size ⟨rk,n⟩):=(HV.out.keep HC.out.k (Fr.trans (Fr.drew (Fr.refl _ _ _)) f1)).keep HC.out.k f2
   have HUK:Hid (VaBox w2 (w.heap.size+1) v):=(HU.out.keep HC.out.k (Fr.trans (Fr.drew (Fr.refl _ _ _)) f1)).keep HC.out.k f2
   go_wp2_with (go_at_call 227;refine (find_any w0 g p h ⟨rk,n⟩ c f _ h2 HC.out HR3.out).mono ?_;rintro e w3 ⟨he,h3,f3⟩;rw [HFQ.out] at he;subst he;rw [HE2.out] at h3;have k1:=(HVK.out.keep HC.out.k f3).c1;have k2:=(HUK.out.keep HC.out.k f3).c0;have k3:=(HUK.out.keep HC.out.k f3).c1;obtain ⟨vo,vx,hv,H⟩:=h3;have HA:Hid (HpAt w0 g w3 p h vo vx hv):=H;obtain ⟨gb,cap,U,uc',hvo,hom,o1,o2,hu,hum,hheld⟩:=held_cells H hnl;have c2:=H.cells.c2;rw [hvo] at c2;clear H hvo;have HHU:Hid (nth hv0 hv n=.slice U (nth ob0 h.objs n).held.length uc'):=hu;clear hu;unfold maxLen at hom hum)
   rcases hheld with h0|⟨hb,rfl,hfz,hcell⟩
   ·omega
   obtain ⟨-,-,y2',y3'⟩:=hcell q hql
   have z2:=hfz (q*4+2)
   have z3:=hfz (q*4+3)
   clear hcell o1 hfz
   go_region
   all_goals go_wp2
   all_goals
    go_end0
    have hh:=HA.out.heldSet HC.out.k hnl hql HHU.out v
    exact ⟨rfl,⟨vo,vx,hv,hh.1.cf (Cf.drew (Cf.refl _ _ _))⟩,((((HF.out.drew.trans f1).trans f2).trans f3).trans hh.2).drew⟩
theorem must_true (w0:World) (g:Ad) (p:Nat) (h:Hp) (w:World) (hH:Hs w0 g w p h) :
  Calls Tryz.prog 85 #[.pointer (some ⟨p,0,none⟩),.bool true] w fun e w'=>e=.returned (.bool (!h.over))∧w'=w:=by
 obtain ⟨vo,vx,hv,H⟩:=hH
 have c12:=H.cells.c12
 clear H
 go_enter Tryz.func85,Tryz.ntmps85
 go_wp2
 go_ret
 exact ⟨rfl,rfl⟩
theorem cast_any (w0:World) (g:Ad) (p:Nat) (h:Hp) (v:Va) (c:Int) (w:World) (hH:Hs w0 g w p h) (C:Cw w0 g h) (hv3:v.kind=3→v.n<h.objs.length) :
  Calls Tryz.prog 165 #[.pointer (some ⟨p,0,none⟩),vaV v,.int .i64 c] w fun e w'=>e=.returned (.tuple #[])∧Hs w0 g w' p (h.cast v c)∧Fr w0.heap.size g.T w w':=by
 have hbs:=hH.base
 have HF:Hid (Fr w0.heap.size g.T w (w.alloc (vaO v))):=(Fr.refl _ _ w).alloc hbs _
 have HH:Hid (Hs w0 g (w.alloc (vaO v)) p h):=hH.cf ((Cf.refl _ _ w).alloc hbs _)
 have HV:Hid (VaBox (w.alloc (vaO v)) w.heap.size v):=VaBox.new w v
 have HC:Hid (Cw w0 g h):=C
 have HV3:Hid (v.kind=3→v.n<h.objs.length):=hv3
 have hk:(v.kind==3)=isRef v:=by unfold isRef;rw [Bool.eq_iff_iff];simp
 clear hH C hv3
 cases hm:h.mustB (isRef v)
 ·have hr:h.cast v c=h.must (isRef v):=by unfold Hp.cast;rw [if_neg (by rw [hm];decide)]
  rw [hr]
  clear hr
  go_enter Tryz.func165,Tryz.ntmps165
  go_wp2_with (go_at_call 85;refine (must_any w0 g HC.out.k p h _ _ HH.out).mono ?_;rintro e w1 ⟨he,h1,f1⟩;rw [hm] at he;subst he)
  go_end0
  exact ⟨rfl,h1,HF.out.trans f1⟩
 ·obtain ⟨hb,hov,hmu⟩:=mustB_true hm
  have HMU:Hid (h.must (isRef v)=h):=hmu
  clear hmu hb hov
  cases hO:h.of v ⟨3,c⟩
  ·have hr:h.cast v c=h.raise 3:=by unfold Hp.cast;rw [if_pos hm,if_neg (by rw [hO];decide)]
   rw [hr]
   clear hr
   go_enter Tryz.func165,Tryz.ntmps165
   go_wp2_with (first
    | (go_at_call 85;refine (must_any w0 g HC.out.k p h _ _ HH.out).mono ?_;rintro e w1 ⟨he,h1,f1⟩;rw [hm] at he;subst he;rw [HMU.out] at h1;have r0:=(HV.out.keep HC.out.k f1).c0;have r1:=(HV.out.keep HC.out.k f1).c1)
    | (go_at_call 87;refine (of_any w0 g p h v ⟨3,c⟩ _ h1 HC.out.cls HC.out.tree HV3.out).mono ?_;rintro e w2 ⟨he,h2,f2,-⟩;rw [hO] at he;subst he)
    | (go_at_call 226;refine (raise_any w0 g p h 3 _ h2 HC.out (by omega)).mono ?_;rintro e w3 ⟨rfl,h3,f3⟩))
   go_end0
   exact ⟨rfl,h3,((HF.out.trans f1).trans f2).trans f3⟩
  ·have hr:h.cast v c=h:=by unfold Hp.cast;rw [if_pos hm,if_pos hO]
   rw [hr]
   clear hr
   go_enter Tryz.func165,Tryz.ntmps165
   go_wp2_with (first
    | (go_at_call 85;refine (must_any w0 g HC.out.k p h _ _ HH.out).mono ?_;rintro e w1 ⟨he,h1,f1⟩;rw [hm] at he;subst he;rw [HMU.out] at h1;have r0:=(HV.out.keep HC.out.k f1).c0;have r1:=(HV.out.keep HC.out.k f1).c1)
    | (go_at_call 87;refine (of_any w0 g p h v ⟨3,c⟩ _ h1 HC.out.cls HC.out.tree HV3.out).mono ?_;rintro e w2 ⟨he,h2,f2,-⟩;rw [hO] at he;subst he))
   go_end0
   exact ⟨rfl,h2,(HF.out.trans f1).trans f2⟩
def VasAt (w:World) (A:Option Addr) (l:List Va):Prop :=
 l.length≤maxLen∧(l.length=0∨∃b off,A=some ⟨b,off,none⟩∧∀i,i<l.length →
  w.cell? ⟨b,off+i*2,none⟩=some (.int .i64 (nth va0 l i).kind)∧w.cell? ⟨b,off+i*2+1,none⟩=some (.int .i64 (nth va0 l i).n))
theorem sizP_le (l:List Va):sizP l≤2*l.length:=by
 induction l with
 | nil=>simp [sizP]
 | cons t l ih=>simp only [sizP,List.length_cons];split<;>omega
theorem sizP_take (l:List Va) (k:Nat) (h:k<l.length):sizP (l.take (k+1))=sizP (l.take k)+(if (nth va0 l k).kind=2 then 2 else 1):=by
 induction l generalizing k with
 | nil=>simp at h
 | cons t l ih =>
  cases k with
  | zero=>simp [sizP,nth]
  | succ k =>
   have:=ih k (by simpa using h)
   have e:nth va0 (t::l) (k+1)=nth va0 l k:=by simp [nth]
   rw [e,List.take_succ_cons,List.take_succ_cons,sizP,sizP,this];omega
theorem size_any (A:Option Addr) (c:Nat) (l:List Va) (w:World) (hl:VasAt w A l) (hb:l.length≤1000000) :
  Calls Tryz.prog 83 #[.slice A l.length c] w fun e w'=>e=.returned (.int .i64 (sizP l:Nat))∧w'=w:=by
 obtain ⟨hm,hl⟩:=hl
 clear hm
 have HS:Hid (∀k,k<l.length→sizP (l.take (k+1))=sizP (l.take k)+(if (nth va0 l k).kind=2 then 2 else 1)):=sizP_take l
 have HB:Hid (∀k,sizP (l.take k)≤2*k):=fun k=>by have:=sizP_le (l.take k);have:=List.length_take_le k l;omega
 go_enter Tryz.func83,Tryz.ntmps83
 go_wp2
 go_loop [3,4] (fun n i=>∃k:Nat,k≤l.length∧i=.int .i64 k∧n=.int .i64 ((l.length:Int)+((sizP (l.take k):Nat):Int)-k)) (fun _ i=>l.length-(intOf i).toNat)
 case atStart=>exact ⟨0,Nat.zero_le _,rfl,by simp [sizP]⟩
 case round =>
  obtain ⟨k,hk,rfl,rfl⟩:=hrel
  have h2:=HB.out k
  by_cases hlt:k<l.length
  ·rcases hl with h0|⟨b,off,rfl,hcell⟩
   ·omega
   have ht:=(hcell k hlt).1
   have hs:=HS.out k hlt
   clear hcell
   by_cases hk2:(nth va0 l k).kind=2
   ·rw [if_pos hk2] at hs
    rw [hk2] at ht
    have HS':Hid (sizP (l.take (k+1))=sizP (l.take k)+2):=hs
    clear hs hk2
    go_wp2
    go_round
    case rel=>exact ⟨k+1,by omega,by go_num,by rw [HS'.out];go_num⟩
    case measure=>simp [intOf];omega
   ·rw [if_neg hk2] at hs
    have HS':Hid (sizP (l.take (k+1))=sizP (l.take k)+1):=hs
    have hk2':((nth va0 l k).kind==2)=false:=by simpa using hk2
    clear hs hk2
    go_wp2
    go_round
    case rel=>exact ⟨k+1,by omega,by go_num,by rw [HS'.out];go_num⟩
    case measure=>simp [intOf];omega
  ·obtain rfl:k=l.length:=by omega
   rw [List.take_length] at *
   go_wp2
   go_ret
   exact ⟨ret_int (by omega),rfl⟩
structure LocBox (w:World) (b:Nat) (l:List Va):Prop where
 blk:w.heap[b]?=some (.cells (vaCells l).toArray 82 (0,0))
 len:l.length≤maxLen
theorem LocBox.c0 {w:World} {b:Nat} {l:List Va} (h:LocBox w b l) {i:Nat} (hi:i<l.length):w.cell? ⟨b,i*2,none⟩=some (.int .i64 (nth va0 l i).kind):=by
 rw [cell_blk h.blk];simpa using (va_cells l i hi).1
theorem LocBox.c1 {w:World} {b:Nat} {l:List Va} (h:LocBox w b l) {i:Nat} (hi:i<l.length):w.cell? ⟨b,i*2+1,none⟩=some (.int .i64 (nth va0 l i).n):=by
 rw [cell_blk h.blk];simpa using (va_cells l i hi).2
theorem LocBox.fr {w:World} {b:Nat} {l:List Va} (h:LocBox w b l) (i:Nat):w.frozen? ⟨b,i,none⟩=false:=free_blk h.blk i
theorem LocBox.set {w:World} {b:Nat} {l:List Va} (h:LocBox w b l) {i:Nat} (hi:i<l.length) (v:Va):LocBox ((w.setCell ⟨b,i*2,none⟩ (.int .i64 v.kind)).setCell ⟨b,i*2+1,none⟩ (.int .i64 v.n)) b (l.set i v) :=
 ⟨by rw [block_set (block_set h.blk _),vaCells_set l i v hi];simp,by rw [List.length_set];exact h.len⟩
structure Only (b:Nat) (w w':World):Prop where
 os:w'.os=w.os
 tape:w'.tape=w.tape
 output:w'.output=w.output
 size:w.heap.size≤w'.heap.size
 block:∀k,k<w.heap.size→k≠b→w'.heap[k]?=w.heap[k]?
theorem Only.refl (b:Nat) (w:World):Only b w w:=⟨rfl,rfl,rfl,Nat.le_refl _,fun _ _ _=>rfl⟩
theorem Only.trans {b:Nat} {x y z:World} (h:Only b x y) (k:Only b y z):Only b x z :=
 ⟨k.os.trans h.os,k.tape.trans h.tape,k.output.trans h.output,Nat.le_trans h.size k.size,fun i hi hb=>(k.block i (Nat.lt_of_lt_of_le hi h.size) hb).trans (h.block i hi hb)⟩
theorem Only.alloc {b:Nat} {a w:World} (h:Only b a w) (o:Obj):Only b a (w.alloc o) :=
 h.trans ⟨rfl,rfl,rfl,by simp,fun k hk _=>Below.heap_alloc _ _ _ hk⟩
theorem Only.set {b:Nat} {a w:World} (h:Only b a w) (i:Nat) (v:Value):Only b a (w.setCell ⟨b,i,none⟩ v) :=
 h.trans ⟨rfl,rfl,rfl,by simp [World.setCell],fun k hk hb=>block_far hb v⟩
theorem Only.drew {b:Nat} {a w:World} (h:Only b a w):Only b a w.drew:=⟨h.os,h.tape,h.output,h.size,h.block⟩
theorem lose_any (b:Nat) (l:List Va) (a c:Nat) (w:World) (hL:LocBox w b l) (ha:a<l.length) (h9:(nth va0 l a).kind=9→1≤a) (h2:(nth va0 l a).kind=2→a+1<l.length) :
  Calls Tryz.prog 159 #[.slice (some ⟨b,0,none⟩) l.length c,.int .i64 (a:Int)] w fun e w'=>e=.returned (.tuple #[])∧LocBox w' b (losP l a)∧Only b w w':=by
 have HL:Hid (LocBox w b l):=hL
 have hm:=hL.len
 unfold maxLen at hm
 have c0:=hL.c0 ha
 have c1:=hL.c1 ha
 have fz:=hL.fr
 have ha0:(0:Int)≤(a:Int):=by omega
 have ha1:(a:Int)<(l.length:Int):=by omega
 clear hL
 by_cases k9:(nth va0 l a).kind=9
 ·have h1:=h9 k9
  have e:losP l a=(l.set (a-1) va0).set a va0:=by unfold losP;rw [if_pos k9]
  rw [e]
  obtain ⟨a',rfl⟩:∃a',a=a'+1:=⟨a-1,by omega⟩
  have hl':a'<l.length:=by omega
  have d0:=HL.out.c0 hl'
  have d1:=HL.out.c1 hl'
  rw [k9] at c0
  clear e h9 h2 k9
  go_enter Tryz.func159,Tryz.ntmps159
  go_wp2
  go_end0
  exact ⟨rfl,((HL.out.set hl' va0).set (by rw [List.length_set];exact ha) va0),((((Only.refl b w).set _ _).set _ _).set _ _).set _ _⟩
 ·have n9:((nth va0 l a).kind==9)=false:=by simpa using k9
  by_cases k2:(nth va0 l a).kind=2
  ·have h1:=h2 k2
   have e:losP l a=(l.set (a+1) va0).set a va0:=by unfold losP;rw [if_neg k9,if_pos k2]
   rw [e]
   have d0:=HL.out.c0 h1
   have d1:=HL.out.c1 h1
   have hb1:((a:Int)+1)<(l.length:Int):=by omega
   rw [k2] at c0
   clear e h9 h2 k9 k2 n9
   go_enter Tryz.func159,Tryz.ntmps159
   go_wp2
   go_end0
   exact ⟨rfl,((HL.out.set h1 va0).set (by rw [List.length_set];exact ha) va0),((((Only.refl b w).set _ _).set _ _).set _ _).set _ _⟩
  ·have n2:((nth va0 l a).kind==2)=false:=by simpa using k2
   have e:losP l a=l.set a va0:=by unfold losP;rw [if_neg k9,if_neg k2]
   rw [e]
   clear e h9 h2 k9 k2
   go_enter Tryz.func159,Tryz.ntmps159
   go_wp2
   go_end0
   exact ⟨rfl,HL.out.set ha va0,((Only.refl b w).set _ _).set _ _⟩
theorem losP_kind (l:List Va) (a i:Nat) (hi:i<l.length):nth va0 (losP l a) i=va0∨nth va0 (losP l a) i=nth va0 l i:=by
 have key:∀(m:List Va) (j:Nat),nth va0 (m.set j va0) i=va0∨nth va0 (m.set j va0) i=nth va0 m i:=fun m j=>by
  by_cases hj:j=i
  ·subst hj
   by_cases hm:j<m.length
   ·exact Or.inl (nth_set_eq hm)
   ·right;rw [List.set_eq_of_length_le (by omega)]
  ·exact Or.inr (nth_set_ne hj)
 unfold losP
 split
 ·rcases key (l.set (a-1) va0) a with h|h
  ·exact Or.inl h
  ·rw [h];exact key l (a-1)
 ·split
  ·rcases key (l.set (a+1) va0) a with h|h
   ·exact Or.inl h
   ·rw [h];exact key l (a+1)
  ·exact key l a
theorem Only.box {b:Nat} {w w':World} (h:Only b w w') {c:Nat} {v:Va} (hv:VaBox w c v) (hb:c≠b):VaBox w' c v:=⟨(h.block c (lt_some hv.blk) hb).trans hv.blk⟩
theorem store_any (b:Nat) (l:List Va) (a c:Nat) (v:Va) (w:World) (hL:LocBox w b l) (hok:LocOk l) (ha:a<l.length) (h2:v.kind=2→a+1<l.length) :
  Calls Tryz.prog 82 #[.slice (some ⟨b,0,none⟩) l.length c,.int .i64 (a:Int),vaV v] w fun e w'=>e=.returned (.tuple #[])∧LocBox w' b (stoP l a v)∧Only b w w':=by
 have hbl:=lt_some hL.blk
 have HL:Hid (LocBox (w.alloc (vaO v)) b l):=⟨(Below.heap_alloc _ _ _ hbl).trans hL.blk,hL.len⟩
 have HV:Hid (VaBox (w.alloc (vaO v)) w.heap.size v):=VaBox.new w v
 have HO:Hid (Only b w (w.alloc (vaO v))):=(Only.refl b w).alloc _
 have hm:=hL.len
 unfold maxLen at hm
 have hne:w.heap.size≠b:=by omega
 have hne':b≠w.heap.size:=by omega
 have ha0:(0:Int)≤(a:Int):=by omega
 have ha1:(a:Int)<(l.length:Int):=by omega
 have H9:Hid ((nth va0 l a).kind=9→1≤a):=hok.nine a ha
 have H2:Hid ((nth va0 l a).kind=2→a+1<l.length):=hok.two a ha
 have hlen:=losP_length l a
 have HLEN:Hid ((losP l a).length=l.length):=hlen
 clear hL
 by_cases k2:v.kind=2
 ·have hl1:=h2 k2
  have e:stoP l a v=(((losP (losP l a) (a+1)).set (a+1) ⟨9,0⟩).set a v):=by unfold stoP;rw [if_pos k2]
  rw [e]
  have H22:Hid ((nth va0 (losP l a) (a+1)).kind=2→a+1+1<(losP l a).length):=fun hk=>by
   rw [hlen]
   rcases losP_kind l a (a+1) hl1 with h|h
   ·rw [h] at hk;exact absurd hk (by decide)
   ·rw [h] at hk;exact hok.two _ hl1 hk
  have hlen2:(losP (losP l a) (a+1)).length=l.length:=by rw [losP_length,hlen]
  have HLEN2:Hid ((losP (losP l a) (a+1)).length=l.length):=hlen2
  have hb1:((a:Int)+1)<(l.length:Int):=by omega
  obtain ⟨vk,vn⟩:=v
  dsimp only at *
  subst k2
  clear e h2 hok hlen hlen2
  go_enter Tryz.func82,Tryz.ntmps82
  go_wp2_with (first
   | (go_at_call_of 159 (Value.int IntKind.i64 (a:Int));refine (lose_any b l a c _ HL.out ha H9.out H2.out).mono ?_;rintro e w1 ⟨rfl,l1,o1⟩;have r0:=(o1.box HV.out hne).c0;have r1:=(o1.box HV.out hne).c1;have HV1:Hid (VaBox w1 w.heap.size ⟨2,vn⟩):=o1.box HV.out hne)
   | (go_at_call 159;rw [←HLEN.out];refine (lose_any b (losP l a) (a+1) c _ l1 (by rw [HLEN.out];exact hl1) (fun _=>by omega) H22.out).mono ?_;rintro e w2 ⟨rfl,l2,o2⟩;have s0:=(o2.box HV1.out hne).c0;have s1:=(o2.box HV1.out hne).c1;have LL2:Hid (LocBox w2 b (losP (losP l a) (a+1))):=l2;have t0:=l2.c0 (i:=a+1) (by rw [HLEN2.out];exact hl1);have t1:=l2.c1 (i:=a+1) (by rw [HLEN2.out];exact hl1);have t2:=l2.c0 (i:=a) (by rw [HLEN2.out];exact ha);have t3:=l2.c1 (i:=a) (by rw [HLEN2.out];exact ha);have fz:=l2.fr;clear l2;have hx1:((a:Int)+1)<((losP l a).length:Int):=(by rw [HLEN.out];omega);have hx0:(a:Int)<((losP l a).length:Int):=(by rw [HLEN.out];omega);have hxm:(losP l a).length≤2 ^ 63-1:=(by rw [HLEN.out];omega)))
  go_end0
  exact ⟨rfl,(LL2.out.set (by rw [HLEN2.out];exact hl1) ⟨9,0⟩).set (by rw [List.length_set,HLEN2.out];exact ha) ⟨2,vn⟩,((((((HO.out.trans o1).trans o2).set _ _).set _ _).set _ _).set _ _)⟩
 ·have n2:(v.kind==2)=false:=by simpa using k2
  have e:stoP l a v=(losP l a).set a v:=by unfold stoP;rw [if_neg k2]
  rw [e]
  clear e h2 hok k2 hlen
  go_enter Tryz.func82,Tryz.ntmps82
  go_wp2_with (go_at_call 159;refine (lose_any b l a c _ HL.out ha H9.out H2.out).mono ?_;rintro e w1 ⟨rfl,l1,o1⟩;have r0:=(o1.box HV.out hne).c0;have r1:=(o1.box HV.out hne).c1;have LL1:Hid (LocBox w1 b (losP l a)):=l1;have t2:=l1.c0 (i:=a) (by rw [HLEN.out];exact ha);have t3:=l1.c1 (i:=a) (by rw [HLEN.out];exact ha);have fz:=l1.fr;clear l1)
  go_end0
  exact ⟨rfl,LL1.out.set (by rw [HLEN.out];exact ha) v,((HO.out.trans o1).set _ _).set _ _⟩
theorem three_new (w:World) (a b c:Va):VaBox (((w.alloc (vaO a)).alloc (vaO b)).alloc (vaO c)) w.heap.size a∧VaBox (((w.alloc (vaO a)).alloc (vaO b)).alloc (vaO c)) (w.heap.size+1) b∧VaBox (((w.alloc (vaO a)).alloc (vaO b)).alloc (vaO c)) (w.heap.size+1+1) c:=by
 have h2:((w.alloc (vaO a)).alloc (vaO b)).heap.size=w.heap.size+1+1:=by rw [World.size_alloc,World.size_alloc]
 obtain ⟨p1,p2⟩:=two_new w a b
 refine ⟨⟨?_⟩,⟨?_⟩,⟨?_⟩⟩
 ·rw [Below.heap_alloc _ _ _ (by omega)];exact p1.blk
 ·rw [Below.heap_alloc _ _ _ (by omega)];exact p2.blk
 ·rw [←h2];exact blk_new _ _ _
theorem reckon_any (w0:World) (g:Ad) (p:Nat) (h:Hp) (a b:Va) (k op:Int) (w:World) (hH:Hs w0 g w p h) (C:Cw w0 g h) (hk:k=1∨k=2) (ia:I64 a.n) (ib:I64 b.n) :
  Calls Tryz.prog 228 #[.pointer (some ⟨p,0,none⟩),vaV a,vaV b,.int .i64 k,.int .i64 op] w fun e w'=>e=.returned (vaV (h.reckV a b k op))∧Hs w0 g w' p (h.reckH a b k op)∧Fr w0.heap.size g.T w w':=by
 have hbs:=hH.base
 have HF:Hid (Fr w0.heap.size g.T w (((w.alloc (vaO a)).alloc (vaO b)).alloc vzO)):=(((Fr.refl _ _ w).alloc hbs _).alloc (by simp;omega) _).alloc (by simp;omega) _
 have HH:Hid (Hs w0 g (((w.alloc (vaO a)).alloc (vaO b)).alloc vzO) p h):=hH.cf ((((Cf.refl _ _ w).alloc hbs _).alloc (by simp;omega) _).alloc (by simp;omega) _)
 have HA:Hid (VaBox (((w.alloc (vaO a)).alloc (vaO b)).alloc vzO) w.heap.size a):=(three_new w a b va0).1
 have HB:Hid (VaBox (((w.alloc (vaO a)).alloc (vaO b)).alloc vzO) (w.heap.size+1) b):=(three_new w a b va0).2.1
 have HR:Hid (VaBox (((w.alloc (vaO a)).alloc (vaO b)).alloc vzO) (w.heap.size+1+1) va0):=(three_new w a b va0).2.2
 have HC:Hid (Cw w0 g h):=C
 have hbs':w0.heap.size≤w.heap.size+1+1:=by omega
 have hle':w.heap.size≤w.heap.size+1+1:=by omega
 have da:(a.kind==k)=decide (a.kind=k):=by rw [Bool.eq_iff_iff];simp
 have db:(b.kind==k)=decide (b.kind=k):=by rw [Bool.eq_iff_iff];simp
 clear hH C
 cases hm:h.mustB (ofBoth a b k)
 ·have e1:h.reckV a b k op=va0:=by unfold Hp.reckV;rw [if_neg (by rw [hm];decide)]
  have e2:h.reckH a b k op=h.must (ofBoth a b k):=by unfold Hp.reckH;rw [if_neg (by rw [hm];decide)]
  rw [e1,e2]
  clear e1 e2
  by_cases ka:a.kind=k
  ·have eo:ofBoth a b k=decide (b.kind=k):=by unfold ofBoth;rw [decide_eq_true ka];rfl
   rw [eo] at hm ⊢
   have da':(a.kind==k)=true:=by simpa using ka
   clear da eo ka
   go_enter Tryz.func228,Tryz.ntmps228
   go_wp2_with (go_at_call 85;refine (must_any w0 g HC.out.k p h _ _ HH.out).mono ?_;rintro e w1 ⟨he,h1,f1⟩;rw [hm] at he;subst he;have b1:=HR.out.keep HC.out.k f1;have r0:=b1.c0;have r1:=b1.c1;have r2:=b1.fr 0;have r3:=b1.fr 1;have HB1:Hid (VaBox w1 (w.heap.size+1+1) va0):=b1;clear b1)
   (try simp only [Exit.inBlock,Exit.then])
   refine bodyPost_ret (results_cell_row rfl _ _ (w.heap.size+1+1) _ _ _ _ rfl (HB1.out.set va0).blk Tryz.underlying82 rfl info_va) rfl ?_
   exact ⟨rfl,h1.cf (HB1.out.cf HC.out.k hbs' _ _),(((HF.out.trans f1).new hle' hbs' _).new hle' hbs' _)⟩
  ·have eo:ofBoth a b k=false:=by unfold ofBoth;rw [decide_eq_false ka];rfl
   rw [eo] at hm ⊢
   have da':(a.kind==k)=false:=by simpa using ka
   clear da eo ka
   go_enter Tryz.func228,Tryz.ntmps228
   go_wp2_with (go_at_call 85;refine (must_any w0 g HC.out.k p h false _ HH.out).mono ?_;rintro e w1 ⟨he,h1,f1⟩;rw [hm] at he;subst he;have b1:=HR.out.keep HC.out.k f1;have r0:=b1.c0;have r1:=b1.c1;have r2:=b1.fr 0;have r3:=b1.fr 1;have HB1:Hid (VaBox w1 (w.heap.size+1+1) va0):=b1;clear b1)
   (try simp only [Exit.inBlock,Exit.then])
   refine bodyPost_ret (results_cell_row rfl _ _ (w.heap.size+1+1) _ _ _ _ rfl (HB1.out.set va0).blk Tryz.underlying82 rfl info_va) rfl ?_
   exact ⟨rfl,h1.cf (HB1.out.cf HC.out.k hbs' _ _),(((HF.out.trans f1).new hle' hbs' _).new hle' hbs' _)⟩
 ·obtain ⟨hb,hov,hmu⟩:=mustB_true hm
  have hab:a.kind=k∧b.kind=k:=by unfold ofBoth at hb;simp at hb;exact hb
  have HMU:Hid (h.must true=h):=rfl
  have hmt:h.mustB true=true:=by have:=hm;rw [hb] at this;exact this
  have da':(a.kind==k)=true:=by simpa using hab.1
  have db':(b.kind==k)=true:=by simpa using hab.2
  obtain ⟨N,hN⟩:∃N,reckN k op a b=N:=⟨_,rfl⟩
  have e1:h.reckV a b k op=⟨k,N⟩:=by unfold Hp.reckV;rw [if_pos hm,hN]
  rw [e1]
  clear hb hov hmu hab da db
  cases hR:reckB k op a b
  ·have e2:h.reckH a b k op=h.raise 2:=by unfold Hp.reckH;rw [if_pos hm,if_neg (by rw [hR];decide)]
   rw [e2]
   rcases hk with hk|hk
   ·subst hk
    have HN:Hid (wrap32 (lngV op (wrap32 a.n) (wrap32 b.n))=N):=hN
    have HBB:Hid (lngB op (wrap32 b.n)=false):=hR
    clear hN hR e1 e2 hm
    go_enter Tryz.func228,Tryz.ntmps228
    go_wp2_with (first
     | (go_at_call 85;refine (must_any w0 g HC.out.k p h true _ HH.out).mono ?_;rintro e w1 ⟨he,h1,f1⟩;rw [hmt] at he;subst he;rw [HMU.out] at h1;have b1:=HR.out.keep HC.out.k f1;have r0:=b1.c0;have r1:=b1.c1;have r2:=b1.fr 0;have r3:=b1.fr 1;have HB1:Hid (VaBox w1 (w.heap.size+1+1) va0):=b1;clear b1;have x1:=(HA.out.keep HC.out.k f1).c1;have y1:=(HB.out.keep HC.out.k f1).c1)
     | (go_at_call 284;refine (rlong_any op a.n b.n _ ia.1 ia.2 ib.1 ib.2).mono ?_;rintro e w5 ⟨he,hw5⟩;subst he;rw [hw5];clear hw5 w5)
     | (go_at_call 285;refine (rint_any op a.n b.n _).mono ?_;rintro e w6 ⟨he,hw6⟩;rw [HN.out,HBB.out] at he;subst he;rw [hw6];clear hw6 w6)
     | (go_at_call 226;refine (raise_any w0 g p h 2 _ h1 HC.out (by omega)).mono ?_;rintro e w2 ⟨rfl,h2,f2⟩;clear r0 r1 r2 r3;have b2:=HB1.out.keep HC.out.k f2;have r0:=b2.c0;have r1:=b2.c1;have r2:=b2.fr 0;have r3:=b2.fr 1;have HB2:Hid (VaBox w2 (w.heap.size+1+1) va0):=b2;clear b2))
    (try simp only [Exit.inBlock,Exit.then])
    refine bodyPost_ret (results_cell_row rfl _ _ (w.heap.size+1+1) _ _ _ _ rfl (HB2.out.set ⟨1,N⟩).blk Tryz.underlying82 rfl info_va) rfl ?_
    exact ⟨rfl,h2.cf (HB2.out.cf HC.out.k hbs' _ _),((((HF.out.trans f1).trans f2).new hle' hbs' _).new hle' hbs' _)⟩
   ·subst hk
    have HN:Hid (lngV op a.n b.n=N):=hN
    have HBB:Hid (lngB op b.n=false):=hR
    clear hN hR e1 e2 hm
    go_enter Tryz.func228,Tryz.ntmps228
    go_wp2_with (first
     | (go_at_call 85;refine (must_any w0 g HC.out.k p h true _ HH.out).mono ?_;rintro e w1 ⟨he,h1,f1⟩;rw [hmt] at he;subst he;rw [HMU.out] at h1;have b1:=HR.out.keep HC.out.k f1;have r0:=b1.c0;have r1:=b1.c1;have r2:=b1.fr 0;have r3:=b1.fr 1;have HB1:Hid (VaBox w1 (w.heap.size+1+1) va0):=b1;clear b1;have x1:=(HA.out.keep HC.out.k f1).c1;have y1:=(HB.out.keep HC.out.k f1).c1)
     | (go_at_call 284;refine (rlong_any op a.n b.n _ ia.1 ia.2 ib.1 ib.2).mono ?_;rintro e w5 ⟨he,hw5⟩;rw [HN.out,HBB.out] at he;subst he;rw [hw5];clear hw5 w5)
     | (go_at_call 226;refine (raise_any w0 g p h 2 _ h1 HC.out (by omega)).mono ?_;rintro e w2 ⟨rfl,h2,f2⟩;clear r0 r1 r2 r3;have b2:=HB1.out.keep HC.out.k f2;have r0:=b2.c0;have r1:=b2.c1;have r2:=b2.fr 0;have r3:=b2.fr 1;have HB2:Hid (VaBox w2 (w.heap.size+1+1) va0):=b2;clear b2))
    (try simp only [Exit.inBlock,Exit.then])
    refine bodyPost_ret (results_cell_row rfl _ _ (w.heap.size+1+1) _ _ _ _ rfl (HB2.out.set ⟨2,N⟩).blk Tryz.underlying82 rfl info_va) rfl ?_
    exact ⟨rfl,h2.cf (HB2.out.cf HC.out.k hbs' _ _),((((HF.out.trans f1).trans f2).new hle' hbs' _).new hle' hbs' _)⟩
  ·have e2:h.reckH a b k op=h:=by unfold Hp.reckH;rw [if_pos hm,if_pos hR]
   rw [e2]
   rcases hk with hk|hk
   ·subst hk
    have HN:Hid (wrap32 (lngV op (wrap32 a.n) (wrap32 b.n))=N):=hN
    have HBB:Hid (lngB op (wrap32 b.n)=true):=hR
    clear hN hR e1 e2 hm
    go_enter Tryz.func228,Tryz.ntmps228
    go_wp2_with (first
     | (go_at_call 85;refine (must_any w0 g HC.out.k p h true _ HH.out).mono ?_;rintro e w1 ⟨he,h1,f1⟩;rw [hmt] at he;subst he;rw [HMU.out] at h1;have b1:=HR.out.keep HC.out.k f1;have r0:=b1.c0;have r1:=b1.c1;have r2:=b1.fr 0;have r3:=b1.fr 1;have HB1:Hid (VaBox w1 (w.heap.size+1+1) va0):=b1;clear b1;have x1:=(HA.out.keep HC.out.k f1).c1;have y1:=(HB.out.keep HC.out.k f1).c1)
     | (go_at_call 284;refine (rlong_any op a.n b.n _ ia.1 ia.2 ib.1 ib.2).mono ?_;rintro e w5 ⟨he,hw5⟩;subst he;rw [hw5];clear hw5 w5)
     | (go_at_call 285;refine (rint_any op a.n b.n _).mono ?_;rintro e w6 ⟨he,hw6⟩;rw [HN.out,HBB.out] at he;subst he;rw [hw6];clear hw6 w6))
    (try simp only [Exit.inBlock,Exit.then])
    refine bodyPost_ret (results_cell_row rfl _ _ (w.heap.size+1+1) _ _ _ _ rfl (HB1.out.set ⟨1,N⟩).blk Tryz.underlying82 rfl info_va) rfl ?_
    exact ⟨rfl,h1.cf (HB1.out.cf HC.out.k hbs' _ _),(((HF.out.trans f1).new hle' hbs' _).new hle' hbs' _)⟩
   ·subst hk
    have HN:Hid (lngV op a.n b.n=N):=hN
    have HBB:Hid (lngB op b.n=true):=hR
    clear hN hR e1 e2 hm
    go_enter Tryz.func228,Tryz.ntmps228
    go_wp2_with (first
     | (go_at_call 85;refine (must_any w0 g HC.out.k p h true _ HH.out).mono ?_;rintro e w1 ⟨he,h1,f1⟩;rw [hmt] at he;subst he;rw [HMU.out] at h1;have b1:=HR.out.keep HC.out.k f1;have r0:=b1.c0;have r1:=b1.c1;have r2:=b1.fr 0;have r3:=b1.fr 1;have HB1:Hid (VaBox w1 (w.heap.size+1+1) va0):=b1;clear b1;have x1:=(HA.out.keep HC.out.k f1).c1;have y1:=(HB.out.keep HC.out.k f1).c1)
     | (go_at_call 284;refine (rlong_any op a.n b.n _ ia.1 ia.2 ib.1 ib.2).mono ?_;rintro e w5 ⟨he,hw5⟩;rw [HN.out,HBB.out] at he;subst he;rw [hw5];clear hw5 w5))
    (try simp only [Exit.inBlock,Exit.then])
    refine bodyPost_ret (results_cell_row rfl _ _ (w.heap.size+1+1) _ _ _ _ rfl (HB1.out.set ⟨2,N⟩).blk Tryz.underlying82 rfl info_va) rfl ?_
    exact ⟨rfl,h1.cf (HB1.out.cf HC.out.k hbs' _ _),(((HF.out.trans f1).new hle' hbs' _).new hle' hbs' _)⟩
end Go.Proofs.YtgiiapenmjollabGreat
