import Derived.Test.YtgiiapenmjollaaGreatSsah
import Derived.Test.YtgiiapenmjollaaGreatSsbd
namespace Go.Proofs.YtgiiapenmjollaaGreat
set_option linter.all false
set_option maxHeartbeats 40000000
set_option maxRecDepth 100000
open Go.RowKit
section
def waitL (wt:List Int) (a:Int):List Int:=if wt.contains a then wt else insL wt (wt.countP (·< a)) a
theorem InsQ.bl {base:Nat} {vw v':Value} {l:List Int} {w w2 w3:World} (h:InsQ base vw v' l w2 w3) (b:Bl w w2):InsQ base vw v' l w w3 :=
 ⟨h.own,grown_bl' b h.gr,fun c hc=>(h.blk c hc).imp id (fun q=>Nat.le_trans b.size q)⟩
section
variable {X:Nat→Prop} {wx w1:World} {g:Gf} {b0:Nat} {w w':World} {cur:As} {at':Int} {st:List (Option As)} {wt:List Int} {rv:Nat→Value} {vw:Value} {sp:Nat→Option Nat}
theorem FA.newwt (H:FA X wx w1 g b0 w cur at' st wt rv vw sp) {v':Value} {l:List Int} {w2:World} (I:InsQ w1.heap.size vw v' l w w2) :
  FA X wx w1 g b0 (w2.setCell ⟨g.p,13,none⟩ v') cur at' st l rv v' sp:=by
 have hg:=grown_set (w:=w2) g.p 13 v'
 have hb:∀b,b<w.heap.size→b≠g.p→vw.ownBlock≠some b→(w2.setCell ⟨g.p,13,none⟩ v').heap[b]?=w.heap[b]?:=fun b h0 h1 h2 =>
  (hg.block b (Nat.lt_of_lt_of_le h0 I.gr.size) (fun e=>h1 (Option.some.inj e))).trans (I.gr.block b h0 (fun e=>h2 e.symm))
 have hbo:∀b o,w.heap[b]?=some o→b≠g.p→vw.ownBlock≠some b→(w2.setCell ⟨g.p,13,none⟩ v').heap[b]?=some o:=fun b o h h1 h2=>(hb b (lt_some h) h1 h2).trans h
 have hwp:vw.ownBlock≠some g.p:=own_far H.wts H.blk (by decide)
 have hvp:v'.ownBlock≠some g.p:=fun e=>by
  rcases I.blk _ e with h|h
  ·exact hwp h
  ·have:=lt_some H.blk;omega
 have hown:∀{base:Nat} {sz n:Nat} {v:Value} {xs:List Value},w.ownsRow base 233 sz v n xs→(w2.setCell ⟨g.p,13,none⟩ v').ownsRow base 233 sz v n xs:=by
  intro base sz n v xs ho
  have ho':=ho
  obtain ⟨e1,e2|⟨gb,cap,cu,rfl,x1,x2,x3⟩⟩:=ho
  ·exact ⟨e1,Or.inl e2⟩
  ·refine ⟨e1,Or.inr ⟨gb,cap,cu,rfl,x1,hbo gb _ x2 (fun e=>?_) (own_far H.wts x2 (by decide)),x3⟩⟩
   exact own_far ho' H.blk (by decide) (by rw [←e];rfl)
 have hst:∀k b,sp k=some b→b≠g.p:=fun k b e e2=>by
  have h1:=(H.sts k b e).2.2.2
  rw [e2,H.blk] at h1
  have:=Option.some.inj h1
  injection this with _ e3
  exact absurd e3 (by decide)
 have hsbp:g.sb≠g.p:=fun e=>by
  have h1:=H.sbk
  rw [e,H.blk] at h1
  have:=Option.some.inj h1
  injection this with _ e3
  exact absurd e3 (by decide)
 have h2p:w2.heap[g.p]?=w.heap[g.p]?:=I.gr.block _ (lt_some H.blk) (fun e=>hwp e.symm)
 refine ⟨⟨I.gr.os.trans H.fz.os,I.gr.tape.trans H.fz.tape,I.gr.output.trans H.fz.output,Nat.le_trans H.fz.size (Nat.le_trans I.gr.size hg.size),fun b h0 h1 h2=>(hb b (Nat.lt_of_lt_of_le h0 H.fz.size) h1 (fun e=>by have:=(H.wts.lt b e).1;omega)).trans (H.fz.block b h0 h1 h2)⟩,H.pin,?_,hown H.row0,hown H.row1,fun r hr=>hown (H.rows r hr),H.sep,hbo _ _ H.sbk hsbp (own_far H.wts H.sbk (by decide)),fun k b e=>⟨(H.sts k b e).1,(H.sts k b e).2.1,(H.sts k b e).2.2.1,hbo _ _ (H.sts k b e).2.2.2 (hst k b e) (own_far H.wts (H.sts k b e).2.2.2 (by decide))⟩,H.stn,H.inj,?_,fun b hx=>?_,?_⟩
 ·rw [block_set (h2p.trans H.blk)];rfl
 ·exact I.own.kept hg (Or.inr hvp)
 ·have f:=H.far b hx
  refine ⟨f.p,f.s,f.r,fun e=>?_,f.k⟩
  rcases I.blk _ e with h|h
  ·exact f.w h
  ·have:=(H.kept.blk b hx).1;have:=H.kept.size;omega
 ·exact ⟨Nat.le_trans H.kept.size (Nat.le_trans I.gr.size hg.size),fun b hx=>⟨(H.kept.blk b hx).1,(hb b (Nat.lt_of_lt_of_le (H.kept.blk b hx).1 H.kept.size) (H.far b hx).p (H.far b hx).w).trans (H.kept.blk b hx).2⟩⟩
theorem fwait_any (a:Int) (H:FX X wx w1 g b0 w cur at' st wt) (hs:wt.Pairwise (·≤ ·)) (hl:wt.length≤1000) :
  Calls Tryz.prog 238 #[.pointer (some ⟨g.p,0,none⟩),.int .i64 a] w fun e w'=>e=.returned (.tuple #[])∧FX X wx w1 g b0 w' cur at' st (waitL wt a):=by
 obtain ⟨rv,vw,sp,H⟩:=H
 obtain ⟨A,c,hv,-,-⟩:=own_formT H.wts
 have HS:=hid (fsearch vw wt a w w1.heap.size H.wts hs hl)
 have HH:=hid H
 have p13:w.cell? ⟨g.p,13,none⟩=some vw:=by rw [cell_blk H.blk];rfl
 have hp:=cell_lt p13
 have HL:=hid hl
 have HV:=hid hv
 have HK:Hid (wt.countP (·< a)≤wt.length):=List.countP_le_length
 clear H hs hl hv
 cases hc:wt.contains a with
 | true =>
  have E1:Hid (waitL wt a=wt):=by show _=_;unfold waitL;rw [if_pos hc]
  rw [hc] at HS
  clear hc
  generalize wt.countP (·< a)=k at *
  go_enter Tryz.func238,Tryz.ntmps238
  go_wp2_with (go_at_call 251;refine HS.out.mono ?_;rintro e w2 ⟨rfl,b2⟩)
  go_end0
  rw [E1.out]
  exact ⟨rfl,rv,vw,sp,HH.out.bl b2⟩
 | false =>
  have E1:Hid (waitL wt a=insL wt (wt.countP (·< a)) a):=by show _=_;unfold waitL;rw [if_neg (by rw [hc];decide)]
  rw [hc] at HS
  clear hc
  generalize wt.countP (·< a)=k at *
  go_enter Tryz.func238,Tryz.ntmps238
  go_wp2_with (first
   | (go_at_call 251;refine HS.out.mono ?_;rintro e w2 ⟨rfl,b2⟩;have H2:=hid (HH.out.bl b2);have p2:w2.cell? ⟨g.p,13,none⟩=some vw:=(by rw [cell_blk H2.out.blk];rfl);have hp2:=cell_lt p2;have B2:=hid b2;clear b2 p13 hp HS HH)
   | (go_at_call 252;refine (finsert vw wt k a w2.heap.size 1 (w2.alloc (.cells #[.int .i64 a] 3)) w1.heap.size HK.out (rowBl H2.out.wts ((Bl.refl w2).alloc _)) HL.out (by have:=H2.out.fz.size;simp;omega) (mblk rfl) (fun e=>by have:=(H2.out.wts.lt _ e).2;omega)).mono ?_;rintro e w3 ⟨v',rfl,I⟩;obtain ⟨A3,c3,hv3,-,-⟩:=own_formT I.own;subst hv3;have I3:=hid (I.bl ((Bl.refl w2).alloc _));have H3:=hid (H2.out.newwt I3.out);have hb3:=I3.out.gr.block _ (lt_some H2.out.blk) (fun e=>own_far H2.out.wts H2.out.blk (by decide) e.symm);have hp3:w3.cell? ⟨g.p,13,none⟩=some vw:=(by rw [World.cell?_of_block hb3];exact p2);have hf3:w3.frozen? ⟨g.p,13,none⟩=false:=frz_of (hb3.trans H2.out.blk) _;have hl3:=cell_lt hp3;clear I hb3))
  go_end0
  rw [E1.out]
  exact ⟨rfl,rv,_,sp,H3.out⟩
end
end
section
theorem rtF_set {cur:As} {st:List (Option As)} {a:Nat} {s:As} (ha:a<st.length) {r:Nat} (hr:2≤r):rtF cur (st.set a (some s)) r=if r=2+2*a then s.slots else if r=3+2*a then s.stk else rtF cur st r:=by
 by_cases h1:r=2+2*a
 ·rw [if_pos h1,h1]
  exact rtF_slots (nth_set_eq ha)
 ·rw [if_neg h1]
  by_cases h2:r=3+2*a
  ·rw [if_pos h2,h2]
   exact rtF_stk (nth_set_eq ha)
  ·rw [if_neg h2]
   unfold rtF
   rw [if_neg (by omega),if_neg (by omega),if_neg (by omega),if_neg (by omega),nth_set_ne (by omega)]
theorem spRow {n a:Nat} {sp:Nat→Option Nat} {b:Nat} (ha:a<n):(((List.range n).map (fun k=>spV (sp k))).toArray).setIfInBounds a (.pointer (some ⟨b,0,none⟩))=((List.range n).map (fun k=>spV (if k=a then some b else sp k))).toArray:=by
 apply Array.ext_getElem?
 intro i
 rw [Array.getElem?_setIfInBounds]
 by_cases h:a=i
 ·subst h
  rw [if_pos rfl,if_pos (by simpa using ha)]
  simp [ha,spV]
 ·rw [if_neg h]
  by_cases hi:i<n
  ·simp [hi,show ¬i=a from fun e=>h e.symm]
  ·simp [hi]
section
variable {X:Nat→Prop} {wx w1:World} {g:Gf} {b0:Nat} {w W:World} {cur:As} {at':Int} {st:List (Option As)} {wt:List Int} {rv:Nat→Value} {vw:Value} {sp:Nat→Option Nat}
theorem FA.psb (H:FA X wx w1 g b0 w cur at' st wt rv vw sp):g.p≠g.sb:=fun e=>by
 have h1:=H.blk
 rw [e,H.sbk] at h1
 have:=Option.some.inj h1
 injection this with _ e3
 exact absurd e3 (by decide)
theorem FA.ksb (H:FA X wx w1 g b0 w cur at' st wt rv vw sp) {k b:Nat} (e:sp k=some b):b≠g.sb:=fun e2=>by
 have h1:=(H.sts k b e).2.2.2
 rw [e2,H.sbk] at h1
 have:=Option.some.inj h1
 injection this with _ e3
 exact absurd e3 (by decide)
theorem FA.newst1 (H:FA X wx w1 g b0 w cur at' st wt rv vw sp) (hbl:Bl w W) {a b:Nat} {s:As} {v0 v1:Value} (ha:a<st.length) (hsp:sp a=none) (hb:W.heap[b]?=some (.cells #[v0,v1] 223 (0,0))) (hbn:w.heap.size≤b)
  (r0:W.ownsRow w.heap.size 233 2 v0 s.slots.length (tyCs s.slots)) (r1:W.ownsRow w.heap.size 233 2 v1 s.stk.length (tyCs s.stk)) (sep:∀c,v0.ownBlock=some c→v1.ownBlock≠some c) :
  FA X wx w1 g b0 (W.setCell ⟨g.sb,a,none⟩ (.pointer (some ⟨b,0,none⟩))) cur at' (st.set a (some s)) wt (fun r=>if r=2+2*a then v0 else if r=3+2*a then v1 else rv r) vw (fun k=>if k=a then some b else sp k):=by
 have K:=H.bl hbl
 have hg:=grown_set (w:=W) g.sb a (.pointer (some ⟨b,0,none⟩))
 have hlt:=lt_some H.sbk
 have hb1:∀c o,W.heap[c]?=some o→c≠g.sb→(W.setCell ⟨g.sb,a,none⟩ (.pointer (some ⟨b,0,none⟩))).heap[c]?=some o:=fun c o h h1=>(hg.block c (lt_some h) (fun e=>h1 (Option.some.inj e))).trans h
 have hown:∀{base:Nat} {sz n:Nat} {v:Value} {xs:List Value},W.ownsRow base 233 sz v n xs→(W.setCell ⟨g.sb,a,none⟩ (.pointer (some ⟨b,0,none⟩))).ownsRow base 233 sz v n xs:=fun ho=>ho.kept hg (Or.inr (own_far ho K.sbk (by decide)))
 have hsz:w1.heap.size≤w.heap.size:=H.fz.size
 have hold:∀r c,(rv r).ownBlock=some c→c<w.heap.size:=H.lt0
 have hn0:∀c,v0.ownBlock=some c→w.heap.size≤c:=fun c e=>(r0.lt c e).1
 have hn1:∀c,v1.ownBlock=some c→w.heap.size≤c:=fun c e=>(r1.lt c e).1
 have hspo:∀k c,sp k=some c→c<w.heap.size:=fun k c e=>lt_some (H.sts k c e).2.2.2
 refine ⟨⟨hg.os.trans K.fz.os,hg.tape.trans K.fz.tape,hg.output.trans K.fz.output,Nat.le_trans K.fz.size hg.size,fun c h0 h1 h2=>(hg.block c (Nat.lt_of_lt_of_le h0 K.fz.size) (fun e=>h2 (Option.some.inj e))).trans (K.fz.block c h0 h1 h2)⟩,K.pin,?_,?_,?_,?_,?_,?_,?_,?_,?_,K.wts.kept hg (Or.inr (own_far K.wts K.sbk (by decide))),?_,?_⟩
 ·rw [List.length_set]
  try dsimp only
  rw [if_neg (by omega),if_neg (by omega),if_neg (by omega),if_neg (by omega)]
  exact hb1 _ _ K.blk K.psb
 ·try dsimp only
  rw [if_neg (by omega),if_neg (by omega)]
  exact hown K.row0
 ·try dsimp only
  rw [if_neg (by omega),if_neg (by omega)]
  exact hown K.row1
 ·intro r hr
  try dsimp only
  rw [rtF_set ha hr]
  by_cases h1:r=2+2*a
  ·rw [if_pos h1,if_pos h1];exact own_base (hown r0) hsz
  ·rw [if_neg h1,if_neg h1]
   by_cases h2:r=3+2*a
   ·rw [if_pos h2,if_pos h2];exact own_base (hown r1) hsz
   ·rw [if_neg h2,if_neg h2];exact hown (K.rows r hr)
 ·intro r r' c hne
  try dsimp only
  intro e1 e2
  by_cases h1:r=2+2*a
  ·rw [if_pos h1] at e1
   rw [if_neg (by omega)] at e2
   by_cases h2:r'=3+2*a
   ·rw [if_pos h2] at e2;exact sep c e1 e2
   ·rw [if_neg h2] at e2;have:=hold _ _ e2;have:=hn0 _ e1;omega
  ·rw [if_neg h1] at e1
   by_cases h2:r=3+2*a
   ·rw [if_pos h2] at e1
    by_cases h3:r'=2+2*a
    ·rw [if_pos h3] at e2;exact sep c e2 e1
    ·rw [if_neg h3,if_neg (by omega)] at e2;have:=hold _ _ e2;have:=hn1 _ e1;omega
   ·rw [if_neg h2] at e1
    by_cases h3:r'=2+2*a
    ·rw [if_pos h3] at e2;have:=hold _ _ e1;have:=hn0 _ e2;omega
    ·rw [if_neg h3] at e2
     by_cases h4:r'=3+2*a
     ·rw [if_pos h4] at e2;have:=hold _ _ e1;have:=hn1 _ e2;omega
     ·rw [if_neg h4] at e2;exact H.sep r r' c hne e1 e2
 ·rw [block_set K.sbk,spRow ha,List.length_set]
 ·intro k c e
  try dsimp only at e ⊢
  rw [List.length_set]
  by_cases h1:k=a
  ·subst h1
   rw [if_pos rfl] at e
   cases e
   rw [if_pos rfl,if_neg (by omega),if_pos rfl]
   exact ⟨ha,⟨s,nth_set_eq ha⟩,by omega,hb1 _ _ hb (by omega)⟩
  ·rw [if_neg h1] at e
   rw [if_neg (by omega),if_neg (by omega),if_neg (by omega),if_neg (by omega),nth_set_ne (fun e=>h1 e.symm)]
   exact ⟨(K.sts k c e).1,(K.sts k c e).2.1,(K.sts k c e).2.2.1,hb1 _ _ (K.sts k c e).2.2.2 (K.ksb e)⟩
 ·intro k e
  try dsimp only at e
  by_cases h1:k=a
  ·rw [if_pos h1] at e;cases e
  ·rw [if_neg h1] at e
   rw [nth_set_ne (fun e=>h1 e.symm)];exact K.stn k e
 ·intro k j c e1 e2
  try dsimp only at e1 e2
  by_cases h1:k=a
  ·by_cases h2:j=a
   ·rw [h1,h2]
   ·rw [if_pos h1] at e1;rw [if_neg h2] at e2;cases e1;have:=hspo _ _ e2;omega
  ·rw [if_neg h1] at e1
   by_cases h2:j=a
   ·rw [if_pos h2] at e2;cases e2;have:=hspo _ _ e1;omega
   ·rw [if_neg h2] at e2;exact H.inj k j c e1 e2
 ·intro c hx
  have f:=H.far c hx
  have hc:=(H.kept.blk c hx).1
  have hc2:=H.kept.size
  refine ⟨f.p,f.s,fun r=>?_,f.w,fun k=>?_⟩
  ·try dsimp only
   by_cases h1:r=2+2*a
   ·rw [if_pos h1];intro e;have:=hn0 _ e;omega
   ·rw [if_neg h1]
    by_cases h2:r=3+2*a
    ·rw [if_pos h2];intro e;have:=hn1 _ e;omega
    ·rw [if_neg h2];exact f.r r
  ·try dsimp only
   by_cases h1:k=a
   ·rw [if_pos h1];intro e;cases e;omega
   ·rw [if_neg h1];exact f.k k
 ·exact ⟨Nat.le_trans K.kept.size hg.size,fun c hx=>⟨(K.kept.blk c hx).1,(hg.block c (Nat.lt_of_lt_of_le (K.kept.blk c hx).1 K.kept.size) (fun e=>(H.far c hx).s (Option.some.inj e))).trans (K.kept.blk c hx).2⟩⟩
theorem FA.newst2 (H:FA X wx w1 g b0 w cur at' st wt rv vw sp) {a b:Nat} {s':As} {cs:List Cl} (hsp:sp a=some b) (Q:MQ cs w1.heap.size b s' (rv (2+2*a)) (rv (3+2*a)) w W) :
  FA X wx w1 g b0 W cur at' (st.set a (some s')) wt rv vw sp:=by
 have ha:=(H.sts a b hsp).1
 have hR0:=H.rows (2+2*a) (by omega)
 have hR1:=H.rows (3+2*a) (by omega)
 have hb1:∀c o,w.heap[c]?=some o→(rv (2+2*a)).ownBlock≠some c→(rv (3+2*a)).ownBlock≠some c→W.heap[c]?=some o:=fun c o h h1 h2=>(Q.gr.block c (lt_some h) (fun e=>h1 e.symm) (fun e=>h2 e.symm)).trans h
 have hbt:∀(c:Nat) (cs':Array Value) (t:TypeId) (f:Nat×Nat),w.heap[c]?=some (Obj.cells cs' t f)→t≠233→W.heap[c]?=some (Obj.cells cs' t f):=fun c cs' t f h ht=>hb1 c _ h (own_far hR0 h ht) (own_far hR1 h ht)
 have hown:∀{base:Nat} {e:TypeId} {sz n:Nat} {v:Value} {xs:List Value},w.ownsRow base e sz v n xs→(∀c,v.ownBlock=some c→(rv (2+2*a)).ownBlock≠some c∧(rv (3+2*a)).ownBlock≠some c)→W.ownsRow base e sz v n xs:=by
  intro base e sz n v xs ho hf
  obtain ⟨e1,e2|⟨gb,cap,cu,rfl,x1,x2,x3⟩⟩:=ho
  ·exact ⟨e1,Or.inl e2⟩
  ·exact ⟨e1,Or.inr ⟨gb,cap,cu,rfl,x1,hb1 gb _ x2 (hf gb rfl).1 (hf gb rfl).2,x3⟩⟩
 have hsep:∀r,r≠2+2*a→r≠3+2*a→∀c,(rv r).ownBlock=some c→(rv (2+2*a)).ownBlock≠some c∧(rv (3+2*a)).ownBlock≠some c:=fun r h1 h2 c e=>⟨fun x=>H.sep _ _ c (fun y=>h1 y.symm) x e,fun x=>H.sep _ _ c (fun y=>h2 y.symm) x e⟩
 have hwt:W.ownsRow w1.heap.size 3 1 vw wt.length (wt.map (Value.int .i64)):=hown H.wts (fun c e=>by
  rcases H.wts.2 with ⟨h,_⟩|⟨gb,cap,cu,h,x1,x2,x3⟩
  ·rw [h] at e;cases e
  ·rw [h] at e
   have:gb=c:=by simpa [Value.ownBlock] using e
   subst this
   exact ⟨own_far hR0 x2 (by decide),own_far hR1 x2 (by decide)⟩)
 refine ⟨⟨Q.gr.os.trans H.fz.os,Q.gr.tape.trans H.fz.tape,Q.gr.output.trans H.fz.output,Nat.le_trans H.fz.size Q.gr.size,fun c h0 h1 h2=>(Q.gr.block c (Nat.lt_of_lt_of_le h0 H.fz.size) (fun e=>by have:=(hR0.lt c e.symm).1;omega) (fun e=>by have:=(hR1.lt c e.symm).1;omega)).trans (H.fz.block c h0 h1 h2)⟩,H.pin,?_,hown H.row0 (hsep 0 (by omega) (by omega)),hown H.row1 (hsep 1 (by omega) (by omega)),?_,H.sep,?_,?_,?_,H.inj,hwt,H.far,?_⟩
 ·rw [List.length_set];exact hbt _ _ _ _ H.blk (by decide)
 ·intro r hr
  rw [rtF_set ha hr]
  by_cases h1:r=2+2*a
  ·rw [if_pos h1,h1];exact Q.rs
  ·rw [if_neg h1]
   by_cases h2:r=3+2*a
   ·rw [if_pos h2,h2];exact Q.rk
   ·rw [if_neg h2];exact hown (H.rows r hr) (hsep r h1 h2)
 ·rw [List.length_set];exact hbt _ _ _ _ H.sbk (by decide)
 ·intro k c e
  rw [List.length_set]
  refine ⟨(H.sts k c e).1,?_,(H.sts k c e).2.2.1,hbt _ _ _ _ (H.sts k c e).2.2.2 (by decide)⟩
  by_cases h1:k=a
  ·exact ⟨s',by rw [h1];exact nth_set_eq ha⟩
  ·rw [nth_set_ne (fun e=>h1 e.symm)];exact (H.sts k c e).2.1
 ·intro k e
  by_cases h1:k=a
  ·rw [h1,hsp] at e;cases e
  ·rw [nth_set_ne (fun e=>h1 e.symm)];exact H.stn k e
 ·exact ⟨Nat.le_trans H.kept.size Q.gr.size,fun c hx=>⟨(H.kept.blk c hx).1,(Q.gr.block c (Nat.lt_of_lt_of_le (H.kept.blk c hx).1 H.kept.size) (fun e=>(H.far c hx).r _ e.symm) (fun e=>(H.far c hx).r _ e.symm)).trans (H.kept.blk c hx).2⟩⟩
end
end
section
structure Gd (n sl:Nat) (st:List (Option As)) (wt:List Int):Prop where
 len:∀k s,nth none st k=some s→s.slots.length=sl
 ok:∀k s,nth none st k=some s→(∀x∈s.slots,refOk n x)∧(∀x∈s.stk,refOk n x)
 srt:wt.Pairwise (·≤ ·)
 wl:wt.length≤1000
 sl:sl≤1000
 stl:st.length≤1000
def Su (w:World) (u:Value) (l:List Ty) (rv:Nat→Value):Prop:=∃A c,u=.slice A l.length c∧l.length≤1000∧(l.length=0∨∃ob,A=some ⟨ob,0,none⟩∧Rd w ob l∧∀r,2≤r→(rv r).ownBlock≠some ob)
theorem Su.bl {w w':World} {u:Value} {l:List Ty} {rv:Nat→Value} (h:Su w u l rv) (b:Bl w w'):Su w' u l rv:=by
 obtain ⟨A,c,h1,h2,h3⟩:=h
 exact ⟨A,c,h1,h2,h3.elim Or.inl (fun ⟨ob,e,r,n⟩=>Or.inr ⟨ob,e,r.bl b,n⟩)⟩
theorem Su.rv' {w:World} {u:Value} {l:List Ty} {rv:Nat→Value} (h:Su w u l rv):RV w u l:=by
 obtain ⟨A,c,h1,h2,h3⟩:=h
 exact ⟨A,c,h1,h2,h3.elim Or.inl (fun ⟨ob,e,r,n⟩=>Or.inr ⟨ob,e,r⟩)⟩
theorem Su.rvn {w:World} {u:Value} {l:List Ty} {rv:Nat→Value} (h:Su w u l rv) {a b:Nat} (ha:2≤a) (hb:2≤b):RVn w u l (rv a).ownBlock (rv b).ownBlock:=by
 obtain ⟨A,c,h1,h2,h3⟩:=h
 exact ⟨A,c,h1,h2,h3.elim Or.inl (fun ⟨ob,e,r,n⟩=>Or.inr ⟨ob,e,fun q=>n a ha q.symm,fun q=>n b hb q.symm,r⟩)⟩
theorem FA.su {X:Nat→Prop} {wx w1:World} {g:Gf} {b0:Nat} {w:World} {cur:As} {at':Int} {st:List (Option As)} {wt:List Int} {rv:Nat→Value} {vw:Value} {sp:Nat→Option Nat} {base r0:Nat} {l:List Ty} (H:FA X wx w1 g b0 w cur at' st wt rv vw sp) (hr:r0<2) (h:w.ownsRow base 233 2 (rv r0) l.length (tyCs l)) (hl:l.length≤1000):Su w (rv r0) l rv:=by
 obtain ⟨A,cap,h1,h2,h3,h4⟩:=rowCell h
 refine ⟨A,cap,h1,hl,h4.elim Or.inl (fun ⟨gb,e,_,_,r⟩=>Or.inr ⟨gb,e,⟨r⟩,fun q hq x=>?_⟩)⟩
 exact H.sep r0 q gb (by omega) (by rw [h1,e];rfl) x
def leadT (cs:List Cl) (sl stk:List Ty) (a:Nat) (st:List (Option As)) (wt:List Int):Option (List (Option As)×List Int) :=
 match nth none st a with
 | none=>some (st.set a (some ⟨sl,stk⟩),waitL wt a)
 | some s =>
  if s.stk.length=stk.length then
   if hasA (mergeL cs s.stk stk)=true then none
   else some (st.set a (some (mergeA cs s ⟨sl,stk⟩)),if lessA cs s ⟨sl,stk⟩=true then waitL wt a else wt)
  else none
def LdQ (X:Nat→Prop) (wx w1:World) (g:Gf) (b0:Nat) (cur:As) (at':Int) (r:Option (List (Option As)×List Int)) (e:Ending) (w':World):Prop :=
 match r with
 | none=>e=upE∧FE X wx w1 g w'
 | some p=>e=.returned (.tuple #[])∧FX X wx w1 g b0 w' cur at' p.1 p.2
section
variable {X:Nat→Prop} {wx w0 w1:World} {g:Gf} {b0:Nat} {w:World} {cur:As} {at':Int} {st:List (Option As)} {wt:List Int} {rv:Nat→Value} {vw:Value} {sp:Nat→Option Nat} {f:Fi} {m:Me}
theorem FA.p12 (H:FA X wx w1 g b0 w cur at' st wt rv vw sp):w.cell? ⟨g.p,12,none⟩=some (.slice (some ⟨g.sb,0,none⟩) st.length g.sc):=by rw [cell_blk H.blk];rfl
theorem FA.p0 (H:FA X wx w1 g b0 w cur at' st wt rv vw sp):w.cell? ⟨g.p,0,none⟩=some (rv 0):=by rw [cell_blk H.blk];rfl
theorem FA.p14 (H:FA X wx w1 g b0 w cur at' st wt rv vw sp):w.cell? ⟨g.p,14,none⟩=some g.c14:=by rw [cell_blk H.blk];rfl
theorem FA.sbc (H:FA X wx w1 g b0 w cur at' st wt rv vw sp) {k:Nat} (hk:k<st.length):w.cell? ⟨g.sb,k,none⟩=some (spV (sp k)):=by rw [cell_blk H.sbk];simp [hk]
theorem FA.spn (H:FA X wx w1 g b0 w cur at' st wt rv vw sp) {k:Nat} (hk:nth none st k=none):sp k=none:=by
 cases h:sp k with
 | none=>rfl
 | some b =>
  obtain ⟨s,hs⟩:=(H.sts k b h).2.1
  rw [hk] at hs;cases hs
theorem fleadW_out (a:Int) (u:Value) (H:FX X wx w1 g b0 w cur at' st wt) (ha:¬(0≤a∧a<st.length)) :
  Calls Tryz.prog 205 #[.pointer (some ⟨g.p,0,none⟩),.int .i64 a,u] w fun e w'=>e=upE∧FE X wx w1 g w':=by
 have HH:=hid H.fe
 obtain ⟨rv,vw,sp,H⟩:=H
 have p12:=H.p12
 have hp:=cell_lt p12
 have hd:decide (0≤a∧a<(st.length:Int))=false:=decide_eq_false ha
 clear H ha
 go_enter Tryz.func205,Tryz.ntmps205
 go_wp2_with (first
  | (go_at_call 97;refine (numbers_any _ _ _).mono ?_;rintro e w2 ⟨rfl,hw⟩;rw [hw];clear hw w2)
  | (go_at_call 208;refine (up_any _).mono ?_;rintro e w2 ⟨rfl,hw⟩;rw [hw];clear hw w2))
 exact ⟨rfl,rfl,HH.out⟩
theorem fleadW_new (a:Nat) (u:Value) (stk:List Ty) (H:FA X wx w1 g b0 w cur at' st wt rv vw sp) (G:Gd f.classes.length cur.slots.length st wt) (hu:Su w u stk rv) (ha:a<st.length) (hn:nth none st a=none) :
  Calls Tryz.prog 205 #[.pointer (some ⟨g.p,0,none⟩),.int .i64 (a:Int),u] w fun e w'=>e=.returned (.tuple #[])∧FX X wx w1 g b0 w' cur at' (st.set a (some ⟨cur.slots,stk⟩)) (waitL wt a):=by
 have hsp:=H.spn hn
 have p12:=H.p12
 have hp:=cell_lt p12
 have p0:=H.p0
 have sb:w.cell? ⟨g.sb,a,none⟩=some (.pointer none):=by have:=H.sbc ha;rw [hsp] at this;exact this
 have hsb:=cell_lt sb
 obtain ⟨A0,c0,e0,-,-⟩:=own_formT H.row0
 have S0:=hid (H.su (r0:=0) (by omega) H.row0 G.sl).rv'
 rw [e0] at p0 S0
 obtain ⟨A1,c1,e1,-,-⟩:=id hu
 subst e1
 have SU:=hid hu.rv'
 have hd:decide (0≤(a:Int)∧(a:Int)<(st.length:Int))=true:=decide_eq_true ⟨by omega,by omega⟩
 have HH:=hid H
 have HG:=hid G
 have HA:=hid ha
 have HS:=hid hsp
 have hk0:(0:Int)≤(a:Int):=by omega
 have hk1:(a:Int)<(st.length:Int):=by omega
 have HB:Hid (Bl w (w.alloc (.cells #[.slice A0 cur.slots.length c0,.slice A1 stk.length c1] 223))):=(Bl.refl w).alloc _
 have ZB:=hid (mblk (w:=w) (cs:=#[.slice A0 cur.slots.length c0,.slice A1 stk.length c1]) (t:=223) rfl)
 clear H G hu ha hn hsp e0
 go_enter Tryz.func205,Tryz.ntmps205
 go_wp2_with (go_at_call 97;refine (numbers_any _ _ _).mono ?_;rintro e w2 ⟨rfl,hw⟩;rw [hw];clear hw w2)
 go_quiet (fail)
 have BV:=hid (bl_drewN HB.out nq)
 have ZV:=hid (bl_blk (bl_drewN (Bl.refl _) nq) ZB.out)
 clear HB ZB p0
 generalize (w.alloc (.cells #[.slice A0 cur.slots.length c0,.slice A1 stk.length c1] 223)).drewN nq=V at *
 go_wp2_with (first
  | (go_at_call 171;refine (fcopied_any w.heap.size ⟨cur.slots,stk⟩ _ _ V ZV.out (S0.out.bl BV.out) (SU.out.bl BV.out)).mono ?_;rintro e w3 ⟨v0,v1,rfl,Q⟩;obtain ⟨a3,q3,rfl,-,-⟩:=own_formT Q.r0;obtain ⟨a4,q4,rfl,-,-⟩:=own_formT Q.r1;have B3:=hid (BV.out.trans Q.bl);have K3:=hid (HH.out.bl B3.out);have p3:=K3.out.p12;have hp3:=cell_lt p3;have s3:w3.cell? ⟨g.sb,a,none⟩=some (.pointer none):=(by have:=K3.out.sbc HA.out;rw [HS.out] at this;exact this);have hs3:=cell_lt s3;have fs3:w3.frozen? ⟨g.sb,a,none⟩=false:=frz_of K3.out.sbk _;have F3:Hid (FX X wx w1 g b0 ((w3.setCell ⟨g.sb,a,none⟩ (.pointer (some ⟨w3.heap.size,0,none⟩))).alloc (.cells #[.slice a3 cur.slots.length q3,.slice a4 stk.length q4] 223)) cur at' (st.set a (some ⟨cur.slots,stk⟩)) wt):=(by
     have:=HH.out.newst1 (s:=⟨cur.slots,stk⟩) (B3.out.alloc (.cells #[.slice a3 cur.slots.length q3,.slice a4 stk.length q4] 223)) HA.out HS.out (mblk rfl) B3.out.size (rowBl (own_base Q.r0 BV.out.size) ((Bl.refl _).alloc _)) (rowBl (own_base Q.r1 BV.out.size) ((Bl.refl _).alloc _)) Q.sep
     rw [World.setCell_alloc_past _ _ _ _ hs3] at this
     exact ⟨_,_,_,this⟩);clear Q p12 hp sb hsb)
  | (go_at_call 238;refine (fwait_any (a:Int) F3.out HG.out.srt HG.out.wl).mono ?_;rintro e w5 ⟨rfl,f5⟩))
 go_end0
 exact ⟨rfl,f5⟩
end
end
section
section
variable {X:Nat→Prop} {wx w0 w1:World} {g:Gf} {b0:Nat} {w:World} {cur:As} {at':Int} {st:List (Option As)} {wt:List Int} {rv:Nat→Value} {vw:Value} {sp:Nat→Option Nat} {f:Fi} {m:Me}
theorem FA.sps (H:FA X wx w1 g b0 w cur at' st wt rv vw sp) {k:Nat} {s:As} (hk:nth none st k=some s):∃b,sp k=some b:=by
 cases h:sp k with
 | none=>rw [H.stn k h] at hk;cases hk
 | some b=>exact ⟨b,rfl⟩
theorem FA.jnG (C:Cx w0 w1 g f m) (H:FA X wx w1 g b0 w cur at' st wt rv vw sp) {a b:Nat} (ha:2≤a) (hb:2≤b):∀w',Gr2 w w' (rv a).ownBlock (rv b).ownBlock→JnAt w' g.c14 f.classes:=by
 intro w' hg
 have hc:∀q o v,w1.cell? ⟨q,o,none⟩=some v→q≠g.p→q≠g.sb→w'.cell? ⟨q,o,none⟩=some v:=fun q o v h h1 h2=>by
  have hl:=cell_lt h
  have e:=hg.block q (Nat.lt_of_lt_of_le hl H.fz.size) (fun e=>by have:=((H.rows a ha).lt q e.symm).1;omega) (fun e=>by have:=((H.rows b hb).lt q e.symm).1;omega)
  rw [World.cell?_of_block e,World.cell?_of_block (H.fz.block q hl h1 h2)];exact h
 obtain ⟨jb,jo,jc,h1,h2,h3,h4⟩:=C.jn
 refine ⟨jb,jo,jc,h1,fun i hi=>?_⟩
 obtain ⟨rb,ro,rc,a1,a2,a3,a4⟩:=h4 i hi
 exact ⟨rb,ro,rc,hc _ _ _ a1 h2 h3,fun j hj=>hc _ _ _ (a4 j hj) a2 a3⟩
theorem FA.mp (C:Cx w0 w1 g f m) (H:FA X wx w1 g b0 w cur at' st wt rv vw sp) {a b:Nat} {s:As} {u:Value} {stk:List Ty} (hsp:sp a=some b) (hs:nth none st a=some s) (hu:Su w u stk rv) (hl:cur.slots.length≤1000) :
  MP f.classes g.c14 w1.heap.size b s ⟨cur.slots,stk⟩ (rv (2+2*a)) (rv (3+2*a)) (rv 0) u w:=by
 have r0:=H.rows (2+2*a) (by omega)
 have r1:=H.rows (3+2*a) (by omega)
 rw [rtF_slots hs] at r0
 rw [rtF_stk hs] at r1
 exact ⟨(H.sts a b hsp).2.2.2,r0,r1,fun c e=>H.sep _ _ c (by omega) e,(H.su (r0:=0) (by omega) H.row0 hl).rvn (by omega) (by omega),hu.rvn (by omega) (by omega),H.jnG C (by omega) (by omega)⟩
theorem fleadW_old (C:Cx w0 w1 g f m) (a:Nat) (u:Value) (stk:List Ty) (s:As) (H:FA X wx w1 g b0 w cur at' st wt rv vw sp) (G:Gd f.classes.length cur.slots.length st wt) (hu:Su w u stk rv) (hn:nth none st a=some s)
  (r3:∀x∈cur.slots,refOk f.classes.length x) (r4:∀x∈stk,refOk f.classes.length x) :
  Calls Tryz.prog 205 #[.pointer (some ⟨g.p,0,none⟩),.int .i64 (a:Int),u] w fun e w'=>LdQ X wx w1 g b0 cur at' (leadT f.classes cur.slots stk a st wt) e w':=by
 obtain ⟨b,hsp⟩:=H.sps hn
 have ha:=(H.sts a b hsp).1
 have p12:=H.p12
 have hp:=cell_lt p12
 have p0:=H.p0
 have sb:w.cell? ⟨g.sb,a,none⟩=some (.pointer (some ⟨b,0,none⟩)):=by have:=H.sbc ha;rw [hsp] at this;exact this
 have hsb:=cell_lt sb
 obtain ⟨A0,c0,e0,-,-⟩:=own_formT H.row0
 rw [e0] at p0
 obtain ⟨A1,c1,e1,-,-⟩:=id hu
 subst e1
 have E0:=hid e0
 have SU:=hid hu
 have hd:decide (0≤(a:Int)∧(a:Int)<(st.length:Int))=true:=decide_eq_true ⟨by omega,by omega⟩
 have HH:=hid H
 have HG:=hid G
 have HA:=hid ha
 have HS:=hid hsp
 have HN:=hid hn
 have HC:=hid C
 have RR:=hid (And.intro r3 r4)
 have hk0:(0:Int)≤(a:Int):=by omega
 have hk1:(a:Int)<(st.length:Int):=by omega
 obtain ⟨r,hr⟩:∃r,r=leadT f.classes cur.slots stk a st wt:=⟨_,rfl⟩
 rw [←hr]
 have ER:Hid (r=if s.stk.length=stk.length then if hasA (mergeL f.classes s.stk stk)=true then none else some (st.set a (some (mergeA f.classes s ⟨cur.slots,stk⟩)),if lessA f.classes s ⟨cur.slots,stk⟩=true then waitL wt a else wt) else none):=by show r=_;rw [hr];unfold leadT;rw [hn]
 have HB:Hid (Bl w (w.alloc (.cells #[.slice A0 cur.slots.length c0,.slice A1 stk.length c1] 223))):=(Bl.refl w).alloc _
 have ZB:=hid (mblk (w:=w) (cs:=#[.slice A0 cur.slots.length c0,.slice A1 stk.length c1]) (t:=223) rfl)
 clear H G hu ha hn hsp e0 C r3 r4 hr
 go_enter Tryz.func205,Tryz.ntmps205
 go_wp2_with (go_at_call 97;refine (numbers_any _ _ _).mono ?_;rintro e w2 ⟨rfl,hw⟩;rw [hw];clear hw w2)
 clear p12 p0 sb hsb hp
 have hwl:=lt_some ZB.out
 have KB:=hid (HH.out.bl HB.out)
 have hpl:=lt_some KB.out.blk
 generalize w.alloc (.cells #[.slice A0 cur.slots.length c0,.slice A1 stk.length c1] 223)=V at *
 refine wp_region_held_drew (S:=fun w'=>w'.cell? ⟨g.p,14,none⟩=some g.c14∧w'.cell? ⟨w.heap.size,0,none⟩=some (.slice A0 cur.slots.length c0)∧w'.cell? ⟨w.heap.size,1,none⟩=some (.slice A1 stk.length c1)) (by kernel_rfl) ?_ (fun hHeld0=>?_)
 ·exact ⟨KB.out.p14,c0_of ZB.out,c1_of ZB.out⟩
 iterate 9 (refine tn rfl (by kernel_rfl) (fun _ _ _ h=>h) (by intro _ h;go_split_ands;go_simp<;>with_reducible rfl) hHeld0 ?_;try simp only [aZ])
 refine rd1 (i:=9) (by kernel_rfl) rfl fun K hK=>?_
 go_simp
 go_at_call 237
 have KD:=hid (KB.out.bl (Bl.refl V).drew)
 have M:=hid (KD.out.mp HC.out HS.out HN.out (SU.out.bl (HB.out.trans (Bl.refl V).drew)) HG.out.sl)
 rw [E0.out] at M
 by_cases h1:s.stk.length=stk.length
 ·have gok:=HG.out.ok a s HN.out
  refine (fmerge_yes f.classes (may_tree HC.out.may).2.2 g.c14 w1.heap.size b s ⟨cur.slots,stk⟩ _ _ _ _ V.drew M.out h1 (HG.out.len a s HN.out) gok.1 gok.2 RR.out.1 RR.out.2).mono ?_
  intro e w3 hq
  obtain ⟨he,Q⟩:=hq
  have N3:=hid (KD.out.newst2 HS.out Q)
  have Z3:Hid (w3.heap[w.heap.size]?=some (.cells #[.slice A0 cur.slots.length c0,.slice A1 stk.length c1] 223 (0,0))):=(Q.gr.block _ (lt_some (bl_blk (Bl.refl V).drew ZB.out)) (fun e=>by have:=HH.out.lt0 _ _ e.symm;omega) (fun e=>by have:=HH.out.lt0 _ _ e.symm;omega)).trans ZB.out
  clear Q M
  cases h2:hasA (mergeL f.classes s.stk stk) with
  | true =>
   rw [show hasA (mergeL f.classes s.stk (⟨cur.slots,stk⟩:As).stk)=true from h2,if_pos rfl] at he
   subst he
   refine ⟨rfl,?_⟩
   rw [ER.out,if_pos h1,if_pos h2]
   exact ⟨rfl,FX.fe ⟨_,_,_,N3.out⟩⟩
  | false =>
   rw [show hasA (mergeL f.classes s.stk (⟨cur.slots,stk⟩:As).stk)=false from h2,if_neg (by decide)] at he
   subst he
   have E2:Hid (r=some (st.set a (some (mergeA f.classes s ⟨cur.slots,stk⟩)),if lessA f.classes s ⟨cur.slots,stk⟩=true then waitL wt a else wt)):=by show r=_;rw [ER.out,if_pos h1,if_neg (by rw [h2];decide)]
   clear h1 h2 ER gok
   generalize lessA f.classes s ⟨cur.slots,stk⟩=l at *
   refine hK.out _ _ ⟨N3.out.p14,c0_of Z3.out,c1_of Z3.out⟩ (fun hHeld1=>?_)
   try simp only [aZ]
   iterate 2 (refine tn rfl (by kernel_rfl) (fun _ _ _ h=>h) (by intro _ h;go_split_ands;go_simp<;>with_reducible rfl) hHeld1 ?_;try simp only [aZ])
   refine wpAnyH_done (by kernel_rfl) ?_ _
   clear hHeld0 hHeld1 hK
   cases l with
   | true =>
    go_wp2_with (go_at_call 238;refine (fwait_any (a:Int) (X:=X) (wx:=wx) (w1:=w1) (g:=g) (b0:=b0) (cur:=cur) (at':=at') (st:=st.set a (some (mergeA f.classes s ⟨cur.slots,stk⟩))) (wt:=wt) ⟨_,_,_,N3.out⟩ HG.out.srt HG.out.wl).mono ?_;rintro e w5 ⟨rfl,f5⟩)
    go_end0
    rw [E2.out]
    exact ⟨rfl,f5⟩
   | false =>
    go_wp2
    refine bodyPost_ret (results_none rfl _ _ _) rfl ?_
    rw [E2.out]
    exact ⟨rfl,_,_,_,N3.out⟩
 ·refine (fmerge_no f.classes g.c14 w1.heap.size b s ⟨cur.slots,stk⟩ _ _ _ _ V.drew M.out h1).mono ?_
  rintro e w3 ⟨rfl,b3⟩
  refine ⟨rfl,?_⟩
  rw [ER.out,if_neg h1]
  exact ⟨rfl,FX.fe ⟨_,_,_,KD.out.bl b3⟩⟩
end
end
theorem ins_mem {wt:List Int} {k:Nat} {a x:Int}:x∈insL wt k a↔x=a∨x∈wt:=by
 unfold insL
 rw [List.mem_append,List.mem_cons]
 have:x∈wt↔x∈wt.take k∨x∈wt.drop k:=by rw [←List.mem_append,List.take_append_drop]
 rw [this]
 constructor
 ·rintro (h|h|h)
  ·exact Or.inr (Or.inl h)
  ·exact Or.inl h
  ·exact Or.inr (Or.inr h)
 ·rintro (h|h|h)
  ·exact Or.inr (Or.inl h)
  ·exact Or.inl h
  ·exact Or.inr (Or.inr h)
theorem wait_mem {wt:List Int} {a x:Int}:x∈waitL wt a↔x=a∨x∈wt:=by
 unfold waitL
 split
 ·rename_i h
  constructor
  ·exact Or.inr
  ·rintro (rfl|h2)
   ·exact List.contains_iff_mem.1 h
   ·exact h2
 ·exact ins_mem
theorem wait_length (wt:List Int) (a:Int):(waitL wt a).length≤wt.length+1:=by
 unfold waitL
 split
 ·omega
 ·rw [insL_length a List.countP_le_length];omega
theorem ins_sorted {a:Int}:∀{wt:List Int},wt.Pairwise (·< ·)→a∉wt→(insL wt (wt.countP (·< a)) a).Pairwise (·< ·)
 | [],_,_=>by simp [insL]
 | x::r,h,hn=>by
  rw [List.pairwise_cons] at h
  by_cases hx:x<a
  ·rw [List.countP_cons_of_pos (by simpa using hx)]
   have ih:=ins_sorted h.2 (fun h2=>hn (List.mem_cons_of_mem _ h2))
   show (x::insL r (r.countP (·< a)) a).Pairwise (·< ·)
   rw [List.pairwise_cons]
   refine ⟨fun y hy=>?_,ih⟩
   rcases ins_mem.1 hy with rfl|hy
   ·exact hx
   ·exact h.1 y hy
  ·have hxa:a<x:=by
    have:x≠a:=fun e=>hn (by rw [e];exact List.mem_cons_self)
    omega
   have h0:(x::r).countP (·< a)=0:=by
    rw [List.countP_eq_zero]
    intro y hy
    rcases List.mem_cons.1 hy with rfl|hy
    ·simpa using hx
    ·have:=h.1 y hy
     simp;omega
   rw [h0]
   show (a::x::r).Pairwise (·< ·)
   rw [List.pairwise_cons,List.pairwise_cons]
   refine ⟨fun y hy=>?_,h⟩
   rcases List.mem_cons.1 hy with rfl|hy
   ·exact hxa
   ·have:=h.1 y hy;omega
theorem wait_sorted {wt:List Int} (a:Int) (h:wt.Pairwise (·< ·)):(waitL wt a).Pairwise (·< ·):=by
 unfold waitL
 split
 ·exact h
 ·rename_i hc
  exact ins_sorted h (fun hm=>hc (List.contains_iff_mem.2 hm))
theorem sorted_length:∀{l:List Int} {lo hi:Int},l.Pairwise (·< ·)→(∀x∈l,lo≤x∧x<hi)→lo≤hi→(l.length:Int)≤hi-lo
 | [],lo,hi,_,_,h=>by simp;omega
 | x::r,lo,hi,h,hr,hl=>by
  rw [List.pairwise_cons] at h
  have hx:=hr x List.mem_cons_self
  have ih:=sorted_length (lo:=x+1) (hi:=hi) h.2 (fun y hy=>⟨by have:=h.1 y hy;omega,(hr y (List.mem_cons_of_mem _ hy)).2⟩) (by omega)
  rw [List.length_cons]
  omega
theorem merge_nth (cs:List Cl) (a b:List Ty) (j:Nat) (hj:j<a.length):nth ty0 (mergeL cs a b) j=m1 cs (nth ty0 a j) (nth ty0 b j):=by
 unfold mergeL
 rw [mergeTo_nth cs a b _ j hj,if_pos hj]
theorem merge_length (cs:List Cl) (a b:List Ty):(mergeL cs a b).length=a.length:=mergeTo_length cs a b _
theorem nth_memT {l:List Ty} {j:Nat} (hj:j<l.length):nth ty0 l j∈l:=by rw [nth_get hj];exact List.getElem_mem hj
theorem mem_nth {l:List Ty} {x:Ty} (h:x∈l):∃j,j<l.length∧nth ty0 l j=x:=by
 obtain ⟨j,hj,rfl⟩:=List.getElem_of_mem h
 exact ⟨j,hj,nth_get hj⟩
theorem merge_le {cs:List Cl} (ht:Tree cs) {a b:List Ty} (hab:a.length=b.length) (ha:∀x∈a,refOk cs.length x) (hb:∀x∈b,refOk cs.length x):leL cs a (mergeL cs a b)∧leL cs b (mergeL cs a b):=by
 refine ⟨⟨(merge_length cs a b).symm,fun j hj=>?_⟩,⟨by rw [merge_length,hab],fun j hj=>?_⟩⟩
 ·rw [merge_nth cs a b j hj]
  exact (m1_le ht (ha _ (nth_memT hj)) (hb _ (nth_memT (by omega)))).1
 ·rw [merge_nth cs a b j (by omega)]
  exact (m1_le ht (ha _ (nth_memT (by omega))) (hb _ (nth_memT hj))).2
theorem merge_same {cs:List Cl} {a b:List Ty} (h:lessTo cs a b a.length=false):mergeL cs a b=a:=by
 refine ext_nth (merge_length cs a b) fun j hj=>?_
 rw [merge_length] at hj
 rw [merge_nth cs a b j hj]
 unfold lessTo at h
 rw [List.any_eq_false] at h
 have:=h j (List.mem_range.2 hj)
 rw [Bool.not_eq_true,Bool.not_eq_false'] at this
 exact eqT_eq.1 this
def htL (l:List Ty):Nat:=(l.map htT).sum
theorem htL_le:∀{a b:List Ty},a.length=b.length→(∀j,j<a.length→htT (nth ty0 a j)≤htT (nth ty0 b j))→htL a≤htL b∧((∃j,j<a.length∧htT (nth ty0 a j)<htT (nth ty0 b j))→htL a<htL b)
 | [],[],_,_=>⟨Nat.le_refl _,fun ⟨j,hj,_⟩=>absurd hj (by simp)⟩
 | x::a,y::b,hl,h=>by
  have ih:=htL_le (a:=a) (b:=b) (by simpa using hl) (fun j hj=>h (j+1) (by simpa using hj))
  have h0:=h 0 (by simp)
  have e1:htL (x::a)=htT x+htL a:=by unfold htL;simp
  have e2:htL (y::b)=htT y+htL b:=by unfold htL;simp
  have h0':htT x≤htT y:=h0
  refine ⟨by omega,fun ⟨j,hj,hlt⟩=>?_⟩
  cases j with
  | zero=>have hlt':htT x<htT y:=hlt;omega
  | succ j =>
   have:=ih.2 ⟨j,by simpa using hj,hlt⟩
   omega
 | [],y::b,hl,_=>by simp at hl
 | x::a,[],hl,_=>by simp at hl
theorem merge_ht {cs:List Cl} (ht:Tree cs) (h12:cs.length≤12) {a b:List Ty} (hab:a.length=b.length) (ha:∀x∈a,refOk cs.length x) (hb:∀x∈b,refOk cs.length x):htL (mergeL cs a b)≤htL a∧(lessTo cs a b a.length=true→htL (mergeL cs a b)<htL a):=by
 have hj:∀j,j<a.length→(eqT (m1 cs (nth ty0 a j) (nth ty0 b j)) (nth ty0 a j)=true→htT (nth ty0 (mergeL cs a b) j)=htT (nth ty0 a j))∧(eqT (m1 cs (nth ty0 a j) (nth ty0 b j)) (nth ty0 a j)=false→htT (nth ty0 (mergeL cs a b) j)<htT (nth ty0 a j)):=fun j hj=>by
  rw [merge_nth cs a b j hj]
  exact ⟨fun e=>by rw [eqT_eq.1 e],fun e=>m1_ht ht h12 (ha _ (nth_memT hj)) (hb _ (nth_memT (by omega))) e⟩
 have hle:=htL_le (a:=mergeL cs a b) (b:=a) (merge_length cs a b) (fun j h=>by
  rw [merge_length] at h
  cases he:eqT (m1 cs (nth ty0 a j) (nth ty0 b j)) (nth ty0 a j) with
  | true=>exact Nat.le_of_eq ((hj j h).1 he)
  | false=>exact Nat.le_of_lt ((hj j h).2 he))
 refine ⟨hle.1,fun hl=>hle.2 ?_⟩
 unfold lessTo at hl
 rw [List.any_eq_true] at hl
 obtain ⟨j,hjm,hn⟩:=hl
 have hjl:=List.mem_range.1 hjm
 exact ⟨j,by rw [merge_length];exact hjl,(hj j hjl).2 (by simpa using hn)⟩
structure Wn (f:Fi) (m:Me) (s:As):Prop where
 wq:Wq f m s
 nr:Nr s
theorem m1_kind {cs:List Cl} (x y:Ty):m1 cs x y=x∨m1 cs x y=ty0∨(x.kind=3∧y.kind=3∧(m1 cs x y).kind=3):=by
 unfold m1 bothT
 split
 ·exact Or.inl rfl
 split
 ·exact Or.inr (Or.inl rfl)
 ·rename_i h1
  have k1:x.kind=3:=by omega
  have k2:y.kind=3:=by omega
  refine Or.inr (Or.inr ⟨k1,k2,?_⟩)
  split
  ·exact k2
  ·split
   ·exact k1
   ·rfl
theorem m1_two {cs:List Cl} {x y:Ty} {k:Int} (hk:k=2∨k=4) (h:(m1 cs x y).kind=k):x=y∧m1 cs x y=x∧x.kind=k:=by
 unfold m1 bothT at h ⊢
 split at h
 ·rename_i e
  rw [if_pos e]
  exact ⟨eqT_eq.1 e,rfl,h⟩
 split at h
 ·exact absurd h (by rw [show ty0.kind=0 from rfl];omega)
 ·rename_i h1
  exfalso
  have k1:x.kind=3:=by omega
  have k2:y.kind=3:=by omega
  split at h
  ·omega
  ·split at h
   ·omega
   ·have:(3:Int)=k:=h
    omega
theorem m1_self (cs:List Cl) (x:Ty):m1 cs x x=x:=by unfold m1;rw [if_pos (eqT_eq.2 rfl)]
theorem ty_of {x:Ty} {k:Int} (h:x.kind=k) (h3:k≠3) (hn:nrT x):x=⟨k,0⟩:=by
 have:=hn (by omega)
 cases x
 dsimp only at h this
 rw [h,this]
theorem merge_pair {cs:List Cl} {a b:List Ty} (hab:a.length=b.length) (ha:PairT a) (hb:PairT b) (na:∀t∈a,nrT t) (nb:∀t∈b,nrT t):PairT (mergeL cs a b):=by
 unfold PairT PairK at ha hb ⊢
 rw [merge_length]
 have two:∀i k,i<a.length→(k=2∨k=4)→(nth ty0 (mergeL cs a b) i).kind=k→(nth ty0 a i).kind=k∧(nth ty0 b i).kind=k:=fun i k hi hk h=>by
  rw [merge_nth cs a b i hi] at h
  obtain ⟨h1,h2,h3⟩:=m1_two hk h
  exact ⟨h3,by rw [←h1];exact h3⟩
 have back:∀i k,i<a.length→(k=2∨k=4)→(nth ty0 a i).kind=k→(nth ty0 b i).kind=k→(nth ty0 (mergeL cs a b) i).kind=k:=fun i k hi hk h1 h2=>by
  have e1:=ty_of h1 (by omega) (na _ (nth_memT hi))
  have e2:=ty_of h2 (by omega) (nb _ (nth_memT (by omega)))
  rw [merge_nth cs a b i hi,e1,e2,m1_self]
 refine ⟨fun i hi h=>?_,fun i hi h=>?_⟩
 ·obtain ⟨x1,x2⟩:=two i 2 hi (Or.inl rfl) h
  have y1:=ha.1 i hi x1
  have y2:=hb.1 i (by omega) x2
  exact ⟨y1.1,back (i+1) 4 y1.1 (Or.inr rfl) y1.2 y2.2⟩
 ·obtain ⟨x1,x2⟩:=two i 4 hi (Or.inr rfl) h
  have y1:=ha.2 i hi x1
  have y2:=hb.2 i (by omega) x2
  exact ⟨y1.1,back (i-1) 2 (by omega) (Or.inl rfl) y1.2 y2.2⟩
theorem merge_all {cs:List Cl} {a b:List Ty} {P:Ty→Prop} (hab:a.length=b.length) (h:∀x y,x∈a→y∈b→m1 cs x y∈mergeL cs a b→P (m1 cs x y)):∀t∈mergeL cs a b,P t:=by
 intro t ht
 obtain ⟨j,hj,e⟩:=mem_nth ht
 rw [merge_length] at hj
 rw [merge_nth cs a b j hj] at e
 rw [←e] at ht ⊢
 exact h _ _ (nth_memT hj) (nth_memT (by omega)) ht
theorem Wn.merge {f:Fi} {m:Me} (ht:Tree f.classes) {s t:As} (hs:Wn f m s) (hv:Wn f m t) (hl:s.stk.length=t.stk.length) (hh:hasA (mergeL f.classes s.stk t.stk)=false):Wn f m (mergeA f.classes s t):=by
 have hsl:s.slots.length=t.slots.length:=by have:=hs.wq.wf.len;have:=hv.wq.wf.len;omega
 have nrm:∀x y,nrT x→nrT y→nrT (m1 f.classes x y):=fun x y hx hy=>by
  rcases m1_kind (cs:=f.classes) x y with e|e|⟨_,_,e⟩
  ·rw [e];exact hx
  ·rw [e];exact fun _=>rfl
  ·exact fun h=>absurd e h
 refine ⟨⟨⟨?_,merge_pair hsl hs.wq.wf.pair hv.wq.wf.pair hs.nr.sl hv.nr.sl,merge_all hsl (fun x y hx hy _=>?_),merge_all hl (fun x y hx hy hm=>?_)⟩,?_⟩,⟨merge_all hsl (fun x y hx hy _=>nrm x y (hs.nr.sl x hx) (hv.nr.sl y hy)),merge_all hl (fun x y hx hy _=>nrm x y (hs.nr.st x hx) (hv.nr.st y hy))⟩⟩
 ·show ((mergeL f.classes s.slots t.slots).length:Int)=_
  rw [merge_length];exact hs.wq.wf.len
 ·have h1:=hs.wq.wf.sl x hx
  refine ⟨m1_refOk ht h1.1 (hv.wq.wf.sl y hy).1,?_⟩
  rcases m1_kind (cs:=f.classes) x y with e|e|⟨_,_,e⟩
  ·rw [e];exact h1.2
  ·rw [e];exact ⟨by decide,by decide⟩
  ·omega
 ·have h1:=hs.wq.wf.st x hx
  refine ⟨m1_refOk ht h1.1 (hv.wq.wf.st y hy).1,?_⟩
  rcases m1_kind (cs:=f.classes) x y with e|e|⟨_,_,e⟩
  ·rw [e];exact h1.2
  ·exfalso
   have:hasA (mergeL f.classes s.stk t.stk)=true:=by
    unfold hasA
    rw [List.any_eq_true]
    exact ⟨_,hm,eqT_eq.2 e.symm⟩
   rw [this] at hh;exact absurd hh (by decide)
  ·omega
 ·show (mergeL f.classes s.stk t.stk).length≤100
  rw [merge_length];exact hs.wq.len
def htO:Option As→Nat
 | none=>22001
 | some s=>htL s.slots+htL s.stk
def Mh (st:List (Option As)) (wt:List Int):Nat:=2*(st.map htO).sum+wt.length
theorem sum_set:∀(l:List (Option As)) (a:Nat) (x:Option As),a<l.length→((l.set a x).map htO).sum+htO (nth none l a)=(l.map htO).sum+htO x
 | [],a,x,h=>absurd h (by simp)
 | y::l,0,x,h=>by
  show (htO x+(l.map htO).sum)+htO y=(htO y+(l.map htO).sum)+htO x
  omega
 | y::l,a+1,x,h=>by
  have ih:=sum_set l a x (by simpa using h)
  show (htO y+((l.set a x).map htO).sum)+htO (nth none l a)=(htO y+(l.map htO).sum)+htO x
  omega
theorem ht20 {n:Nat} {t:Ty} (hn:n≤12) (h:refOk n t):htT t≤20:=by
 unfold htT
 split
 ·rename_i k
  split
  ·omega
  ·rename_i hc
   have:=(h k).resolve_left hc
   omega
 ·split<;>omega
theorem htL20 {n:Nat} (hn:n≤12):∀{l:List Ty},(∀t∈l,refOk n t)→htL l≤20*l.length
 | [],_=>Nat.le_refl _
 | x::l,h=>by
  have ih:=htL20 hn (l:=l) (fun t ht=>h t (List.mem_cons_of_mem _ ht))
  have hx:=ht20 hn (h x List.mem_cons_self)
  have e1:htL (x::l)=htT x+htL l:=by unfold htL;simp
  rw [e1,List.length_cons]
  omega
structure Gs (f:Fi) (m:Me) (st:List (Option As)) (wt:List Int):Prop where
 wf:∀k s,nth none st k=some s→Wn f m s
 srt:wt.Pairwise (·< ·)
 rng:∀x∈wt,0≤x∧x<st.length
 stl:st.length≤1000
 loc:0≤m.locs∧m.locs≤1000
 has:∀x∈wt,∃s,nth none st x.toNat=some s
theorem Gs.wl {f:Fi} {m:Me} {st:List (Option As)} {wt:List Int} (G:Gs f m st wt):wt.length≤1000:=by
 have:=sorted_length (lo:=0) (hi:=st.length) G.srt G.rng (by omega)
 have:=G.stl
 omega
theorem Gs.gd {f:Fi} {m:Me} {st:List (Option As)} {wt:List Int} {cur:As} (G:Gs f m st wt) (hc:Wq f m cur):Gd f.classes.length cur.slots.length st wt :=
 ⟨fun k s h=>by have:=(G.wf k s h).wq.wf.len;have:=hc.wf.len;omega,fun k s h=>⟨fun x hx=>((G.wf k s h).wq.wf.sl x hx).1,fun x hx=>((G.wf k s h).wq.wf.st x hx).1⟩,G.srt.imp (fun h=>Int.le_of_lt h),G.wl,by have:=hc.wf.len;have:=G.loc;omega,G.stl⟩
structure Led (cs:List Cl) (st:List (Option As)) (wt:List Int) (st':List (Option As)) (wt':List Int):Prop where
 len:st'.length=st.length
 up:∀k s,nth none st k=some s→∃s',nth none st' k=some s'∧leA cs s s'
 keep:∀x∈wt,x∈wt'
 new:∀k,nth none st' k=nth none st k∨(k:Int)∈wt'
 ms:Mh st' wt'≤Mh st wt
theorem Led.refl (cs:List Cl) (st:List (Option As)) (wt:List Int):Led cs st wt st wt:=⟨rfl,fun k s h=>⟨s,h,leA.refl cs s⟩,fun x h=>h,fun k=>Or.inl rfl,Nat.le_refl _⟩
theorem Led.trans {cs:List Cl} (ht:Tree cs) {s1 s2 s3:List (Option As)} {w1 w2 w3:List Int} (h:Led cs s1 w1 s2 w2) (k:Led cs s2 w2 s3 w3):Led cs s1 w1 s3 w3:=by
 refine ⟨k.len.trans h.len,fun j s e=>?_,fun x hx=>k.keep x (h.keep x hx),fun j=>?_,Nat.le_trans k.ms h.ms⟩
 ·obtain ⟨s',e1,l1⟩:=h.up j s e
  obtain ⟨s2,e2,l2⟩:=k.up j s' e1
  exact ⟨s2,e2,l1.trans ht l2⟩
 ·rcases k.new j with e|e
  ·rcases h.new j with e'|e'
   ·exact Or.inl (e.trans e')
   ·exact Or.inr (k.keep _ e')
  ·exact Or.inr e
theorem Led.leads {cs:List Cl} (ht:Tree cs) {s1 s2:List (Option As)} {w1 w2:List Int} (h:Led cs s1 w1 s2 w2) {t:Int} {s:As} (l:Leads cs s1 t s):Leads cs s2 t s:=by
 obtain ⟨h1,h2,u,h3,h4⟩:=l
 obtain ⟨u',e,l'⟩:=h.up _ u h3
 exact ⟨h1,by rw [h.len];exact h2,u',e,h4.trans ht l'⟩
theorem lead_led {f:Fi} {m:Me} (ht:Tree f.classes) (h12:f.classes.length≤12) {st st':List (Option As)} {wt wt':List Int} {sl stk:List Ty} {a:Nat} (G:Gs f m st wt) (hc:Wn f m ⟨sl,stk⟩) (ha:a<st.length) (h:leadT f.classes sl stk a st wt=some (st',wt')) :
  Gs f m st' wt'∧Led f.classes st wt st' wt'∧Leads f.classes st' (a:Int) ⟨sl,stk⟩:=by
 have hrw:∀x∈waitL wt a,0≤x∧x<st.length:=fun x hx=>by
  rcases wait_mem.1 hx with rfl|hx
  ·omega
  ·exact G.rng x hx
 have hta:(a:Int).toNat=a:=by omega
 have wfS:∀s,Wn f m s→∀k u,nth none (st.set a (some s)) k=some u→Wn f m u:=fun s hs k u e=>by
  rw [nth_setI ha] at e
  split at e
  ·rw [←Option.some.inj e];exact hs
  ·exact G.wf k u e
 have hasS:∀s x,(∃u,nth none st x=some u)∨x=a→∃u,nth none (st.set a (some s)) x=some u:=fun s x h=>by
  rw [nth_setI ha]
  split
  ·exact ⟨s,rfl⟩
  ·rename_i hne
   rcases h with h|h
   ·exact h
   ·exact absurd h.symm hne
 have hasW:∀s,∀x∈waitL wt a,∃u,nth none (st.set a (some s)) x.toNat=some u:=fun s x hx=>by
  rcases wait_mem.1 hx with rfl|hx
  ·exact hasS s _ (Or.inr hta)
  ·exact hasS s _ (Or.inl (G.has x hx))
 unfold leadT at h
 split at h
 ·rename_i hn
  have h:=Option.some.inj h
  have e1:st.set a (some ⟨sl,stk⟩)=st':=congrArg Prod.fst h
  have e2:waitL wt a=wt':=congrArg Prod.snd h
  subst e1;subst e2
  refine ⟨⟨wfS _ hc,wait_sorted _ G.srt,by rw [List.length_set];exact hrw,by rw [List.length_set];exact G.stl,G.loc,hasW _⟩,⟨List.length_set,fun k s e=>?_,fun x hx=>wait_mem.2 (Or.inr hx),fun k=>?_,?_⟩,⟨by omega,by rw [List.length_set];omega,⟨sl,stk⟩,by rw [hta];exact nth_set_eq ha,leA.refl _ _⟩⟩
  ·have:a≠k:=fun x=>by rw [x,e] at hn;cases hn
   exact ⟨s,by rw [nth_set_ne this];exact e,leA.refl _ _⟩
  ·by_cases hk:a=k
   ·exact Or.inr (wait_mem.2 (Or.inl (by rw [hk])))
   ·exact Or.inl (nth_set_ne hk)
  ·have hs:=sum_set st a (some ⟨sl,stk⟩) ha
   rw [hn] at hs
   have w1:=wait_length wt a
   have l1:=htL20 h12 (l:=sl) (fun t ht=>(hc.wq.wf.sl t ht).1)
   have l2:=htL20 h12 (l:=stk) (fun t ht=>(hc.wq.wf.st t ht).1)
   have l3:(sl.length:Int)=m.locs:=hc.wq.wf.len
   have l4:stk.length≤100:=hc.wq.len
   have l5:=G.loc
   have e1:htO none=22001:=rfl
   have e2:htO (some ⟨sl,stk⟩)=htL sl+htL stk:=rfl
   unfold Mh
   omega
 ·rename_i s hn
  have hw:=G.wf a s hn
  split at h
  ·rename_i hl
   split at h
   ·cases h
   ·rename_i hh
    have h:=Option.some.inj h
    have e1:st.set a (some (mergeA f.classes s ⟨sl,stk⟩))=st':=congrArg Prod.fst h
    have e2:(if lessA f.classes s ⟨sl,stk⟩=true then waitL wt a else wt)=wt':=congrArg Prod.snd h
    have hsl:s.slots.length=sl.length:=by have:=hw.wq.wf.len;have:(sl.length:Int)=m.locs:=hc.wq.wf.len;omega
    have Wm:Wn f m (mergeA f.classes s ⟨sl,stk⟩):=hw.merge ht hc hl (by simpa using hh)
    have ra:∀x∈s.slots,refOk f.classes.length x:=fun x hx=>(hw.wq.wf.sl x hx).1
    have rb:∀x∈s.stk,refOk f.classes.length x:=fun x hx=>(hw.wq.wf.st x hx).1
    have rc:∀x∈sl,refOk f.classes.length x:=fun x hx=>(hc.wq.wf.sl x hx).1
    have rd:∀x∈stk,refOk f.classes.length x:=fun x hx=>(hc.wq.wf.st x hx).1
    have L1:=merge_le ht hsl ra rc
    have L2:=merge_le ht hl rb rd
    have T1:=merge_ht ht h12 hsl ra rc
    have T2:=merge_ht ht h12 hl rb rd
    have hs:=sum_set st a (some (mergeA f.classes s ⟨sl,stk⟩)) ha
    rw [hn] at hs
    have e3:htO (some s)=htL s.slots+htL s.stk:=rfl
    have e4:htO (some (mergeA f.classes s ⟨sl,stk⟩))=htL (mergeL f.classes s.slots sl)+htL (mergeL f.classes s.stk stk):=rfl
    have sub:∀x∈wt,x∈wt':=fun x hx=>by
     rw [←e2]
     split
     ·exact wait_mem.2 (Or.inr hx)
     ·exact hx
    have fin:Leads f.classes st' (a:Int) ⟨sl,stk⟩:=by rw [←e1];exact ⟨by omega,by rw [List.length_set];omega,mergeA f.classes s ⟨sl,stk⟩,by rw [hta];exact nth_set_eq ha,⟨L1.2,L2.2⟩⟩
    have up:∀k u,nth none st k=some u→∃s',nth none st' k=some s'∧leA f.classes u s':=fun k u e=>by
     rw [←e1]
     by_cases hk:a=k
     ·subst hk
      rw [hn] at e
      have:=Option.some.inj e
      subst this
      exact ⟨_,nth_set_eq ha,⟨L1.1,L2.1⟩⟩
     ·exact ⟨u,by rw [nth_set_ne hk];exact e,leA.refl _ _⟩
    have hlen:st'.length=st.length:=by rw [←e1];exact List.length_set
    by_cases hle:lessA f.classes s ⟨sl,stk⟩=true
    ·rw [if_pos hle] at e2
     subst e2
     refine ⟨⟨by rw [←e1];exact wfS _ Wm,wait_sorted _ G.srt,by rw [hlen];exact hrw,by rw [hlen];exact G.stl,G.loc,by rw [←e1];exact hasW _⟩,⟨hlen,up,sub,fun k=>?_,?_⟩,fin⟩
     ·by_cases hk:a=k
      ·exact Or.inr (wait_mem.2 (Or.inl (by rw [hk])))
      ·exact Or.inl (by rw [←e1];exact nth_set_ne hk)
     ·have w1:=wait_length wt a
      unfold lessA at hle
      rw [Bool.or_eq_true] at hle
      have:htL (mergeL f.classes s.slots sl)+htL (mergeL f.classes s.stk stk)<htL s.slots+htL s.stk:=by
       rcases hle with q|q
       ·have:=T1.2 q;have:=T2.1;omega
       ·have:=T2.2 q;have:=T1.1;omega
      rw [←e1]
      unfold Mh
      omega
    ·rw [if_neg hle] at e2
     subst e2
     have hle':lessTo f.classes s.slots sl s.slots.length=false∧lessTo f.classes s.stk stk s.stk.length=false:=by
      have:lessA f.classes s ⟨sl,stk⟩=false:=by simpa using hle
      unfold lessA at this
      rw [Bool.or_eq_false_iff] at this
      exact this
     have same:mergeA f.classes s ⟨sl,stk⟩=s:=by
      unfold mergeA
      rw [show mergeL f.classes s.slots (⟨sl,stk⟩:As).slots=s.slots from merge_same hle'.1,show mergeL f.classes s.stk (⟨sl,stk⟩:As).stk=s.stk from merge_same hle'.2]
     refine ⟨⟨by rw [←e1];exact wfS _ Wm,G.srt,by rw [hlen];exact G.rng,by rw [hlen];exact G.stl,G.loc,fun x hx=>by rw [←e1];exact hasS _ _ (Or.inl (G.has x hx))⟩,⟨hlen,up,sub,fun k=>Or.inl ?_,?_⟩,fin⟩
     ·rw [←e1,nth_setI ha]
      split
      ·rename_i hk
       rw [same,←hk,hn]
      ·rfl
     ·have:=T1.1;have:=T2.1
      rw [←e1]
      unfold Mh
      omega
  ·cases h
end Go.Proofs.YtgiiapenmjollaaGreat
